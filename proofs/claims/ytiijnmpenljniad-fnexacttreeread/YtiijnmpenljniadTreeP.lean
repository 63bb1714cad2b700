/- The variable of impl.wayTo in memory: 41 cells, written one by one and sixteen at a time (no law is proved here). -/
import Derived.Test.YtiijnmpenljniadTreeN
import Derived.Test.YtiijnmpenljniadHops
import Derived.Deep.MidRow
namespace Go.Proofs.Ytiijnmpenljniad
open Go.RowKit
set_option linter.unusedVariables false

def wayZ : Array Value := #[.int .i64 0, .int .i64 0, .int .i64 0, .int .i64 0, .int .i64 0, .int .i64 0, .int .i64 0, .int .i64 0, .int .i64 0, .int .i64 0, .int .i64 0, .int .i64 0, .int .i64 0, .int .i64 0, .int .i64 0, .int .i64 0, .int .i64 0, .int .i64 0, .int .i64 0, .int .i64 0, .int .i64 0, .int .i64 0, .int .i64 0, .int .i64 0, .int .i64 0, .int .i64 0, .int .i64 0, .int .i64 0, .int .i64 0, .int .i64 0, .int .i64 0, .int .i64 0, .int .i64 0, .int .i64 0, .int .i64 0, .int .i64 0, .int .i64 0, .int .i64 0, .int .i64 0, .int .i64 0, .slice none 0 0]
def wayC (n : Nat) : Array Value := #[.int .i64 ((n : Int) / 8), .int .i64 ((n : Int) % 8), .int .i64 0, .int .i64 0, .int .i64 0, .int .i64 0, .int .i64 0, .int .i64 0, .int .i64 0, .int .i64 0, .int .i64 0, .int .i64 0, .int .i64 0, .int .i64 0, .int .i64 0, .int .i64 0, .int .i64 0, .int .i64 0, .int .i64 0, .int .i64 0, .int .i64 0, .int .i64 0, .int .i64 0, .int .i64 0, .int .i64 0, .int .i64 0, .int .i64 0, .int .i64 0, .int .i64 0, .int .i64 0, .int .i64 0, .int .i64 0, .int .i64 0, .int .i64 0, .int .i64 0, .int .i64 0, .int .i64 0, .int .i64 0, .int .i64 0, .int .i64 0, .slice none 0 0]
theorem infoWay : (Try.prog.info? 96).map (·.size) = some 41 := by kernel_rfl
theorem infoWayC (n : Nat) : (Try.prog.info? 96).map (·.size) = some (wayC n).size := infoWay
theorem wayC_one (n : Nat) : (wayC n).all (·.oneCell') = true := by simp [wayC, Value.oneCell']

/-- The cells of the variable in the block B. -/
def WayAt (w : World) (B : Nat) (f : Nat → Value) : Prop := ∀ i, i < 41 → Cell w B i (f i)
theorem WayAt.lt {w : World} {B : Nat} {f : Nat → Value} (h : WayAt w B f) : B < w.heap.size := (h 0 (by omega)).lt
theorem WayAt.below {w w' : World} {B : Nat} {f : Nat → Value} (h : WayAt w B f) (t : Below w.heap.size w w') : WayAt w' B f := fun i hi => (h i hi).below t
theorem WayAt.turned {S : Nat → Prop} {w w' : World} {B : Nat} {f : Nat → Value} (h : WayAt w B f) (t : Turned S w w') (hs : ¬ S B) : WayAt w' B f := fun i hi => (h i hi).turned t hs
theorem WayAt.congr {w : World} {B : Nat} {f g : Nat → Value} (h : WayAt w B f) (e : ∀ i, i < 41 → f i = g i) : WayAt w B g := fun i hi => e i hi ▸ h i hi
theorem WayAt.put {w : World} {B : Nat} {f : Nat → Value} (h : WayAt w B f) (o : Nat) (v : Value) : WayAt (w.setCell ⟨B, o, none⟩ v) B (fun i => if i = o then v else f i) := fun i hi => by
  show Cell _ B i (if i = o then v else f i)
  by_cases e : i = o
  · subst e
    rw [if_pos rfl]
    exact (h i hi).set v
  · rw [if_neg e]
    exact (h i hi).other v (Or.inr (fun h => e h.symm))
theorem WayAt.there {w : World} {B : Nat} {f : Nat → Value} (h : WayAt w B f) {o n : Nat} (hn : o + n ≤ 41) : w.there B o n := fun j hj => ⟨by rw [(h (o + j) (by omega)).1]; rfl, (h (o + j) (by omega)).2⟩
theorem WayAt.range {w : World} {B : Nat} {f : Nat → Value} (h : WayAt w B f) : w.rangeAt B 0 ((List.range 41).map f) := fun j v hv => by
  have hj : j < 41 := by have := (List.getElem?_eq_some_iff.1 hv).1; simpa using this
  rw [Nat.zero_add, (h j hj).1]
  simpa [hj] using hv
theorem WayAt.puts {w : World} {B : Nat} {f : Nat → Value} (h : WayAt w B f) (o : Nat) (vs : List Value) (hv : o + vs.length ≤ 41) : WayAt (w.setCells B o vs) B (fun i => if o ≤ i ∧ i < o + vs.length then vs.getD (i - o) undef else f i) := fun i hi => by
  refine ⟨?_, ?_⟩
  · show _ = some (if o ≤ i ∧ i < o + vs.length then vs.getD (i - o) undef else f i)
    by_cases e : o ≤ i ∧ i < o + vs.length
    · rw [if_pos e]
      have := World.cell?_setCells_in B vs o w (fun j hj => by rw [(h (o + j) (by omega)).1]; rfl) (i - o) (by omega)
      rw [show o + (i - o) = i by omega] at this
      rw [this, List.getD_eq_getElem?_getD, List.getElem?_eq_getElem (by omega), Option.getD_some]
    · rw [if_neg e, World.cell?_setCells_out B vs o w ⟨B, i, none⟩ (fun _ _ => by show i < o ∨ o + vs.length ≤ i; omega)]
      exact (h i hi).1
  · rw [World.frozen?_setCells]
    exact (h i hi).2

end Go.Proofs.Ytiijnmpenljniad
