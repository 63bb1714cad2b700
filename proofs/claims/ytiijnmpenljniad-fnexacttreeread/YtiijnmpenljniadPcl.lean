/- The cells of a list of pointers; a row of pointers that a call has built, to be read and to be written (no law is proved here). -/
import Derived.Test.YtiijnmpenljniadOwn
import Derived.Test.YtiijnmpenljniadFrame
import Derived.Deep.AppendLies
import Derived.Deep.WholeRow
namespace Go.Proofs.Ytiijnmpenljniad
open Go.RowKit
set_option linter.unusedVariables false

/-- The cells of a list of pointers. -/
def pcl : List (Int × Int) → List Value
  | [] => []
  | x :: l => .int .i64 x.1 :: .int .i64 x.2 :: pcl l
theorem pcl_len : ∀ l, (pcl l).length = l.length * 2
  | [] => rfl
  | x :: l => by simp [pcl, pcl_len l]; omega
theorem pcl_append : ∀ l m, pcl (l ++ m) = pcl l ++ pcl m
  | [], m => rfl
  | x :: l, m => by simp [pcl, pcl_append l m]
theorem pcl_one : ∀ l, ∀ u ∈ pcl l, u.oneCell' = true
  | [], u, hu => by simp [pcl] at hu
  | x :: l, u, hu => by
    simp only [pcl, List.mem_cons] at hu
    rcases hu with rfl | rfl | hu
    · rfl
    · rfl
    · exact pcl_one l u hu
theorem pcl_get : ∀ (l : List (Int × Int)) i, i < l.length → (pcl l)[i * 2]? = some (.int .i64 (l.getD i (0, 0)).1) ∧ (pcl l)[i * 2 + 1]? = some (.int .i64 (l.getD i (0, 0)).2) := by
  intro l
  induction l with
  | nil => intro i hi; simp at hi
  | cons x l ih =>
    intro i hi
    cases i with
    | zero => exact ⟨rfl, rfl⟩
    | succ i =>
      have := ih i (by simpa using hi)
      rw [show (i + 1) * 2 = i * 2 + 1 + 1 by omega]
      simpa [pcl] using this

def fstL (l : List (Int × Int)) (i : Nat) : Int := (l.getD i (0, 0)).1
def sndL (l : List (Int × Int)) (i : Nat) : Int := (l.getD i (0, 0)).2

theorem infoPtrL : (Try.prog.info? 35).map (fun i => (i.zero, i.size, i.bytes)) = some (some (.agg #[.int .i64 0, .int .i64 0]), 2, 16) := by kernel_rfl
theorem grownL {w w1 : World} (h : Below w.heap.size w w1) (row : Option Nat) : w.grownBy w1 row := ⟨h.os, h.tape, h.output, h.size, fun k hk _ => h.block k hk⟩

/-- A row of pointers in the block b. -/
def RowL (w : World) (base : Nat) (v : Value) (l : List (Int × Int)) : Prop := w.ownsRow base 35 2 v l.length (pcl l)

theorem RowL.below {w w1 : World} {base : Nat} {v : Value} {l : List (Int × Int)} (h : RowL w base v l) (hb : Below w.heap.size w w1) : RowL w1 base v l :=
  h.kept (grownL hb none) (by cases v.ownBlock <;> simp)
theorem RowL.turned {w w1 : World} {base : Nat} {v : Value} {l : List (Int × Int)} {row : Option Nat} (h : RowL w base v l) (hg : w.grownBy w1 row) (hne : ∀ q, v.ownBlock = some q → row ≠ some q) : RowL w1 base v l :=
  h.kept hg (by
    cases hv : v.ownBlock with
    | none => simp
    | some q => exact Or.inr (fun e => hne q hv e.symm))
theorem RowL.nil (w : World) (base : Nat) : RowL w base (.slice none 0 0) [] := World.ownsRow_nil _ _ _ _
theorem RowL.mono {w : World} {base base' : Nat} {v : Value} {l : List (Int × Int)} (h : RowL w base v l) (hb : base' ≤ base) : RowL w base' v l := by
  refine ⟨h.1, h.2.imp id ?_⟩
  rintro ⟨g, cap, cur, e, h1, h2⟩
  exact ⟨g, cap, cur, e, Nat.le_trans hb h1, h2⟩
theorem RowL.put {w : World} {base b o : Nat} {v : Value} {l : List (Int × Int)} (h : RowL w base v l) (hb : b < base) (u : Value) : RowL (w.setCell ⟨b, o, none⟩ u) base v l := by
  refine ⟨h.1, h.2.imp id ?_⟩
  rintro ⟨g, cap, cur, e, h1, h2, h3⟩
  exact ⟨g, cap, cur, e, h1, (Below.heap_setCell _ _ _ _ (fun e => by have : g = b := e; omega)).trans h2, h3⟩
theorem RowL.lt {w : World} {base : Nat} {v : Value} {l : List (Int × Int)} (h : RowL w base v l) {q : Nat} (hq : v.ownBlock = some q) : base ≤ q ∧ q < w.heap.size := by
  rcases h.2 with ⟨rfl, _⟩ | ⟨g, cap, cur, rfl, hb, hg, _⟩
  · simp [Value.ownBlock] at hq
  · simp only [Value.ownBlock, Option.some.injEq] at hq
    subst hq
    exact ⟨hb, (Array.getElem?_eq_some_iff.1 hg).1⟩

/-- To be written, too. -/
theorem RowL.own {w : World} {base : Nat} {v : Value} {l : List (Int × Int)} (h : RowL w base v l) (hm : l.length ≤ maxLen) : ∃ b, PtrsOwn w b v l.length (fstL l) (sndL l) ∧ (0 < l.length → v.ownBlock = some b ∧ base ≤ b ∧ b < w.heap.size) := by
  by_cases h0 : 0 < l.length
  · obtain ⟨g, cap, rfl, hcp, hb, hlt, hcell⟩ := owns_cell h h0
    refine ⟨g, ⟨hm, _, cap, rfl, hcp, fun _ => ⟨0, rfl, fun i hi => ?_⟩⟩, fun _ => ⟨rfl, hb, hlt⟩⟩
    rw [Nat.zero_add]
    exact ⟨hcell _ _ (pcl_get l i hi).1, hcell _ _ (pcl_get l i hi).2⟩
  · obtain ⟨a, cap, rfl, hcp⟩ := owns_form h
    exact ⟨0, ⟨hm, a, cap, rfl, hcp, fun h => absurd h h0⟩, fun h => absurd h h0⟩

/-- Two rows of pointers, in blocks of their own. -/
structure Two (w : World) (lo hi : Nat) (v v' : Value) (l l' : List (Int × Int)) (b b' : Nat) : Prop where
  one : PtrsOwn w b v l.length (fstL l) (sndL l)
  two : PtrsOwn w b' v' l'.length (fstL l') (sndL l')
  in1 : 0 < l.length → lo ≤ b ∧ b < hi
  in2 : 0 < l'.length → lo ≤ b' ∧ b' < hi
  apart : 0 < l.length → 0 < l'.length → b ≠ b'

theorem Two.of {w : World} {lo : Nat} {v v' : Value} {l l' : List (Int × Int)} (h : RowL w lo v l) (h' : RowL w lo v' l') (hm : l.length ≤ maxLen) (hm' : l'.length ≤ maxLen) (ha : ∀ q, v.ownBlock = some q → v'.ownBlock ≠ some q) : ∃ b b', Two w lo w.heap.size v v' l l' b b' := by
  obtain ⟨b, h1, h2⟩ := h.own hm
  obtain ⟨b', h3, h4⟩ := h'.own hm'
  refine ⟨b, b', h1, h3, fun h0 => (h2 h0).2, fun h0 => (h4 h0).2, fun h0 h0' e => ?_⟩
  subst e
  exact ha _ (h2 h0).1 (h4 h0').1
theorem Two.below {w w' : World} {lo hi : Nat} {v v' : Value} {l l' : List (Int × Int)} {b b' : Nat} (h : Two w lo hi v v' l l' b b') (t : Below w.heap.size w w') : Two w' lo hi v v' l l' b b' := ⟨h.one.below t, h.two.below t, h.in1, h.in2, h.apart⟩
theorem Two.turned {S : Nat → Prop} {w w' : World} {lo hi : Nat} {v v' : Value} {l l' : List (Int × Int)} {b b' : Nat} (h : Two w lo hi v v' l l' b b') (t : Turned S w w') (hs : ∀ k, S k → k < lo ∨ hi ≤ k) : Two w' lo hi v v' l l' b b' :=
  ⟨h.one.turned t (fun h0 hx => by have := h.in1 h0; have := hs _ hx; omega), h.two.turned t (fun h0 hx => by have := h.in2 h0; have := hs _ hx; omega), h.in1, h.in2, h.apart⟩

end Go.Proofs.Ytiijnmpenljniad
