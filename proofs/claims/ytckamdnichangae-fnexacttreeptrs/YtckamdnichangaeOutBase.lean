/- Variables that hold own pools, and what is handed back beside a code: a pool, a pointer and a number in one variable. -/
import Derived.Test.YtckamdnichangaeCopy
namespace Go.Proofs.Ytckamdnichangae
open Go.RowKit
set_option linter.unusedVariables false

/-- A variable that holds a pool of its own, in blocks from lo to hi. -/
structure PoolVar (w : World) (b lo hi : Nat) (v0 v1 : Value) (q : PoolD) : Prop where
  box : Box2 w b v0 v1
  own : PoolOwn w lo hi v0 v1 q

theorem PoolVar.below {w w' : World} {b lo hi : Nat} {v0 v1 : Value} {q : PoolD} (h : PoolVar w b lo hi v0 v1 q) (t : Below w.heap.size w w') : PoolVar w' b lo hi v0 v1 q := ⟨h.box.below t, h.own.below t⟩
theorem PoolVar.turned {S : Nat → Prop} {w w' : World} {b lo hi : Nat} {v0 v1 : Value} {q : PoolD} (h : PoolVar w b lo hi v0 v1 q) (t : Turned S w w') (hb : ¬ S b) (hs : ∀ k, S k → k < lo ∨ hi ≤ k) : PoolVar w' b lo hi v0 v1 q := ⟨h.box.turned t hb, h.own.turned t hs⟩

theorem poolVar_new {p : PoolD} {w1 w2 : World} {s0 s1 : Value} {t : TypeId} (ho : PoolOwn w2 w1.heap.size w2.heap.size s0 s1 p) (hb : Below w1.heap.size w1 w2) :
    PoolVar (w2.alloc (.cells #[s0, s1] t)) w2.heap.size w1.heap.size w2.heap.size s0 s1 p ∧ w1.heap.size ≤ w2.heap.size ∧ w2.heap.size < (w2.alloc (.cells #[s0, s1] t)).heap.size ∧ Below w1.heap.size w1 (w2.alloc (.cells #[s0, s1] t)) :=
  ⟨⟨Box2.new _ _ _ _, ho.below (below_alloc _ _)⟩, hb.size, by rw [World.size_alloc]; exact Nat.lt_succ_self _, below_next hb (below_alloc _ _)⟩

theorem slotsN_le {f g : Nat → SlotD} (h : ∀ i, slotN (f i) ≤ slotN (g i)) : ∀ n, slotsN f n ≤ slotsN g n
  | 0 => Nat.le_refl _
  | n + 1 => Nat.add_le_add (slotsN_le h n) (h n)

/-- A variable of five cells. -/
def Box5 (w : World) (b : Nat) (v0 v1 v2 v3 v4 : Value) : Prop := Cell w b 0 v0 ∧ Cell w b 1 v1 ∧ Cell w b 2 v2 ∧ Cell w b 3 v3 ∧ Cell w b 4 v4
theorem Box5.below {w w' : World} {b : Nat} {v0 v1 v2 v3 v4 : Value} (h : Box5 w b v0 v1 v2 v3 v4) (t : Below w.heap.size w w') : Box5 w' b v0 v1 v2 v3 v4 := ⟨h.1.below t, h.2.1.below t, h.2.2.1.below t, h.2.2.2.1.below t, h.2.2.2.2.below t⟩
theorem Box5.turned {S : Nat → Prop} {w w' : World} {b : Nat} {v0 v1 v2 v3 v4 : Value} (h : Box5 w b v0 v1 v2 v3 v4) (t : Turned S w w') (hs : ¬ S b) : Box5 w' b v0 v1 v2 v3 v4 := ⟨h.1.turned t hs, h.2.1.turned t hs, h.2.2.1.turned t hs, h.2.2.2.1.turned t hs, h.2.2.2.2.turned t hs⟩
theorem Box5.new (w : World) (v0 v1 v2 v3 v4 : Value) (t : TypeId) : Box5 (w.alloc (.cells #[v0, v1, v2, v3, v4] t)) w.heap.size v0 v1 v2 v3 v4 := by
  have hb : (w.alloc (.cells #[v0, v1, v2, v3, v4] t)).heap[w.heap.size]? = some (.cells #[v0, v1, v2, v3, v4] t) := heap_alloc_new _ _
  exact ⟨cell_of_block hb rfl, cell_of_block hb rfl, cell_of_block hb rfl, cell_of_block hb rfl, cell_of_block hb rfl⟩
/-- The five cells written. -/
abbrev put5 (w : World) (b : Nat) (u0 u1 u2 u3 u4 : Value) : World := ((((w.setCell ⟨b, 0, none⟩ u0).setCell ⟨b, 1, none⟩ u1).setCell ⟨b, 2, none⟩ u2).setCell ⟨b, 3, none⟩ u3).setCell ⟨b, 4, none⟩ u4
theorem Box5.put {w : World} {b : Nat} {v0 v1 v2 v3 v4 : Value} (h : Box5 w b v0 v1 v2 v3 v4) (u0 u1 u2 u3 u4 : Value) : Box5 (put5 w b u0 u1 u2 u3 u4) b u0 u1 u2 u3 u4 := by
  obtain ⟨h0, h1, h2, h3, h4⟩ := h
  refine ⟨?_, ?_, ?_, ?_, ?_⟩
  · exact ((((h0.set _).other _ (Or.inr (by omega))).other _ (Or.inr (by omega))).other _ (Or.inr (by omega))).other _ (Or.inr (by omega))
  · exact ((((h1.other _ (Or.inr (by omega))).set _).other _ (Or.inr (by omega))).other _ (Or.inr (by omega))).other _ (Or.inr (by omega))
  · exact ((((h2.other _ (Or.inr (by omega))).other _ (Or.inr (by omega))).set _).other _ (Or.inr (by omega))).other _ (Or.inr (by omega))
  · exact ((((h3.other _ (Or.inr (by omega))).other _ (Or.inr (by omega))).other _ (Or.inr (by omega))).set _).other _ (Or.inr (by omega))
  · exact ((((h4.other _ (Or.inr (by omega))).other _ (Or.inr (by omega))).other _ (Or.inr (by omega))).other _ (Or.inr (by omega))).set _
theorem Turned.put5 (w : World) (b : Nat) (u0 u1 u2 u3 u4 : Value) : Turned (fun k => k = b) w (put5 w b u0 u1 u2 u3 u4) :=
  ((((Turned.put w b 0 u0).trans (Turned.put _ b 1 u1)).trans (Turned.put _ b 2 u2)).trans (Turned.put _ b 3 u3)).trans (Turned.put _ b 4 u4)

/-- A pool, a pointer and a code. -/
structure OutD where
  pool : PoolD
  ps : Int
  pb : Int
  code : Int

/-- The answer is a new one that holds what o tells. -/
def NewOut (o : OutD) (w : World) (e : Ending) (w' : World) : Prop := ∃ v0 v1, e = .returned (.agg #[v0, v1, .int .i64 o.ps, .int .i64 o.pb, .int .i64 o.code]) ∧ PoolOwn w' w.heap.size w'.heap.size v0 v1 o.pool ∧ Below w.heap.size w w'

theorem none_own {w : World} {lo hi : Nat} : PoolOwn w lo hi (.slice none 0 0) (.slice none 0 0) (newP 0) :=
  newP_own (g := 0) (Nat.zero_le _) ⟨none, 0, rfl, Nat.le_refl _, fun h => absurd h (Nat.lt_irrefl _)⟩ (fun i h => absurd h (Nat.not_lt_zero _))

/-- A variable that holds one. -/
structure OutVar (w : World) (b lo hi : Nat) (v0 v1 : Value) (o : OutD) : Prop where
  box : Box5 w b v0 v1 (.int .i64 o.ps) (.int .i64 o.pb) (.int .i64 o.code)
  own : PoolOwn w lo hi v0 v1 o.pool
theorem OutVar.below {w w' : World} {b lo hi : Nat} {v0 v1 : Value} {o : OutD} (h : OutVar w b lo hi v0 v1 o) (t : Below w.heap.size w w') : OutVar w' b lo hi v0 v1 o := ⟨h.box.below t, h.own.below t⟩
theorem OutVar.turned {S : Nat → Prop} {w w' : World} {b lo hi : Nat} {v0 v1 : Value} {o : OutD} (h : OutVar w b lo hi v0 v1 o) (t : Turned S w w') (hb : ¬ S b) (hs : ∀ k, S k → k < lo ∨ hi ≤ k) : OutVar w' b lo hi v0 v1 o := ⟨h.box.turned t hb, h.own.turned t hs⟩

end Go.Proofs.Ytckamdnichangae
