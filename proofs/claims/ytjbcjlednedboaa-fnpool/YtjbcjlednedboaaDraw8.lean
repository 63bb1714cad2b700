/- How great a drawn pool is, and what stands while l01Pool goes on. -/
import Derived.Test.YtjbcjlednedboaaDraw7
import Derived.Test.YtjbcjlednedboaaPoolNewS
import Derived.Test.YtjbcjlednedboaaHoldA
import Derived.Test.YtjbcjlednedboaaSync
import Derived.Test.YtjbcjlednedboaaTakeC
namespace Go.Proofs.Ytjbcjlednedboaa
open Go.RowKit
set_option linter.unusedVariables false

/-- A slot as the draws make them. -/
def SlotB (s : SlotD) : Prop := s.kn ≤ 9 ∧ s.data.size ≤ 17
/-- A pool as the draws make them: at most N slots, at most m held. -/
def PoolB (N m : Nat) (p : PoolD) : Prop := 1 ≤ p.n ∧ p.n ≤ N ∧ (∀ i, i < p.n → SlotB (p.s i)) ∧ p.hn ≤ m

theorem slotsN_b {f : Nat → SlotD} : ∀ n, (∀ i, i < n → SlotB (f i)) → slotsN f n ≤ 26 * n
  | 0, _ => Nat.le_refl _
  | n + 1, h => by
    have h1 := slotsN_b n (fun i hi => h i (by omega))
    have h2 := h n (by omega)
    unfold SlotB at h2
    show slotsN f n + slotN (f n) ≤ _
    unfold slotN
    omega
theorem PoolB.small {N m : Nat} {p : PoolD} (h : PoolB N m p) (hN : N ≤ 1000) (hm : m ≤ 1000) : poolN p ≤ 100000 := by
  have := slotsN_b p.n h.2.2.1
  have h1 := h.2.1
  have h2 := h.2.2.2
  unfold poolN
  omega
theorem PoolB.mono {N m m' : Nat} {p : PoolD} (h : PoolB N m p) (hm : m ≤ m') : PoolB N m' p := ⟨h.1, h.2.1, h.2.2.1, Nat.le_trans h.2.2.2 hm⟩
theorem slotB_zero : SlotB zeroS := ⟨Nat.zero_le _, Nat.zero_le _⟩
theorem PoolB.new {N : Nat} {n : Nat} (h0 : 1 ≤ n) (h : n ≤ N) : PoolB N 0 (newP n) := ⟨h0, h, fun _ _ => slotB_zero, Nat.le_refl _⟩
theorem PoolB.set {N m : Nat} {p : PoolD} (h : PoolB N m p) (i : Nat) {s : SlotD} (hs : SlotB s) : PoolB N m (setS p i s) := by
  refine ⟨h.1, h.2.1, fun j hj => ?_, h.2.2.2⟩
  show SlotB (if j = i then s else p.s j)
  split
  · exact hs
  · exact h.2.2.1 j hj
theorem PoolB.hold {N m : Nat} {p : PoolD} (h : PoolB N m p) (xs : Int) : PoolB N (m + 1) (holdD p xs) := ⟨h.1, h.2.1, h.2.2.1, Nat.succ_le_succ h.2.2.2⟩
theorem PoolB.swept {N m : Nat} {p : PoolD} (h : PoolB N m p) : PoolB N m (swept p) := by
  refine ⟨h.1, h.2.1, fun j hj => ?_, Nat.zero_le _⟩
  open Classical in
  show SlotB (if Has p.hn p.h (j : Int) then zeroS else p.s j)
  split
  · exact slotB_zero
  · exact h.2.2.1 j hj
theorem PoolB.sync {N m : Nat} {p : PoolD} (h : PoolB N m p) : PoolB N m (syncP p) := by
  unfold syncP
  split
  · exact h.swept
  · exact h
theorem first_some {f : Nat → SlotD} : ∀ {n : Nat}, ¬ (∀ j, j < n → ¬ Free (f j)) → ∃ i, First n f i
  | 0, h => absurd (fun j hj => absurd hj (Nat.not_lt_zero _)) h
  | n + 1, h => by
    by_cases hn : ∀ j, j < n → ¬ Free (f j)
    · refine ⟨n, by omega, ?_, hn⟩
      by_cases hf : Free (f n)
      · exact hf
      · refine absurd (fun j hj => ?_) h
        by_cases e : j = n
        · rw [e]; exact hf
        · exact hn j (by omega)
    · obtain ⟨i, h1, h2⟩ := first_some hn
      exact ⟨i, by omega, h2⟩
theorem take_b {N m : Nat} {p : PoolD} {s : SlotD} (h : PoolB N m p) (hs : SlotB s) (hc : (takeP p s).code = 0) : PoolB N m (takeP p s).pool := by
  by_cases h1 : Right p ∧ ¬ Free s ∧ Fits p s
  · by_cases h2 : ∀ j, j < p.n → ¬ Free (p.s j)
    · rw [take_full h1 h2] at hc
      exact absurd hc (by decide)
    · obtain ⟨i, hi⟩ : ∃ i, First p.n p.s i := first_some h2
      rw [take_ok h1 hi]
      exact h.set i hs
  · rw [take_form h1] at hc
    exact absurd hc (by decide)
theorem hold_b {N m : Nat} {p : PoolD} {xs xb : Int} (h : PoolB N m p) (hc : (holdP p xs xb).code = 0) : PoolB N (m + 1) (holdP p xs xb).pool := by
  by_cases h1 : Right p
  · by_cases h2 : Points p xs xb ∧ ¬ Has p.hn p.h xs
    · rw [hold_ok h1 h2.1 h2.2]
      exact h.hold xs
    · rw [hold_none h1 h2] at hc
      exact absurd hc (by decide)
  · rw [hold_form h1] at hc
    exact absurd hc (by decide)

/-- A variable that holds a pool of its own, which lies elsewhere. -/
structure PoolV (w wx : World) (X : Nat) (v0 v1 : Value) (q : PoolD) : Prop where
  box : Box2 wx X v0 v1
  own : ∃ lo hi, PoolOwn wx lo hi v0 v1 q ∧ w.heap.size < lo ∧ hi ≤ wx.heap.size ∧ (hi ≤ X ∨ X < lo)

theorem PoolV.turned {w wx wy : World} {X B : Nat} {v0 v1 : Value} {q : PoolD} (h : PoolV w wx X v0 v1 q) (t : Turned (fun k => k = B) wx wy) (hB : B < w.heap.size) (hX : w.heap.size ≤ X) : PoolV w wy X v0 v1 q := by
  obtain ⟨lo, hi, h1, h2, h3, h4⟩ := h.own
  exact ⟨h.box.turned t (by omega), lo, hi, h1.turned t (fun k hk => by omega), h2, Nat.le_trans h3 t.size, h4⟩
theorem PoolV.below {w wx wy : World} {X : Nat} {v0 v1 : Value} {q : PoolD} (h : PoolV w wx X v0 v1 q) (t : Below wx.heap.size wx wy) : PoolV w wy X v0 v1 q := by
  obtain ⟨lo, hi, h1, h2, h3, h4⟩ := h.own
  exact ⟨h.box.below t, lo, hi, h1.below t, h2, Nat.le_trans h3 t.size, h4⟩
theorem PoolV.at {w wx : World} {X : Nat} {v0 v1 : Value} {q : PoolD} (h : PoolV w wx X v0 v1 q) : PoolAt wx w.heap.size wx.heap.size v0 v1 q := by
  obtain ⟨lo, hi, h1, h2, h3, h4⟩ := h.own
  exact (h1.wide (Nat.le_of_lt h2) h3).at
theorem PoolV.at1 {w wx : World} {X : Nat} {v0 v1 : Value} {q : PoolD} (h : PoolV w wx X v0 v1 q) : PoolAt wx (w.heap.size + 1) wx.heap.size v0 v1 q := by
  obtain ⟨lo, hi, h1, h2, h3, h4⟩ := h.own
  exact (h1.wide h2 h3).at
theorem PoolV.form {w wx : World} {X : Nat} {v0 v1 : Value} {q : PoolD} (h : PoolV w wx X v0 v1 q) : ∃ a c a' c', v0 = .slice a q.n c ∧ v1 = .slice a' q.hn c' := by
  obtain ⟨lo, hi, h1, _⟩ := h.own
  exact h1.form

/-- What stands while l01Pool goes on: the source, the result's variable (in the block of w's size). -/
structure PoolI (w wx : World) (B : Nat) : Prop where
  src : Src wx B
  turn : Turned (fun k => k = B) w wx
  res : Box2 wx w.heap.size (.slice none 0 0) (.slice none 0 0)
  place : B < w.heap.size

theorem PoolI.next {w wx wy : World} {B : Nat} (h : PoolI w wx B) (hs : Src wy B) (t : Turned (fun k => k = B) wx wy) : PoolI w wy B :=
  ⟨hs, h.turn.trans t, h.res.turned t (by have := h.place; omega), h.place⟩
theorem PoolI.below {w wx wy : World} {B : Nat} (h : PoolI w wx B) (t : Below wx.heap.size wx wy) : PoolI w wy B :=
  ⟨h.src.below t, h.turn.trans (Turned.of_below t), h.res.below t, h.place⟩
theorem PoolI.late {w wx wy : World} {B C : Nat} (h : PoolI w wx B) (t : Turned (fun k => k = C) wx wy) (hC : w.heap.size < C) : PoolI w wy B :=
  ⟨h.src.turned t (fun k hk => by have := h.place; omega), only_src h.turn t (by omega), h.res.turned t (by omega), h.place⟩

/-- A variable that holds an answer of its own. -/
structure OutV (w wx : World) (Y : Nat) (v0 v1 : Value) (o : OutD) : Prop where
  box : Box5 wx Y v0 v1 (.int .i64 o.ps) (.int .i64 o.pb) (.int .i64 o.code)
  own : ∃ lo hi, PoolOwn wx lo hi v0 v1 o.pool ∧ w.heap.size ≤ lo ∧ hi ≤ wx.heap.size ∧ (hi ≤ Y ∨ Y < lo)
  place : w.heap.size ≤ Y ∧ Y < wx.heap.size

theorem OutV.turned {w wx wy : World} {Y B : Nat} {v0 v1 : Value} {o : OutD} (h : OutV w wx Y v0 v1 o) (t : Turned (fun k => k = B) wx wy) (hB : B < w.heap.size) : OutV w wy Y v0 v1 o := by
  obtain ⟨lo, hi, h1, h2, h3, h4⟩ := h.own
  have := h.place
  exact ⟨h.box.turned t (by omega), ⟨lo, hi, h1.turned t (fun k hk => by omega), h2, Nat.le_trans h3 t.size, h4⟩, this.1, Nat.lt_of_lt_of_le this.2 t.size⟩
theorem OutV.form {w wx : World} {Y : Nat} {v0 v1 : Value} {o : OutD} (h : OutV w wx Y v0 v1 o) : ∃ a c a' c', v0 = .slice a o.pool.n c ∧ v1 = .slice a' o.pool.hn c' := by
  obtain ⟨lo, hi, h1, _⟩ := h.own
  exact h1.form
theorem outV_late {o : OutD} {w wm w2 : World} {v0 v1 : Value} {t : TypeId} (hm : w.heap.size ≤ wm.heap.size) (hz : wm.heap.size ≤ w2.heap.size) (ho : PoolOwn w2 wm.heap.size w2.heap.size v0 v1 o.pool) :
    OutV w (w2.alloc (.cells #[v0, v1, .int .i64 o.ps, .int .i64 o.pb, .int .i64 o.code] t)) w2.heap.size v0 v1 o :=
  ⟨Box5.new _ _ _ _ _ _ _, ⟨_, _, ho.below (below_alloc _ _), hm, by rw [World.size_alloc]; omega, Or.inl (Nat.le_refl _)⟩, by omega, by rw [World.size_alloc]; omega⟩
theorem outV_early {o : OutD} {w wm w2 : World} {Y : Nat} {v0 v1 o0 o1 o2 o3 o4 : Value} (hL : Box5 w2 Y o0 o1 o2 o3 o4) (hY : w.heap.size ≤ Y) (hm : Y < wm.heap.size) (ho : PoolOwn w2 wm.heap.size w2.heap.size v0 v1 o.pool) :
    OutV w (put5 w2 Y v0 v1 (.int .i64 o.ps) (.int .i64 o.pb) (.int .i64 o.code)) Y v0 v1 o := by
  have t := Turned.put5 w2 Y v0 v1 (.int .i64 o.ps) (.int .i64 o.pb) (.int .i64 o.code)
  have hz := t.size
  have hY2 := hL.1.lt
  exact ⟨hL.put _ _ _ _ _, ⟨_, _, ho.turned t (fun k hk => by omega), by omega, hz, Or.inr hm⟩, hY, by omega⟩

end Go.Proofs.Ytjbcjlednedboaa
