/- What stands while the draws' l02Tree goes on (no law is proved here). -/
import Derived.Test.YtikhipekmlhibaaG12
import Derived.Test.YtikhipekmlhibaaG13
import Derived.Test.YtikhipekmlhibaaG20
import Derived.Test.YtikhipekmlhibaaG24
import Derived.Test.YtikhipekmlhibaaG27
namespace Go.Proofs.Ytikhipekmlhibaa
open Go Go.RowKit
set_option linter.unusedVariables false

/-- The source, the results' two variables. -/
structure TreeI (w wx : World) (B : Nat) : Prop where
  src : Src wx B
  turn : Turned (fun k => k = B) w wx
  res : Box2 wx w.heap.size (.slice none 0 0) (.slice none 0 0)
  res2 : Box2 wx (w.heap.size + 1) (.int .i64 0) (.int .i64 0)
  place : B < w.heap.size
theorem TreeI.next {w wx wy : World} {B : Nat} (h : TreeI w wx B) (hs : Src wy B) (t : Turned (fun k => k = B) wx wy) : TreeI w wy B :=
  ⟨hs, h.turn.trans t, h.res.turned t (by have := h.place; omega), h.res2.turned t (by have := h.place; omega), h.place⟩
theorem TreeI.below {w wx wy : World} {B : Nat} (h : TreeI w wx B) (t : Below wx.heap.size wx wy) : TreeI w wy B :=
  ⟨h.src.below t, h.turn.trans (Turned.of_below t), h.res.below t, h.res2.below t, h.place⟩
theorem TreeI.late {w wx wy : World} {B C : Nat} (h : TreeI w wx B) (t : Turned (fun k => k = C) wx wy) (hC : w.heap.size + 1 < C) : TreeI w wy B :=
  ⟨h.src.turned t (fun k hk => by have := h.place; omega), only_src h.turn t (by omega), h.res.turned t (by omega), h.res2.turned t (by omega), h.place⟩

/-- The variable of the pool, that of the root behind it; the pool lies elsewhere. -/
structure PoolW (w wx : World) (X : Nat) (v0 v1 : Value) (q : PoolD) (rs rb : Int) : Prop where
  box : Box2 wx X v0 v1
  root : Box2 wx (X + 1) (.int .i64 rs) (.int .i64 rb)
  own : ∃ lo hi, PoolOwn wx lo hi v0 v1 q ∧ w.heap.size + 2 ≤ lo ∧ hi ≤ wx.heap.size ∧ (hi ≤ X ∨ X + 1 < lo)
theorem PoolW.turned {w wx wy : World} {X B : Nat} {v0 v1 : Value} {q : PoolD} {rs rb : Int} (h : PoolW w wx X v0 v1 q rs rb) (t : Turned (fun k => k = B) wx wy) (hB : B < w.heap.size) (hX : w.heap.size ≤ X) : PoolW w wy X v0 v1 q rs rb := by
  obtain ⟨lo, hi, h1, h2, h3, h4⟩ := h.own
  exact ⟨h.box.turned t (by omega), h.root.turned t (by omega), lo, hi, h1.turned t (fun k hk => by omega), h2, Nat.le_trans h3 t.size, h4⟩
theorem PoolW.below {w wx wy : World} {X : Nat} {v0 v1 : Value} {q : PoolD} {rs rb : Int} (h : PoolW w wx X v0 v1 q rs rb) (t : Below wx.heap.size wx wy) : PoolW w wy X v0 v1 q rs rb := by
  obtain ⟨lo, hi, h1, h2, h3, h4⟩ := h.own
  exact ⟨h.box.below t, h.root.below t, lo, hi, h1.below t, h2, Nat.le_trans h3 t.size, h4⟩
theorem PoolW.at {w wx : World} {X : Nat} {v0 v1 : Value} {q : PoolD} {rs rb : Int} (h : PoolW w wx X v0 v1 q rs rb) : PoolAt wx (w.heap.size + 2) wx.heap.size v0 v1 q := by
  obtain ⟨lo, hi, h1, h2, h3, h4⟩ := h.own
  exact (h1.wide h2 h3).at
theorem PoolW.own2 {w wx : World} {X : Nat} {v0 v1 : Value} {q : PoolD} {rs rb : Int} (h : PoolW w wx X v0 v1 q rs rb) : PoolOwn wx (w.heap.size + 2) wx.heap.size v0 v1 q := by
  obtain ⟨lo, hi, h1, h2, h3, h4⟩ := h.own
  exact h1.wide h2 h3
/-- Another pool is laid into the variable. -/
theorem PoolW.new {w wx : World} {X lo hi : Nat} {v0 v1 u0 u1 : Value} {p : PoolD} {rs rb : Int} (hB : Box2 wx X v0 v1) (hR : Box2 wx (X + 1) (.int .i64 rs) (.int .i64 rb)) (ho : PoolOwn wx lo hi u0 u1 p) (hlo : w.heap.size + 2 ≤ lo) (hhi : hi ≤ wx.heap.size) (hX : X + 1 < lo) : PoolW w ((wx.setCell ⟨X, 0, none⟩ u0).setCell ⟨X, 1, none⟩ u1) X u0 u1 p rs rb := by
  have t := put2_turned wx X u0 u1
  exact ⟨hB.put _ _, hR.turned t (by omega), lo, hi, ho.turned t (fun k hk => by omega), hlo, Nat.le_trans hhi t.size, Or.inr hX⟩
/-- Another root is. -/
theorem PoolW.newRoot {w wx : World} {X : Nat} {v0 v1 : Value} {p : PoolD} {rs rb : Int} (h : PoolW w wx X v0 v1 p rs rb) (ys yb : Int) : PoolW w ((wx.setCell ⟨X + 1, 0, none⟩ (.int .i64 ys)).setCell ⟨X + 1, 1, none⟩ (.int .i64 yb)) X v0 v1 p ys yb := by
  have t := put2_turned wx (X + 1) (.int .i64 ys) (.int .i64 yb)
  obtain ⟨lo, hi, h1, h2, h3, h4⟩ := h.own
  exact ⟨h.box.turned t (by omega), h.root.put _ _, lo, hi, h1.turned t (fun k hk => by omega), h2, Nat.le_trans h3 t.size, h4⟩

/-- A variable that holds a tree's answer of its own, made since w1. -/
def TreeW (w1 : World) (Z : Nat) (o : TOutD) (wx : World) (a : Option Addr) (c : Nat) (a' : Option Addr) (c' : Nat) (oa : Option Addr) (oc : Nat) : Prop :=
  ∃ lo hi, TreeV wx Z lo hi (.slice a o.pool.n c) (.slice a' o.pool.hn c') (.slice oa o.old.length oc) o ∧ w1.heap.size ≤ lo ∧ hi ≤ wx.heap.size ∧ (Z < lo ∨ hi ≤ Z) ∧ w1.heap.size ≤ Z ∧ Z < wx.heap.size
theorem TreeW.turned {w1 wx wy : World} {Z B : Nat} {o : TOutD} {a a' oa : Option Addr} {c c' oc : Nat} (h : TreeW w1 Z o wx a c a' c' oa oc) (t : Turned (fun k => k = B) wx wy) (hB : B < w1.heap.size) : TreeW w1 Z o wy a c a' c' oa oc := by
  obtain ⟨lo, hi, h1, h2, h3, h4, h5, h6⟩ := h
  exact ⟨lo, hi, h1.turned t (by omega) (fun k hk => by omega), h2, Nat.le_trans h3 t.size, h4, h5, Nat.lt_of_lt_of_le h6 t.size⟩
theorem TreeW.below {w1 wx wy : World} {Z : Nat} {o : TOutD} {a a' oa : Option Addr} {c c' oc : Nat} (h : TreeW w1 Z o wx a c a' c' oa oc) (t : Below wx.heap.size wx wy) : TreeW w1 Z o wy a c a' c' oa oc := by
  obtain ⟨lo, hi, h1, h2, h3, h4, h5, h6⟩ := h
  exact ⟨lo, hi, h1.below t, h2, Nat.le_trans h3 t.size, h4, h5, Nat.lt_of_lt_of_le h6 t.size⟩
theorem treeW_late {o : TOutD} {w1 w2 : World} {m : Nat} {a a' oa : Option Addr} {c c' oc : Nat} {t : TypeId} (ho : TreeMem w2 m w2.heap.size (.slice a o.pool.n c) (.slice a' o.pool.hn c') (.slice oa o.old.length oc) o.pool o.old.length (fstL o.old) (sndL o.old)) (hm : w1.heap.size ≤ m) (hw : w1.heap.size ≤ w2.heap.size) :
    TreeW w1 w2.heap.size o (w2.alloc (.cells #[.slice a o.pool.n c, .slice a' o.pool.hn c', .int .i64 o.rs, .int .i64 o.rb, .slice oa o.old.length oc, .int .i64 o.code] t)) a c a' c' oa oc :=
  ⟨m, w2.heap.size, ⟨Box6.new _ _ _ _ _ _ _ _, ho.below (below_alloc _ _)⟩, hm, by rw [World.size_alloc]; omega, Or.inr (Nat.le_refl _), hw, by rw [World.size_alloc]; omega⟩
theorem treeW_early {o : TOutD} {w1 w2 : World} {m Z : Nat} {a a' oa : Option Addr} {c c' oc : Nat} {o0 o1 o2 o3 o4 o5 : Value} (hL : Box6 w2 Z o0 o1 o2 o3 o4 o5) (ho : TreeMem w2 m w2.heap.size (.slice a o.pool.n c) (.slice a' o.pool.hn c') (.slice oa o.old.length oc) o.pool o.old.length (fstL o.old) (sndL o.old)) (hB : w1.heap.size ≤ Z) (hm : Z < m) :
    TreeW w1 Z o (put6 w2 Z (.slice a o.pool.n c) (.slice a' o.pool.hn c') (.int .i64 o.rs) (.int .i64 o.rb) (.slice oa o.old.length oc) (.int .i64 o.code)) a c a' c' oa oc := by
  have t := Turned.put6 w2 Z (.slice a o.pool.n c) (.slice a' o.pool.hn c') (.int .i64 o.rs) (.int .i64 o.rb) (.slice oa o.old.length oc) (.int .i64 o.code)
  have hBC := hL.1.lt
  have hz := t.size
  exact ⟨m, w2.heap.size, ⟨hL.put _ _ _ _ _ _, ho.turned t (fun k hk => by omega)⟩, by omega, hz, Or.inl hm, hB, by omega⟩
/-- What is old, to be read through the variable. -/
def OldV (w1 : World) (Z : Nat) (l : List (Int × Int)) (oa : Option Addr) (oc : Nat) (wx : World) : Prop :=
  wx.cell? ⟨Z, 4, none⟩ = some (.slice oa l.length oc) ∧ w1.heap.size ≤ Z ∧ ∃ hi, PtrsAt wx w1.heap.size hi (.slice oa l.length oc) l.length (fstL l) (sndL l)
theorem OldV.keep {S : Nat → Prop} {w1 wx wy : World} {Z : Nat} {l : List (Int × Int)} {oa : Option Addr} {oc : Nat} (h : OldV w1 Z l oa oc wx) (t : Turned S wx wy) (hS : ∀ k, S k → k < w1.heap.size) : OldV w1 Z l oa oc wy := by
  obtain ⟨h1, h2, hi, h3⟩ := h
  refine ⟨(t.cell (lt_of_cell h1) (fun e => by have := hS _ e; omega)).trans h1, h2, hi, ?_⟩
  obtain ⟨m1, a, cap, hv, hcc, hc⟩ := h3
  refine ⟨m1, a, cap, hv, hcc, fun hn => ?_⟩
  obtain ⟨b, off, ha, g1, g2, g3⟩ := hc hn
  exact ⟨b, off, ha, g1, g2, fun i hi => ⟨(t.cell (lt_of_cell (g3 i hi).1) (fun e => by have := hS _ e; omega)).trans (g3 i hi).1, (t.cell (lt_of_cell (g3 i hi).2) (fun e => by have := hS _ e; omega)).trans (g3 i hi).2⟩⟩
theorem OldV.below {w1 wx wy : World} {Z : Nat} {l : List (Int × Int)} {oa : Option Addr} {oc : Nat} (h : OldV w1 Z l oa oc wx) (t : Below wx.heap.size wx wy) : OldV w1 Z l oa oc wy := h.keep (S := fun _ => False) (Turned.of_below t) (fun k hk => hk.elim)
theorem TreeW.old {w1 wx : World} {Z : Nat} {o : TOutD} {a a' oa : Option Addr} {c c' oc : Nat} (h : TreeW w1 Z o wx a c a' c' oa oc) : OldV w1 Z o.old oa oc wx := by
  obtain ⟨lo, hi, h1, h2, h3, h4, h5, h6⟩ := h
  refine ⟨h1.box.2.2.2.2.1.1, h5, hi, ?_⟩
  exact h1.mem.row.wide h2 (Nat.le_refl _)
theorem TreeW.pool {w1 wx : World} {Z : Nat} {o : TOutD} {a a' oa : Option Addr} {c c' oc : Nat} (h : TreeW w1 Z o wx a c a' c' oa oc) : ∃ lo hi, PoolOwn wx lo hi (.slice a o.pool.n c) (.slice a' o.pool.hn c') o.pool ∧ w1.heap.size ≤ lo ∧ hi ≤ wx.heap.size := by
  obtain ⟨lo, hi, h1, h2, h3, h4, h5, h6⟩ := h
  obtain ⟨pl, ph, ob, g1, g2, g3, g4, g5⟩ := h1.mem
  exact ⟨pl, ph, g3, by omega, by omega⟩

theorem hold_small' (p : PoolD) (xs xb : Int) : poolN (holdP p xs xb).pool ≤ poolN p + 1 := by
  by_cases hR : Right p
  · by_cases h : Points p xs xb ∧ ¬ Has p.hn p.h xs
    · rw [hold_ok hR h.1 h.2]
      show p.n + slotsN p.s p.n + (p.hn + 1) ≤ p.n + slotsN p.s p.n + p.hn + 1
      omega
    · rw [hold_none hR h]; exact Nat.zero_le _
  · rw [hold_form hR]; exact Nat.zero_le _
theorem sync_small' (p : PoolD) : poolN (syncP p) ≤ poolN p := by
  by_cases h : Right p ∧ Right (swept p)
  · rw [sync_yes h.1 h.2]
    have h1 : ∀ i, slotN ((swept p).s i) ≤ slotN (p.s i) := fun i => by
      open Classical in
      show slotN (if Has p.hn p.h (i : Int) then zeroS else p.s i) ≤ _
      split
      · exact Nat.zero_le _
      · exact Nat.le_refl _
    have h2 := slotsN_le h1 p.n
    show p.n + slotsN (swept p).s p.n + 0 ≤ p.n + slotsN p.s p.n + p.hn
    omega
  · rw [sync_no h]
    exact Nat.le_refl _

end Go.Proofs.Ytikhipekmlhibaa
