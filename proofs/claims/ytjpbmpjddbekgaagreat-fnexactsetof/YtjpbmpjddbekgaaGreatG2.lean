/- What spec.l04Snap and spec.l04Set answer: the number of the first snapshot of an id, of the first set of a name, or -1. -/
import Derived.Test.YtjpbmpjddbekgaaGreatRows
import Derived.Test.YtjpbmpjddbekgaaGreatG1
import Derived.BigQuiet
import Derived.RegionTactic
import Derived.ChangeAlike
import Derived.BigRegion
import Derived.Deep.RegionHeld3
import Derived.Deep.QuietTactic
import Derived.Maps.OwnSet
namespace Go.Proofs.YtjpbmpjddbekgaaGreat
open Go.RowKit
set_option linter.unusedVariables false

theorem hideW {P : Prop} (h : P) : Hid P := h

/-- The first of n that holds, or -1. -/
def FirstAt (n : Nat) (P : Nat → Prop) (r : Int) : Prop := (∃ k : Nat, k < n ∧ P k ∧ (∀ j, j < k → ¬ P j) ∧ r = k) ∨ ((∀ j, j < n → ¬ P j) ∧ r = -1)

set_option maxRecDepth 20000 in
set_option maxHeartbeats 1000000 in
theorem l04Snap_any (v0 v1 v2 v3 : Value) (lo hi : Nat) (W : WorldD) (x : Int) (w : World) (h : WorldAt w lo hi v0 v1 v2 v3 W) :
    Calls Tryz.prog 77 #[worldV v0 v1 v2 v3 W, .int .i64 x] w fun e w' => ∃ r : Int, e = .returned (.int .i64 r) ∧ FirstAt W.pn (fun k => (W.snaps k).id = x) r ∧ Below w.heap.size w w' := by
  have Hp := hideW h.snaps
  obtain ⟨m1, a, c, rfl, mc, _⟩ := id h.snaps
  unfold maxLen at m1
  clear h
  have ha := below_alloc w (.cells #[v0, v1, .int .i64 W.time, .int .i64 W.next, v2, .slice a W.pn c] 38)
  have HB := hideW (Box6.new w v0 v1 (.int .i64 W.time) (.int .i64 W.next) v2 (.slice a W.pn c) 38)
  go_enter Tryz.func77, Tryz.ntmps77
  go_wp2
  go_loopw [5] (fun i wr => ∃ k : Nat, k ≤ W.pn ∧ i = .int .i64 k ∧ (∀ j, j < k → ¬ (W.snaps j).id = x) ∧ Box6 wr w.heap.size v0 v1 (.int .i64 W.time) (.int .i64 W.next) v2 (.slice a W.pn c) ∧ Below w.heap.size w wr) (fun i _ => W.pn - (intOf i).toNat)
  case atStart => exact ⟨0, Nat.zero_le _, rfl, fun j hj => absurd hj (Nat.not_lt_zero _), HB.out, ha⟩
  case round =>
    obtain ⟨k, hk, rfl, hno, hX, hb⟩ := hrel
    have Hno := hideW hno
    have HX := hideW hX
    clear hno hX
    obtain ⟨⟨x0, x1⟩, ⟨x2, x3⟩, ⟨x4, x5⟩, ⟨x6, x7⟩, ⟨x8, x9⟩, ⟨x10, x11⟩⟩ := HX.out
    by_cases hlt : k < W.pn
    · have hlt' : (k : Int) < (W.pn : Int) := by omega
      obtain ⟨b, off, vd, rfl, hs⟩ := (Hp.out.below hb).cells hlt
      have q0 := hs.c0
      clear hs
      by_cases he : (W.snaps k).id = x
      · have H := hideW he
        rw [he] at q0
        clear he
        go_wp2
        go_ret
        exact ⟨k, rfl, Or.inl ⟨k, hlt, H.out, Hno.out, rfl⟩, hb⟩
      · have H := hideW he
        have e0 : ((W.snaps k).id == x) = false := by simp [he]
        clear he
        go_wp2
        go_roundw
        case rel =>
          refine ⟨k + 1, by omega, by go_num, ?_, HX.out, hb⟩
          intro j hj
          by_cases e : j = k
          · subst e; exact H.out
          · exact Hno.out j (by omega)
        case measure => simp [intOf]; omega
    · obtain rfl : k = W.pn := by omega
      go_wp2
      go_ret
      exact ⟨-1, rfl, Or.inr ⟨Hno.out, rfl⟩, hb⟩

set_option maxRecDepth 20000 in
set_option maxHeartbeats 1000000 in
theorem l04Set_any (v0 v1 v2 v3 : Value) (lo hi : Nat) (W : WorldD) (x : ByteArray) (w : World) (h : WorldAt w lo hi v0 v1 v2 v3 W) :
    Calls Tryz.prog 87 #[worldV v0 v1 v2 v3 W, .string x] w fun e w' => ∃ r : Int, e = .returned (.int .i64 r) ∧ FirstAt W.sn (fun k => (W.sets k).name = x) r ∧ Below w.heap.size w w' := by
  have Hp := hideW h.sets
  obtain ⟨m1, a, c, rfl, mc, _⟩ := id h.sets
  unfold maxLen at m1
  clear h
  have ha := below_alloc w (.cells #[v0, v1, .int .i64 W.time, .int .i64 W.next, .slice a W.sn c, v3] 38)
  have HB := hideW (Box6.new w v0 v1 (.int .i64 W.time) (.int .i64 W.next) (.slice a W.sn c) v3 38)
  go_enter Tryz.func87, Tryz.ntmps87
  go_wp2
  go_loopw [5] (fun i wr => ∃ k : Nat, k ≤ W.sn ∧ i = .int .i64 k ∧ (∀ j, j < k → ¬ (W.sets j).name = x) ∧ Box6 wr w.heap.size v0 v1 (.int .i64 W.time) (.int .i64 W.next) (.slice a W.sn c) v3 ∧ Below w.heap.size w wr) (fun i _ => W.sn - (intOf i).toNat)
  case atStart => exact ⟨0, Nat.zero_le _, rfl, fun j hj => absurd hj (Nat.not_lt_zero _), HB.out, ha⟩
  case round =>
    obtain ⟨k, hk, rfl, hno, hX, hb⟩ := hrel
    have Hno := hideW hno
    have HX := hideW hX
    clear hno hX
    obtain ⟨⟨x0, x1⟩, ⟨x2, x3⟩, ⟨x4, x5⟩, ⟨x6, x7⟩, ⟨x8, x9⟩, ⟨x10, x11⟩⟩ := HX.out
    by_cases hlt : k < W.sn
    · have hlt' : (k : Int) < (W.sn : Int) := by omega
      obtain ⟨b, off, vd, rfl, hs⟩ := (Hp.out.below hb).cells hlt
      have q0 := hs.c0
      clear hs
      by_cases he : (W.sets k).name = x
      · have H := hideW he
        rw [he] at q0
        clear he
        go_wp2
        go_ret
        exact ⟨k, rfl, Or.inl ⟨k, hlt, H.out, Hno.out, rfl⟩, hb⟩
      · have H := hideW he
        have e0 : ((W.sets k).name.toList == x.toList) = false := str_ne he
        clear he
        go_wp2
        go_roundw
        case rel =>
          refine ⟨k + 1, by omega, by go_num, ?_, HX.out, hb⟩
          intro j hj
          by_cases e : j = k
          · subst e; exact H.out
          · exact Hno.out j (by omega)
        case measure => simp [intOf]; omega
    · obtain rfl : k = W.sn := by omega
      go_wp2
      go_ret
      exact ⟨-1, rfl, Or.inr ⟨Hno.out, rfl⟩, hb⟩

end Go.Proofs.YtjpbmpjddbekgaaGreat

namespace Go.Proofs.YtjpbmpjddbekgaaGreat
open Go.RowKit
set_option linter.unusedVariables false

/-- A root and a time: those of the snapshot of an id, or none and 0. -/
def AheadIs (W : WorldD) (x s b t : Int) : Prop := (∃ k, x ≠ 0 ∧ SnapNo W x k ∧ s = (W.snaps k).rs ∧ b = (W.snaps k).rb ∧ t = (W.snaps k).time) ∨ ((x = 0 ∨ ∀ k, k < W.pn → (W.snaps k).id ≠ x) ∧ s = 0 ∧ b = 0 ∧ t = 0)

set_option maxRecDepth 20000 in
set_option maxHeartbeats 2000000 in
theorem l04Ahead_any (v0 v1 v2 v3 : Value) (lo hi : Nat) (W : WorldD) (x : Int) (w : World) (h : WorldAt w lo hi v0 v1 v2 v3 W) :
    Calls Tryz.prog 96 #[worldV v0 v1 v2 v3 W, .int .i64 x] w fun e w' => ∃ s b t : Int, e = .returned (.tuple #[.agg #[.int .i64 s, .int .i64 b], .int .i64 t]) ∧ AheadIs W x s b t ∧ Below w.heap.size w w' := by
  have Hp := hideW h
  obtain ⟨m1, a, c, rfl, mc, _⟩ := id h.snaps
  unfold maxLen at m1
  clear h
  have ha := below_alloc w (.cells #[v0, v1, .int .i64 W.time, .int .i64 W.next, v2, .slice a W.pn c] 38)
  have hB := Box6.new w v0 v1 (.int .i64 W.time) (.int .i64 W.next) v2 (.slice a W.pn c) 38
  have ha2 := below_alloc (w.alloc (.cells #[v0, v1, .int .i64 W.time, .int .i64 W.next, v2, .slice a W.pn c] 38)) (.cells #[.int .i64 0, .int .i64 0] 43)
  have hR := Box2.new (w.alloc (.cells #[v0, v1, .int .i64 W.time, .int .i64 W.next, v2, .slice a W.pn c] 38)) (.int .i64 0) (.int .i64 0) 43
  have hB2 := hB.below ha2
  have hb2 := below_next ha ha2
  have hsz : (w.alloc (.cells #[v0, v1, .int .i64 W.time, .int .i64 W.next, v2, .slice a W.pn c] 38)).heap.size = w.heap.size + 1 := World.size_alloc _ _
  rw [hsz] at hR
  clear ha ha2 hB
  go_enter Tryz.func96, Tryz.ntmps96
  go_wp2_with fail
  generalize ((w.alloc (.cells #[v0, v1, .int .i64 W.time, .int .i64 W.next, v2, .slice a W.pn c] 38)).alloc (.cells #[.int .i64 0, .int .i64 0] 43)) = W0 at hR hB2 hb2 ⊢
  refine (l04Snap_any v0 v1 v2 _ lo hi W x W0 (Hp.out.below hb2)).mono ?_
  rintro e w1 ⟨r, rfl, hF, hb1⟩
  have hR1 := hR.below hb1
  have hX1 := hB2.below hb1
  have hbw := below_next hb2 hb1
  clear hR hB2 hb2 hb1 hsz
  have HR := hideW hR1
  have HX := hideW hX1
  clear hR1 hX1
  obtain ⟨⟨y0, y1⟩, ⟨y2, y3⟩⟩ := HR.out
  obtain ⟨⟨x0, x1⟩, ⟨x2, x3⟩, ⟨x4, x5⟩, ⟨x6, x7⟩, ⟨x8, x9⟩, ⟨x10, x11⟩⟩ := HX.out
  by_cases hx : x = 0
  · subst hx
    clear hF
    go_wp2
    refine bodyPost_ret (v := .tuple #[.agg #[.int .i64 0, .int .i64 0], .int .i64 0]) (by simp [results, Tryz.results96, go_sem, y0, y2]) rfl ⟨0, 0, 0, rfl, Or.inr ⟨Or.inl rfl, rfl, rfl, rfl⟩, ?_⟩
    exact (hbw.setCell (by show w.heap.size ≤ w.heap.size + 1; omega) _).setCell (by show w.heap.size ≤ w.heap.size + 1; omega) _
  · have Hx := hideW hx
    have f0 : (x == 0) = false := by simp [hx]
    clear hx
    rcases hF with ⟨k, hk, hi', hm, rfl⟩ | ⟨hn, rfl⟩
    · obtain ⟨b, off, vd, rfl, hs⟩ := (Hp.out.snaps.below hbw).cells hk
      have q4 := hs.c4
      have q5 := hs.c5
      have q6 := hs.c6
      have hk' : (k : Int) < (W.pn : Int) := by omega
      have hlt : b < w.heap.size := by
        obtain ⟨b2, off2, vd2, e2, hs2⟩ := Hp.out.snaps.cells hk
        cases e2
        exact lt_of_cell hs2.c0
      have hne : b ≠ w.heap.size + 1 := by omega
      have hne2 : w.heap.size ≠ w.heap.size + 1 := by omega
      have Hk := hideW (And.intro hi' hm)
      clear hs hi' hm hlt
      have hge : w.heap.size ≤ w.heap.size + 1 := by omega
      generalize w.heap.size + 1 = R at *
      go_wp2
      go_region
      go_wp2
      refine bodyPost_ret (v := .tuple #[.agg #[.int .i64 (W.snaps k).rs, .int .i64 (W.snaps k).rb], .int .i64 (W.snaps k).time]) (by simp [results, Tryz.results96, go_sem, y0, y2]) rfl ⟨_, _, _, rfl, Or.inl ⟨k, Hx.out, ⟨hk, Hk.out.1, Hk.out.2⟩, rfl, rfl, rfl⟩, ?_⟩
      exact ((hbw.setCell hge _).setCell hge _).drew
    · have Hn := hideW hn
      clear hn
      go_wp2
      refine bodyPost_ret (v := .tuple #[.agg #[.int .i64 0, .int .i64 0], .int .i64 0]) (by simp [results, Tryz.results96, go_sem, y0, y2]) rfl ⟨0, 0, 0, rfl, Or.inr ⟨Or.inr Hn.out, rfl, rfl, rfl⟩, ?_⟩
      exact (hbw.setCell (by show w.heap.size ≤ w.heap.size + 1; omega) _).setCell (by show w.heap.size ≤ w.heap.size + 1; omega) _

end Go.Proofs.YtjpbmpjddbekgaaGreat

namespace Go.Proofs.YtjpbmpjddbekgaaGreat
open Go.RowKit
set_option linter.unusedVariables false

/-- The first n of a slice's numbers. -/
theorem IntsAt.take {w : World} {lo hi : Nat} {a : Option Addr} {n c m c' : Nat} {f : Nat → Int} (h : IntsAt w lo hi (.slice a n c) n f) (hm : m ≤ n) (hc : m ≤ c') : IntsAt w lo hi (.slice a m c') m f := by
  obtain ⟨h0, a2, cap, hv, hcc, hx⟩ := h
  simp only [Value.slice.injEq, true_and] at hv
  obtain ⟨rfl, rfl⟩ := hv
  refine ⟨by omega, a, c', rfl, hc, fun h0 => ?_⟩
  obtain ⟨b, off, ha, h1, h2, h3⟩ := hx (by omega)
  exact ⟨b, off, ha, h1, h2, fun i hi => h3 i (by omega)⟩

/-- The cells of a slot, as they are read. -/
structure SlotCells (w : World) (b o : Nat) (lo hi : Nat) (ka : Option Addr) (kc : Nat) (s : SlotD) : Prop where
  c0 : w.cell? ⟨b, o, none⟩ = some (.int .i64 s.birth)
  c1 : w.cell? ⟨b, o + 1, none⟩ = some (.slice ka s.kn kc)
  c2 : w.cell? ⟨b, o + 2, none⟩ = some (.string s.data)
  slot : SlotAt w lo hi (.int .i64 s.birth) (.slice ka s.kn kc) (.string s.data) s

theorem SlotCells.below {w w' : World} {b o lo hi : Nat} {ka : Option Addr} {kc : Nat} {s : SlotD} (h : SlotCells w b o lo hi ka kc s) (t : Below w.heap.size w w') : SlotCells w' b o lo hi ka kc s :=
  ⟨(t.cell (lt_of_cell h.c0)).trans h.c0, (t.cell (lt_of_cell h.c1)).trans h.c1, (t.cell (lt_of_cell h.c2)).trans h.c2, h.slot.below t⟩

theorem SlotsAt.cells {w : World} {lo hi : Nat} {a : Option Addr} {n c : Nat} {f : Nat → SlotD} (h : SlotsAt w lo hi (.slice a n c) n f) {i : Nat} (hi' : i < n) :
    ∃ b off ka kc, a = some ⟨b, off, none⟩ ∧ SlotCells w b (off + i * 3) lo hi ka kc (f i) := by
  obtain ⟨h0, a2, cap, hv, hcc, hx⟩ := h
  simp only [Value.slice.injEq, true_and] at hv
  obtain ⟨rfl, rfl⟩ := hv
  obtain ⟨b, off, ha, h1, h2, h3⟩ := hx (by omega)
  obtain ⟨v0, v1, v2, c0, c1, c2, hs⟩ := h3 i hi'
  have hs' := hs
  obtain ⟨rfl, ⟨_, ka, kc, rfl, _⟩, rfl, _⟩ := hs
  exact ⟨b, off, ka, kc, ha, ⟨c0, c1, c2, hs'⟩⟩

theorem bool_no {P : Prop} {t : Bool} (ht : t = true ↔ P) (h : ¬ P) : t = false := Bool.eq_false_iff.2 (fun e => h (ht.1 e))

def Free (s : SlotD) : Prop := s.birth = 0 ∧ s.kn = 0 ∧ s.data.toList.isEmpty = true
def BirthOk (n : Int) : Prop := 1 ≤ n ∧ n ≤ 1000000
def Points (p : PoolD) (xs xb : Int) : Prop := 1 ≤ xb ∧ 0 ≤ xs ∧ xs < p.n ∧ (p.s xs.toNat).birth = xb
def KidOk (p : PoolD) (b : Int) (xs xb : Int) : Prop := (xs = 0 ∧ xb = 0) ∨ (Points p xs xb ∧ xb ≤ b)
def Fits (p : PoolD) (s : SlotD) : Prop := BirthOk s.birth ∧ ((s.kn = 0 ∧ s.data.size = 16) ∨ (s.kn = 8 ∧ s.data.toList.isEmpty = true ∧ ∀ i, i < s.kn → KidOk p s.birth (s.ks i) (s.kb i)))
def Has (n : Nat) (f : Nat → Int) (x : Int) : Prop := ∃ j, j < n ∧ f j = x
def HeldOk (p : PoolD) (i : Nat) : Prop := 0 ≤ p.h i ∧ p.h i < p.n ∧ ¬ Free (p.s (p.h i).toNat) ∧ ¬ Has i p.h (p.h i)
def Right (p : PoolD) : Prop := p.n ≤ 200 ∧ (∀ i, i < p.n → Free (p.s i) ∨ Fits p (p.s i)) ∧ ∀ i, i < p.hn → HeldOk p i

set_option maxRecDepth 20000 in
set_option maxHeartbeats 400000 in
theorem l01Free_any (v0 v1 v2 : Value) (lo hi : Nat) (s : SlotD) (w : World) (h1 : SlotAt w lo hi v0 v1 v2 s) :
    Calls Tryz.prog 58 #[.agg #[v0, v1, v2]] w fun e w' => BoolIs (Free s) e ∧ Below w.heap.size w w' := by
  obtain ⟨rfl, ⟨m1, a, c, rfl, _⟩, rfl, _⟩ := h1
  unfold maxLen at m1
  have hbw := (Below.refl w.heap.size w).alloc (Nat.le_refl _) (.cells #[.int .i64 s.birth, .slice a s.kn c, .string s.data] 84)
  by_cases h1 : s.birth = 0
  · by_cases h2 : s.kn = 0
    · by_cases h3 : s.data.toList.isEmpty = true
      · have H : Hid (Free s) := ⟨h1, h2, h3⟩
        have e1 : (s.birth == 0) = true := by simp [h1]
        have e2 : ((s.kn : Int) == 0) = true := by simp [h2]
        clear h1 h2
        go_enter Tryz.func58, Tryz.ntmps58
        go_wp2
        go_ret
        exact ⟨BoolIs.yes H.out, hbw⟩
      · have H : Hid (¬ Free s) := fun h => h3 h.2.2
        have e1 : (s.birth == 0) = true := by simp [h1]
        have e2 : ((s.kn : Int) == 0) = true := by simp [h2]
        have e3 : s.data.toList.isEmpty = false := by simpa using h3
        clear h1 h2 h3
        go_enter Tryz.func58, Tryz.ntmps58
        go_wp2
        go_ret
        exact ⟨BoolIs.no H.out, hbw⟩
    · have H : Hid (¬ Free s) := fun h => h2 h.2.1
      have e1 : (s.birth == 0) = true := by simp [h1]
      have e2 : ((s.kn : Int) == 0) = false := by simp; omega
      clear h1 h2
      go_enter Tryz.func58, Tryz.ntmps58
      go_wp2
      go_ret
      exact ⟨BoolIs.no H.out, hbw⟩
  · have H : Hid (¬ Free s) := fun h => h1 h.1
    have e1 : (s.birth == 0) = false := by simp [h1]
    clear h1
    go_enter Tryz.func58, Tryz.ntmps58
    go_wp2
    go_ret
    exact ⟨BoolIs.no H.out, hbw⟩

set_option maxRecDepth 20000 in
set_option maxHeartbeats 400000 in
theorem l01Birth_any (n : Int) (w : World) : Calls Tryz.prog 144 #[.int .i64 n] w fun e w' => BoolIs (BirthOk n) e ∧ w' = w := by
  by_cases h1 : 1 ≤ n
  · by_cases h2 : n ≤ 1000000
    · go_enter Tryz.func144, Tryz.ntmps144
      go_wp2
      go_ret
      exact ⟨BoolIs.yes ⟨h1, h2⟩, rfl⟩
    · go_enter Tryz.func144, Tryz.ntmps144
      go_wp2
      go_ret
      exact ⟨BoolIs.no fun h => by have := h.2; omega, rfl⟩
  · go_enter Tryz.func144, Tryz.ntmps144
    go_wp2
    go_ret
    exact ⟨BoolIs.no fun h => by have := h.1; omega, rfl⟩

set_option maxRecDepth 20000 in
set_option maxHeartbeats 400000 in
theorem l01None_any (a b : Int) (w : World) : Calls Tryz.prog 99 #[.agg #[.int .i64 a, .int .i64 b]] w fun e w' => BoolIs (PtrEq a b 0 0) e ∧ Below w.heap.size w w' := by
  have hbw := (Below.refl w.heap.size w).alloc (Nat.le_refl _) (.cells #[.int .i64 a, .int .i64 b] 43)
  by_cases h1 : a = 0
  · by_cases h2 : b = 0
    · subst h1 h2
      go_enter Tryz.func99, Tryz.ntmps99
      go_wp2
      go_ret
      exact ⟨BoolIs.yes ⟨rfl, rfl⟩, hbw⟩
    · subst h1
      have H : Hid (¬ PtrEq 0 b 0 0) := fun h => h2 h.2
      have e2 : (b == 0) = false := by simp [h2]
      clear h2
      go_enter Tryz.func99, Tryz.ntmps99
      go_wp2
      go_ret
      exact ⟨BoolIs.no H.out, hbw⟩
  · have H : Hid (¬ PtrEq a b 0 0) := fun h => h1 h.1
    have e2 : (a == 0) = false := by simp [h1]
    clear h1
    go_enter Tryz.func99, Tryz.ntmps99
    go_wp2
    go_ret
    exact ⟨BoolIs.no H.out, hbw⟩

set_option maxRecDepth 20000 in
set_option maxHeartbeats 400000 in
theorem l01Has_any (v : Value) (n lo hi : Nat) (f : Nat → Int) (x : Int) (w : World) (h1 : IntsAt w lo hi v n f) :
    Calls Tryz.prog 59 #[v, .int .i64 x] w fun e w' => BoolIs (Has n f x) e ∧ w' = w := by
  obtain ⟨m1, a, c, rfl, mc, g1⟩ := h1
  unfold maxLen at m1
  have G1 : Hid (0 < n → ∃ b off, a = some ⟨b, off, none⟩ ∧ lo ≤ b ∧ b < hi ∧ ∀ i, i < n → w.cell? ⟨b, off + i, none⟩ = some (.int .i64 (f i))) := g1
  clear g1
  go_enter Tryz.func59, Tryz.ntmps59
  go_wp2
  go_loop [5] (fun i => ∃ k : Nat, k ≤ n ∧ i = .int .i64 k ∧ ¬ Has k f x) (fun i => n - (intOf i).toNat)
  case atStart => exact ⟨0, Nat.zero_le _, rfl, fun ⟨j, hj, _⟩ => absurd hj (Nat.not_lt_zero _)⟩
  case round =>
    obtain ⟨k, hk, rfl, hno⟩ := hrel
    have Hno : Hid (¬ Has k f x) := hno
    clear hno
    by_cases hlt : k < n
    · have hlt' : (k : Int) < (n : Int) := by omega
      obtain ⟨b, off, rfl, _, _, k1⟩ := G1.out (by omega)
      have hc1 := k1 k hlt
      clear k1 G1
      by_cases he : f k = x
      · have H : Hid (Has n f x) := ⟨k, hlt, he⟩
        have he' : (f k == x) = true := by simp [he]
        clear he
        go_wp2
        go_ret
        exact ⟨BoolIs.yes H.out, rfl⟩
      · have H : Hid (¬ f k = x) := he
        have he' : (f k == x) = false := by simp [he]
        clear he
        go_wp2
        go_round
        case rel =>
          refine ⟨k + 1, by omega, by go_num, ?_⟩
          rintro ⟨j, hj, hjx⟩
          by_cases e : j = k
          · subst e; exact H.out hjx
          · exact Hno.out ⟨j, by omega, hjx⟩
        case measure => simp [intOf]; omega
    · obtain rfl : k = n := by omega
      go_wp2
      go_ret
      exact ⟨BoolIs.no Hno.out, rfl⟩

end Go.Proofs.YtjpbmpjddbekgaaGreat

namespace Go.Proofs.YtjpbmpjddbekgaaGreat
open Go.RowKit
set_option linter.unusedVariables false

def Page (s : SlotD) : Prop := BirthOk s.birth ∧ s.kn = 0 ∧ s.data.size = 16
def Node (s : SlotD) : Prop := BirthOk s.birth ∧ s.kn = 8 ∧ s.data.toList.isEmpty = true

set_option maxRecDepth 20000 in
set_option maxHeartbeats 400000 in
theorem isFree_any (v0 v1 v2 : Value) (lo hi : Nat) (s : SlotD) (w : World) (h1 : SlotAt w lo hi v0 v1 v2 s) :
    Calls Tryz.prog 152 #[.agg #[v0, v1, v2]] w fun e w' => BoolIs (Free s) e ∧ Below w.heap.size w w' := by
  obtain ⟨rfl, ⟨m1, a, c, rfl, _⟩, rfl, _⟩ := h1
  unfold maxLen at m1
  have hbw := (Below.refl w.heap.size w).alloc (Nat.le_refl _) (.cells #[.int .i64 s.birth, .slice a s.kn c, .string s.data] 84)
  by_cases h1 : s.birth = 0
  · by_cases h2 : s.kn = 0
    · by_cases h3 : s.data.toList.isEmpty = true
      · have H : Hid (Free s) := ⟨h1, h2, h3⟩
        have e1 : (s.birth == 0) = true := by simp [h1]
        have e2 : ((s.kn : Int) == 0) = true := by simp [h2]
        clear h1 h2
        go_enter Tryz.func152, Tryz.ntmps152
        go_wp2
        go_ret
        exact ⟨BoolIs.yes H.out, hbw⟩
      · have H : Hid (¬ Free s) := fun h => h3 h.2.2
        have e1 : (s.birth == 0) = true := by simp [h1]
        have e2 : ((s.kn : Int) == 0) = true := by simp [h2]
        have e3 : s.data.toList.isEmpty = false := by simpa using h3
        clear h1 h2 h3
        go_enter Tryz.func152, Tryz.ntmps152
        go_wp2
        go_ret
        exact ⟨BoolIs.no H.out, hbw⟩
    · have H : Hid (¬ Free s) := fun h => h2 h.2.1
      have e1 : (s.birth == 0) = true := by simp [h1]
      have e2 : ((s.kn : Int) == 0) = false := by simp; omega
      clear h1 h2
      go_enter Tryz.func152, Tryz.ntmps152
      go_wp2
      go_ret
      exact ⟨BoolIs.no H.out, hbw⟩
  · have H : Hid (¬ Free s) := fun h => h1 h.1
    have e1 : (s.birth == 0) = false := by simp [h1]
    clear h1
    go_enter Tryz.func152, Tryz.ntmps152
    go_wp2
    go_ret
    exact ⟨BoolIs.no H.out, hbw⟩

set_option maxRecDepth 20000 in
set_option maxHeartbeats 400000 in
theorem birthRight_any (n : Int) (w : World) : Calls Tryz.prog 176 #[.int .i64 n] w fun e w' => BoolIs (BirthOk n) e ∧ w' = w := by
  by_cases h1 : 1 ≤ n
  · by_cases h2 : n ≤ 1000000
    · go_enter Tryz.func176, Tryz.ntmps176
      go_wp2
      go_ret
      exact ⟨BoolIs.yes ⟨h1, h2⟩, rfl⟩
    · go_enter Tryz.func176, Tryz.ntmps176
      go_wp2
      go_ret
      exact ⟨BoolIs.no fun h => by have := h.2; omega, rfl⟩
  · go_enter Tryz.func176, Tryz.ntmps176
    go_wp2
    go_ret
    exact ⟨BoolIs.no fun h => by have := h.1; omega, rfl⟩

set_option maxRecDepth 20000 in
set_option maxHeartbeats 400000 in
theorem isPage_any (v0 v1 v2 : Value) (lo hi : Nat) (s : SlotD) (w : World) (h1 : SlotAt w lo hi v0 v1 v2 s) :
    Calls Tryz.prog 153 #[.agg #[v0, v1, v2]] w fun e w' => BoolIs (Page s) e ∧ Below w.heap.size w w' := by
  obtain ⟨rfl, ⟨m1, a, c, rfl, _⟩, rfl, m2⟩ := h1
  unfold maxLen at m1 m2
  have hbw := (Below.refl w.heap.size w).alloc (Nat.le_refl _) (.cells #[.int .i64 s.birth, .slice a s.kn c, .string s.data] 84)
  by_cases h1 : BirthOk s.birth
  · have HB : Hid (BirthOk s.birth) := h1
    by_cases h2 : s.kn = 0
    · by_cases h3 : s.data.size = 16
      · have H : Hid (Page s) := ⟨h1, h2, h3⟩
        have e2 : ((s.kn : Int) == 0) = true := by simp [h2]
        have e3 : ((s.data.size : Int) == 16) = true := by simp [h3]
        clear h1 h2 h3
        go_enter Tryz.func153, Tryz.ntmps153
        go_wp2_with (go_at_call 176; refine (birthRight_any _ _).mono ?_; rintro e w' ⟨⟨t, rfl, ht⟩, rfl⟩; obtain rfl : t = true := ht.2 HB.out; clear ht)
        go_ret
        exact ⟨BoolIs.yes H.out, hbw⟩
      · have H : Hid (¬ Page s) := fun h => h3 h.2.2
        have e2 : ((s.kn : Int) == 0) = true := by simp [h2]
        have e3 : ((s.data.size : Int) == 16) = false := by simp; omega
        clear h1 h2 h3
        go_enter Tryz.func153, Tryz.ntmps153
        go_wp2_with (go_at_call 176; refine (birthRight_any _ _).mono ?_; rintro e w' ⟨⟨t, rfl, ht⟩, rfl⟩; obtain rfl : t = true := ht.2 HB.out; clear ht)
        go_ret
        exact ⟨BoolIs.no H.out, hbw⟩
    · have H : Hid (¬ Page s) := fun h => h2 h.2.1
      have e2 : ((s.kn : Int) == 0) = false := by simp; omega
      clear h1 h2
      go_enter Tryz.func153, Tryz.ntmps153
      go_wp2_with (go_at_call 176; refine (birthRight_any _ _).mono ?_; rintro e w' ⟨⟨t, rfl, ht⟩, rfl⟩; obtain rfl : t = true := ht.2 HB.out; clear ht)
      go_ret
      exact ⟨BoolIs.no H.out, hbw⟩
  · have HB : Hid (¬ BirthOk s.birth) := h1
    clear h1
    go_enter Tryz.func153, Tryz.ntmps153
    go_wp2_with (go_at_call 176; refine (birthRight_any _ _).mono ?_; rintro e w' ⟨⟨t, rfl, ht⟩, rfl⟩; obtain rfl : t = false := bool_no ht HB.out; clear ht)
    go_ret
    exact ⟨BoolIs.no fun h => HB.out h.1, hbw⟩

set_option maxRecDepth 20000 in
set_option maxHeartbeats 400000 in
theorem isNode_any (v0 v1 v2 : Value) (lo hi : Nat) (s : SlotD) (w : World) (h1 : SlotAt w lo hi v0 v1 v2 s) :
    Calls Tryz.prog 154 #[.agg #[v0, v1, v2]] w fun e w' => BoolIs (Node s) e ∧ Below w.heap.size w w' := by
  obtain ⟨rfl, ⟨m1, a, c, rfl, _⟩, rfl, m2⟩ := h1
  unfold maxLen at m1 m2
  have hbw := (Below.refl w.heap.size w).alloc (Nat.le_refl _) (.cells #[.int .i64 s.birth, .slice a s.kn c, .string s.data] 84)
  by_cases h1 : BirthOk s.birth
  · have HB : Hid (BirthOk s.birth) := h1
    by_cases h2 : s.kn = 8
    · by_cases h3 : s.data.toList.isEmpty = true
      · have H : Hid (Node s) := ⟨h1, h2, h3⟩
        have e2 : ((s.kn : Int) == 8) = true := by simp [h2]
        clear h1 h2
        go_enter Tryz.func154, Tryz.ntmps154
        go_wp2_with (go_at_call 176; refine (birthRight_any _ _).mono ?_; rintro e w' ⟨⟨t, rfl, ht⟩, rfl⟩; obtain rfl : t = true := ht.2 HB.out; clear ht)
        go_ret
        exact ⟨BoolIs.yes H.out, hbw⟩
      · have H : Hid (¬ Node s) := fun h => h3 h.2.2
        have e2 : ((s.kn : Int) == 8) = true := by simp [h2]
        have e3 : s.data.toList.isEmpty = false := by simpa using h3
        clear h1 h2 h3
        go_enter Tryz.func154, Tryz.ntmps154
        go_wp2_with (go_at_call 176; refine (birthRight_any _ _).mono ?_; rintro e w' ⟨⟨t, rfl, ht⟩, rfl⟩; obtain rfl : t = true := ht.2 HB.out; clear ht)
        go_ret
        exact ⟨BoolIs.no H.out, hbw⟩
    · have H : Hid (¬ Node s) := fun h => h2 h.2.1
      have e2 : ((s.kn : Int) == 8) = false := by simp; omega
      clear h1 h2
      go_enter Tryz.func154, Tryz.ntmps154
      go_wp2_with (go_at_call 176; refine (birthRight_any _ _).mono ?_; rintro e w' ⟨⟨t, rfl, ht⟩, rfl⟩; obtain rfl : t = true := ht.2 HB.out; clear ht)
      go_ret
      exact ⟨BoolIs.no H.out, hbw⟩
  · have HB : Hid (¬ BirthOk s.birth) := h1
    clear h1
    go_enter Tryz.func154, Tryz.ntmps154
    go_wp2_with (go_at_call 176; refine (birthRight_any _ _).mono ?_; rintro e w' ⟨⟨t, rfl, ht⟩, rfl⟩; obtain rfl : t = false := bool_no ht HB.out; clear ht)
    go_ret
    exact ⟨BoolIs.no fun h => HB.out h.1, hbw⟩

set_option maxRecDepth 20000 in
set_option maxHeartbeats 400000 in
theorem index_any (v : Value) (n lo hi : Nat) (f : Nat → Int) (x : Int) (w : World) (h1 : IntsAt w lo hi v n f) :
    Calls Tryz.prog 179 #[v, .int .i64 x] w fun e w' => (∃ r : Int, e = .returned (.int .i64 r) ∧ (0 ≤ r ↔ Has n f x)) ∧ w' = w := by
  obtain ⟨m1, a, c, rfl, mc, g1⟩ := h1
  unfold maxLen at m1
  have G1 : Hid (0 < n → ∃ b off, a = some ⟨b, off, none⟩ ∧ lo ≤ b ∧ b < hi ∧ ∀ i, i < n → w.cell? ⟨b, off + i, none⟩ = some (.int .i64 (f i))) := g1
  clear g1
  go_enter Tryz.func179, Tryz.ntmps179
  go_wp2
  go_loop [8] (fun i => ∃ k : Nat, k ≤ n ∧ i = .int .i64 k ∧ ¬ Has k f x) (fun i => n - (intOf i).toNat)
  case atStart => exact ⟨0, Nat.zero_le _, rfl, fun ⟨j, hj, _⟩ => absurd hj (Nat.not_lt_zero _)⟩
  case round =>
    obtain ⟨k, hk, rfl, hno⟩ := hrel
    have Hno : Hid (¬ Has k f x) := hno
    clear hno
    by_cases hlt : k < n
    · have hlt' : (k : Int) < (n : Int) := by omega
      obtain ⟨b, off, rfl, _, _, k1⟩ := G1.out (by omega)
      have hc1 := k1 k hlt
      clear k1 G1
      by_cases he : f k = x
      · have H : Hid (Has n f x) := ⟨k, hlt, he⟩
        have he' : (x == f k) = true := by simp [he]
        clear he
        go_wp2
        go_ret
        exact ⟨⟨_, rfl, ⟨fun _ => H.out, fun _ => Int.natCast_nonneg _⟩⟩, rfl⟩
      · have H : Hid (¬ f k = x) := he
        have he' : (x == f k) = false := by simp; exact fun e => he e.symm
        clear he
        go_wp2
        go_round
        case rel =>
          refine ⟨k + 1, by omega, by go_num, ?_⟩
          rintro ⟨j, hj, hjx⟩
          by_cases e : j = k
          · subst e; exact H.out hjx
          · exact Hno.out ⟨j, by omega, hjx⟩
        case measure => simp [intOf]; omega
    · obtain rfl : k = n := by omega
      go_wp2
      go_ret
      exact ⟨⟨-1, rfl, ⟨fun h => absurd h (by omega), fun h => absurd h Hno.out⟩⟩, rfl⟩

set_option maxRecDepth 20000 in
set_option maxHeartbeats 400000 in
theorem contains_any (v : Value) (n lo hi : Nat) (f : Nat → Int) (x : Int) (w : World) (h1 : IntsAt w lo hi v n f) :
    Calls Tryz.prog 157 #[v, .int .i64 x] w fun e w' => BoolIs (Has n f x) e ∧ w' = w := by
  have Hi : Hid (IntsAt w lo hi v n f) := h1
  obtain ⟨m1, a, c, rfl, mc, g1⟩ := h1
  clear g1
  go_enter Tryz.func157, Tryz.ntmps157
  go_wp2_with fail
  refine (index_any _ n lo hi f x _ Hi.out).mono ?_
  rintro e w' ⟨⟨r, rfl, hr⟩, rfl⟩
  have Hr : Hid (0 ≤ r ↔ Has n f x) := hr
  clear hr
  go_wp2
  go_ret
  exact ⟨⟨_, rfl, by simpa using Hr.out⟩, rfl⟩

def PtrOf (n : Nat) (f : Nat → SlotD) (x ps pb : Int) : Prop :=
  (0 ≤ x ∧ x < n ∧ ¬ Free (f x.toNat) ∧ ps = x ∧ pb = (f x.toNat).birth) ∨ (¬ (0 ≤ x ∧ x < n ∧ ¬ Free (f x.toNat)) ∧ ps = 0 ∧ pb = 0)

set_option maxRecDepth 20000 in
set_option maxHeartbeats 400000 in
theorem ptrOf_any (v : Value) (n lo hi : Nat) (f : Nat → SlotD) (x : Int) (w : World) (h1 : SlotsAt w lo hi v n f) :
    Calls Tryz.prog 156 #[v, .int .i64 x] w fun e w' => (∃ ps pb, e = .returned (.agg #[.int .i64 ps, .int .i64 pb]) ∧ PtrOf n f x ps pb) ∧ Below w.heap.size w w' := by
  have Hi : Hid (SlotsAt w lo hi v n f) := h1
  obtain ⟨m1, a, c, rfl, mc, g1⟩ := h1
  unfold maxLen at m1
  clear g1
  have Hbw : Hid (Below w.heap.size w (w.alloc (.cells #[.int .i64 0, .int .i64 0] 43))) := below_alloc _ _
  by_cases h1 : x < 0
  · have H : Hid (PtrOf n f x 0 0) := Or.inr ⟨fun h => by omega, rfl, rfl⟩
    go_enter Tryz.func156, Tryz.ntmps156
    go_wp2
    refine bodyPost_ret (v := .agg #[.int .i64 0, .int .i64 0]) (by simp [results, Tryz.results156, go_sem]) rfl ⟨⟨0, 0, rfl, H.out⟩, Hbw.out⟩
  · by_cases h2 : (n : Int) ≤ x
    · have H : Hid (PtrOf n f x 0 0) := Or.inr ⟨fun h => by omega, rfl, rfl⟩
      go_enter Tryz.func156, Tryz.ntmps156
      go_wp2
      refine bodyPost_ret (v := .agg #[.int .i64 0, .int .i64 0]) (by simp [results, Tryz.results156, go_sem]) rfl ⟨⟨0, 0, rfl, H.out⟩, Hbw.out⟩
    · obtain ⟨k, rfl⟩ := Int.eq_ofNat_of_zero_le (show 0 ≤ x by omega)
      have hk : k < n := by omega
      have hkl : (k : Int) < (n : Int) := by omega
      obtain ⟨b, off, ka, kc, rfl, hs⟩ := Hi.out.cells hk
      have Hs : Hid (SlotCells w b (off + k * 3) lo hi ka kc (f k)) := hs
      have hlt := lt_of_cell hs.c0
      obtain ⟨q0, q1, q2, _⟩ := hs
      by_cases hf : Free (f k)
      · have H : Hid (PtrOf n f k 0 0) := Or.inr ⟨fun h => h.2.2 (by rw [Int.toNat_natCast]; exact hf), rfl, rfl⟩
        have HF : Hid (Free (f k)) := hf
        clear hf
        go_enter Tryz.func156, Tryz.ntmps156
        go_wp2_with fail
        refine (isFree_any _ _ _ lo hi (f k) _ (Hs.out.slot.below Hbw.out)).mono ?_
        rintro e w1 ⟨⟨t, rfl, hx⟩, hb1⟩
        obtain rfl : t = true := hx.2 HF.out
        clear hx
        have HX : Hid (Box2 w1 w.heap.size (.int .i64 0) (.int .i64 0)) := (Box2.new w _ _ _).below hb1
        have hbn := below_next Hbw.out hb1
        clear hb1 q0 q1 q2
        obtain ⟨⟨y0, y1⟩, ⟨y2, y3⟩⟩ := HX.out
        go_wp2
        have HY := HX.out.put (.int .i64 0) (.int .i64 0)
        refine bodyPost_ret (v := .agg #[.int .i64 0, .int .i64 0]) (by simp [results, Tryz.results156, go_sem, HY.1.1, HY.2.1]) rfl ⟨⟨0, 0, rfl, H.out⟩, (hbn.setCell (Nat.le_refl _) _).setCell (Nat.le_refl _) _⟩
      · have H : Hid (PtrOf n f k k (f k).birth) := Or.inl ⟨by omega, hkl, by rw [Int.toNat_natCast]; exact hf, rfl, by rw [Int.toNat_natCast]⟩
        have HF : Hid (¬ Free (f k)) := hf
        clear hf
        go_enter Tryz.func156, Tryz.ntmps156
        go_wp2_with fail
        refine (isFree_any _ _ _ lo hi (f k) _ (Hs.out.slot.below Hbw.out)).mono ?_
        rintro e w1 ⟨⟨t, rfl, hx⟩, hb1⟩
        obtain rfl : t = false := bool_no hx HF.out
        clear hx
        have HX : Hid (Box2 w1 w.heap.size (.int .i64 0) (.int .i64 0)) := (Box2.new w _ _ _).below hb1
        have hbn := below_next Hbw.out hb1
        have q5 := (Hs.out.below hbn).c0
        clear hb1 q0 q1 q2
        obtain ⟨⟨y0, y1⟩, ⟨y2, y3⟩⟩ := HX.out
        go_wp2
        have HY := HX.out.put (.int .i64 k) (.int .i64 (f k).birth)
        refine bodyPost_ret (v := .agg #[.int .i64 k, .int .i64 (f k).birth]) (by simp [results, Tryz.results156, go_sem, HY.1.1, HY.2.1]) rfl ⟨⟨_, _, rfl, H.out⟩, (hbn.setCell (Nat.le_refl _) _).setCell (Nat.le_refl _) _⟩

end Go.Proofs.YtjpbmpjddbekgaaGreat

namespace Go.Proofs.YtjpbmpjddbekgaaGreat
open Go.RowKit Go.Maps
set_option linter.unusedVariables false

def TimeOk (t : Int) : Prop := 0 ≤ t ∧ t ≤ 1000000
def PtrOk (s b : Int) : Prop := 0 ≤ s ∧ s ≤ 199 ∧ 1 ≤ b ∧ b ≤ 1000000
/-- No two have one slot. -/
def Dist (n : Nat) (f : Nat → Int) : Prop := ∀ i, i < n → ∀ k, k < i → f k ≠ f i
def PtrsOk (n : Nat) (f g : Nat → Int) : Prop := n ≤ 200 ∧ (∀ i, i < n → PtrOk (f i) (g i)) ∧ Dist n f
def PIn (n : Nat) (f g : Nat → Int) (x y : Int) : Prop := ∃ j, j < n ∧ f j = x ∧ g j = y
def PSame (n : Nat) (f g : Nat → Int) (m : Nat) (f' g' : Nat → Int) : Prop := PtrsOk n f g ∧ PtrsOk m f' g' ∧ n = m ∧ ∀ i, i < n → PIn m f' g' (f i) (g i)

theorem Dist.inj {n : Nat} {f : Nat → Int} (h : Dist n f) {i k : Nat} (hi : i < n) (hk : k < n) (e : f i = f k) : i = k := by
  rcases Nat.lt_trichotomy i k with h1 | h1 | h1
  · exact absurd e (h k hk i h1)
  · exact h1
  · exact absurd e.symm (h i hi k h1)

theorem pigeonD : ∀ (n m : Nat) (h : Nat → Nat), (∀ i, i < n → h i < m) → (∀ i k, i < n → k < n → h i = h k → i = k) → n ≤ m
  | 0, _, _, _, _ => Nat.zero_le _
  | n + 1, m, h, h1, h2 => by
    have hm := h1 n (Nat.lt_succ_self n)
    have := pigeonD n (m - 1) (fun i => if h i < h n then h i else h i - 1) (fun i hi => by
      have := h1 i (by omega)
      have : h i ≠ h n := fun e => by have := h2 i n (by omega) (by omega) e; omega
      show (if h i < h n then h i else h i - 1) < m - 1
      split <;> omega) (fun i k hi hk e => by
      have a1 : h i ≠ h n := fun e => by have := h2 i n (by omega) (by omega) e; omega
      have a2 : h k ≠ h n := fun e => by have := h2 k n (by omega) (by omega) e; omega
      have e' : (if h i < h n then h i else h i - 1) = (if h k < h n then h k else h k - 1) := e
      refine h2 i k (by omega) (by omega) ?_
      split at e' <;> split at e' <;> omega)
    omega

/-- Of two lists of right pointers of one length: if all of one are in the other one, all of that one are in this. -/
theorem same_flip {n : Nat} {f g f' g' : Nat → Int} (h1 : PtrsOk n f g) (h2 : PtrsOk n f' g') (h : ∀ i, i < n → PIn n f' g' (f i) (g i)) : ∀ j, j < n → PIn n f g (f' j) (g' j) := by
  intro j hj
  by_cases hx : PIn n f g (f' j) (g' j)
  · exact hx
  · exfalso
    have := pigeonD n (n - 1) (fun i => if hi : i < n then (if (h i hi).choose < j then (h i hi).choose else (h i hi).choose - 1) else 0) (fun i hi => by
      have hs := (h i hi).choose_spec
      have hne : (h i hi).choose ≠ j := fun e => hx ⟨i, hi, by rw [← hs.2.1, e], by rw [← hs.2.2, e]⟩
      simp only [hi, dif_pos]
      split <;> omega) (fun i k hi hk e => by
      have hs := (h i hi).choose_spec
      have hs' := (h k hk).choose_spec
      have hne : (h i hi).choose ≠ j := fun e => hx ⟨i, hi, by rw [← hs.2.1, e], by rw [← hs.2.2, e]⟩
      have hne' : (h k hk).choose ≠ j := fun e => hx ⟨k, hk, by rw [← hs'.2.1, e], by rw [← hs'.2.2, e]⟩
      simp only [hi, hk, dif_pos] at e
      have e2 : (h i hi).choose = (h k hk).choose := by split at e <;> split at e <;> omega
      refine h1.2.2.inj hi hk ?_
      rw [← hs.2.1, ← hs'.2.1, e2])
    omega

theorem PSame.symm {n m : Nat} {f g f' g' : Nat → Int} (h : PSame n f g m f' g') : PSame m f' g' n f g := by
  obtain ⟨h1, h2, rfl, h3⟩ := h
  exact ⟨h2, h1, rfl, same_flip h1 h2 h3⟩

/-- The key of a slot. -/
def keyI (x : Int) : Lit := .int .i64 x
theorem keyI_ne {x y : Int} (h : x ≠ y) : keyI x ≠ keyI y := fun e => h (by unfold keyI at e; injection e)
theorem keyI_key (x : Int) : WideAt.IsKeyLit (keyI x) := trivial
def datI (x : Int) : DataW Unit := .lit (.int .i64 x)
theorem datI_inj {x y : Int} (h : datI x = datI y) : x = y := by unfold datI at h; injection h with h; injection h

/-- The map of the first k slots. -/
def seenD (f g : Nat → Int) : Nat → DataW Unit
  | 0 => .map []
  | k + 1 => (seenD f g k).put (keyI (f k)) (datI (g k))

theorem seen_tidy (f g : Nat → Int) : ∀ k, Tidy (seenD f g k)
  | 0 => tidy_empty
  | k + 1 => (seen_tidy f g k).put (keyI_key _) _

theorem seen_has (f g : Nat → Int) (x : Int) : ∀ k, Maps.has (seenD f g k) (keyI x) = true ↔ ∃ i, i < k ∧ f i = x
  | 0 => by
    constructor
    · intro h; exact absurd h (by simp [seenD, Maps.has])
    · rintro ⟨i, hi, _⟩; omega
  | k + 1 => by
    by_cases hx : f k = x
    · subst hx
      exact ⟨fun _ => ⟨k, by omega, rfl⟩, fun _ => has_put_same (seen_tidy f g k).isMap (keyI_key _) _⟩
    · rw [show Maps.has (seenD f g (k + 1)) (keyI x) = Maps.has (seenD f g k) (keyI x) from has_put_other (keyI_ne (Ne.symm hx)) _, seen_has f g x k]
      constructor
      · rintro ⟨i, hi, e⟩; exact ⟨i, by omega, e⟩
      · rintro ⟨i, hi, e⟩
        by_cases h : i = k
        · subst h; exact absurd e hx
        · exact ⟨i, by omega, e⟩

theorem dist_succ {k : Nat} {f : Nat → Int} : Dist (k + 1) f ↔ Dist k f ∧ ∀ i, i < k → f i ≠ f k := by
  constructor
  · exact fun h => ⟨fun i hi => h i (by omega), fun i hi => h k (by omega) i hi⟩
  · rintro ⟨h1, h2⟩ i hi j hj
    by_cases e : i = k
    · subst e; exact h2 j hj
    · exact h1 i (by omega) j hj

theorem seen_size (f g : Nat → Int) : ∀ k, Maps.size (seenD f g k) ≤ k ∧ (Maps.size (seenD f g k) = k ↔ Dist k f)
  | 0 => ⟨Nat.le_refl _, fun _ i hi => by omega, fun _ => rfl⟩
  | k + 1 => by
    obtain ⟨h1, h2⟩ := seen_size f g k
    have e : Maps.size (seenD f g (k + 1)) = if Maps.has (seenD f g k) (keyI (f k)) then Maps.size (seenD f g k) else Maps.size (seenD f g k) + 1 := size_put (seen_tidy f g k) _
    by_cases hh : Maps.has (seenD f g k) (keyI (f k)) = true
    · rw [if_pos hh] at e
      rw [e, dist_succ]
      refine ⟨by omega, fun h => by omega, fun h => ?_⟩
      obtain ⟨i, hi, he⟩ := (seen_has f g (f k) k).1 hh
      exact absurd he (h.2 i hi)
    · rw [if_neg hh] at e
      rw [e, dist_succ, ← h2]
      refine ⟨by omega, fun h => ⟨by omega, fun i hi he => hh ((seen_has f g (f k) k).2 ⟨i, hi, he⟩)⟩, fun h => by omega⟩

theorem seen_at {n : Nat} {f : Nat → Int} (g : Nat → Int) (hd : Dist n f) (z : DataW Unit) : ∀ k, k ≤ n → ∀ i, i < k → (seenD f g k).atKey (keyI (f i)) z = datI (g i)
  | 0, _, i, hi => absurd hi (Nat.not_lt_zero _)
  | k + 1, hk, i, hi => by
    by_cases e : i = k
    · subst e; exact atKey_put_same (seen_tidy f g i).isMap (keyI_key _) _ _
    · exact (atKey_put_other (keyI_ne (fun h => e (hd.inj (by omega) (by omega) h))) _ _).trans (seen_at g hd z k (by omega) i (by omega))

/-- What is left of a list of right pointers, of which the slots of the first k of another list are gone. -/
structure LeftD (n : Nat) (f g f' : Nat → Int) (k : Nat) (D : DataW Unit) : Prop where
  tidy : Tidy D
  size : Maps.size D + k = n
  at' : ∀ x, (∀ j, j < k → f' j ≠ x) → (∀ i, i < n → f i = x → D.atKey (keyI x) (datI 0) = datI (g i)) ∧ ((∀ i, i < n → f i ≠ x) → D.atKey (keyI x) (datI 0) = datI 0)
  has : ∀ x, Maps.has D (keyI x) = true ↔ (∃ i, i < n ∧ f i = x) ∧ ∀ j, j < k → f' j ≠ x

theorem LeftD.start {n : Nat} {f g : Nat → Int} (h : PtrsOk n f g) (f' : Nat → Int) : LeftD n f g f' 0 (seenD f g n) where
  tidy := seen_tidy f g n
  size := by rw [(seen_size f g n).2.2 h.2.2]; rfl
  at' := fun x _ => ⟨fun i hi e => by subst e; exact seen_at g h.2.2 _ n (Nat.le_refl _) i hi, fun hno => by
    refine atKey_of_not_has ?_ _
    rw [Bool.eq_false_iff]
    intro hh
    obtain ⟨i, hi, e⟩ := (seen_has f g x n).1 hh
    exact hno i hi e⟩
  has := fun x => by
    rw [seen_has]
    exact ⟨fun h => ⟨h, fun j hj => absurd hj (Nat.not_lt_zero _)⟩, fun h => h.1⟩

/-- The next one's birth is as in the map: it goes. -/
theorem LeftD.next {n m : Nat} {f g f' g' : Nat → Int} {k : Nat} {D : DataW Unit} (h : LeftD n f g f' k D) (h2 : PtrsOk m f' g') (hk : k < m) (e : D.atKey (keyI (f' k)) (datI 0) = datI (g' k)) : LeftD n f g f' (k + 1) (D.del (keyI (f' k))) := by
  have hhas : Maps.has D (keyI (f' k)) = true := by
    by_cases hh : Maps.has D (keyI (f' k)) = true
    · exact hh
    · rw [atKey_of_not_has (by simpa using hh)] at e
      have := datI_inj e
      have := (h2.2.1 k hk).2.2.1
      omega
  have hs := size_del (k := keyI (f' k)) h.tidy
  rw [hhas] at hs
  refine ⟨h.tidy.del _, ?_, fun x hx => ?_, fun x => ?_⟩
  · have := h.size
    have hs' : Maps.size (D.del (keyI (f' k))) + 1 = Maps.size D := hs
    omega
  · have hne : f' k ≠ x := hx k (by omega)
    rw [atKey_del_other (keyI_ne (Ne.symm hne))]
    exact h.at' x (fun j hj => hx j (by omega))
  · by_cases hne : f' k = x
    · subst hne
      rw [has_del_same]
      exact ⟨fun h => absurd h (by simp), fun h => absurd rfl (h.2 k (by omega))⟩
    · rw [has_del_other (keyI_ne (Ne.symm hne)), h.has x]
      refine and_congr_right fun _ => ⟨fun h j hj => ?_, fun h j hj => h j (by omega)⟩
      by_cases ej : j = k
      · subst ej; exact hne
      · exact h j (by omega)

theorem LeftD.no {n m : Nat} {f g f' g' : Nat → Int} {k : Nat} {D : DataW Unit} (h : LeftD n f g f' k D) (h1 : PtrsOk n f g) (h2 : PtrsOk m f' g') (hk : k < m) {c : Int} (e : D.atKey (keyI (f' k)) (datI 0) = datI c) (hc : c ≠ g' k) : ¬ PSame n f g m f' g' := by
  intro hs
  obtain ⟨i, hi, e1, e2⟩ := hs.symm.2.2.2 k hk
  have := (h.at' (f' k) (fun j hj => h2.2.2 k hk j hj)).1 i hi e1
  rw [e] at this
  exact hc ((datI_inj this).trans e2)

/-- All of the other list were there. -/
theorem LeftD.end {n m : Nat} {f g f' g' : Nat → Int} {D : DataW Unit} (h : LeftD n f g f' m D) (h1 : PtrsOk n f g) (h2 : PtrsOk m f' g') (hin : ∀ j, j < m → PIn n f g (f' j) (g' j)) : Maps.size D = 0 ↔ PSame n f g m f' g' := by
  have hs := h.size
  constructor
  · intro h0
    obtain rfl : m = n := by omega
    exact PSame.symm ⟨h2, h1, rfl, hin⟩
  · intro hp
    have := hp.2.2.1
    omega

theorem LeftD.in {n m : Nat} {f g f' g' : Nat → Int} {k : Nat} {D : DataW Unit} (h : LeftD n f g f' k D) (h2 : PtrsOk m f' g') (hk : k < m) (e : D.atKey (keyI (f' k)) (datI 0) = datI (g' k)) : PIn n f g (f' k) (g' k) := by
  by_cases hx : ∃ i, i < n ∧ f i = f' k
  · obtain ⟨i, hi, ei⟩ := hx
    have := (h.at' (f' k) (fun j hj => h2.2.2 k hk j hj)).1 i hi ei
    rw [e] at this
    exact ⟨i, hi, ei, (datI_inj this).symm⟩
  · have := (h.at' (f' k) (fun j hj => h2.2.2 k hk j hj)).2 (fun i hi e => hx ⟨i, hi, e⟩)
    rw [e] at this
    have := datI_inj this
    have := (h2.2.1 k hk).2.2.1
    omega

/-- Those of the first k that the question takes, and the others. -/
def youngL (f g : Nat → Int) (t : Int) : Nat → List (Int × Int)
  | 0 => []
  | k + 1 => if t < g k then youngL f g t k ++ [(f k, g k)] else youngL f g t k
def oldL (f g : Nat → Int) (t : Int) : Nat → List (Int × Int)
  | 0 => []
  | k + 1 => if t < g k then oldL f g t k else oldL f g t k ++ [(f k, g k)]
theorem young_len (f g : Nat → Int) (t : Int) : ∀ k, (youngL f g t k).length + (oldL f g t k).length = k
  | 0 => rfl
  | k + 1 => by
    have := young_len f g t k
    unfold youngL oldL
    split <;> simp <;> omega

end Go.Proofs.YtjpbmpjddbekgaaGreat
