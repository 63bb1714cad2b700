/- What TreeWrite leaves, told as three slots that are taken (no law is proved here). -/
import Derived.Test.YtikhipekmlhibaaG24
import Derived.Test.YtikhipekmlhibaaG8
import Derived.Test.YtikhipekmlhibaaG19
import Derived.Test.YtikhipekmlhibaaG10
import Derived.Test.YtikhipekmlhibaaG17
namespace Go.Proofs.Ytikhipekmlhibaa
open Go Go.RowKit
set_option linter.unusedVariables false

theorem met_points {p : PoolD} {xs xb : Int} {n : Nat} (hT : TreeR p xs xb) (hn : n < 64) : ∀ {L : Nat}, L < 3 → ¬ Nil (metS p xs xb n L) (metB p xs xb n L) → Points p (metS p xs xb n L) (metB p xs xb n L) ∧ metB p xs xb n L ≤ xb
  | 0, _, hN => ⟨(hT.2.resolve_left hN).1.1, Int.le_refl _⟩
  | L + 1, hL, hN => by
    have hN0 : ¬ Nil (metS p xs xb n L) (metB p xs xb n L) := fun h => hN (met_nil h (by omega))
    obtain ⟨h1, h2⟩ := met_points hT hn (L := L) (by omega) hN0
    rw [(met_next p xs xb n (show L < 2 by omega)).1, (met_next p xs xb n (show L < 2 by omega)).2] at hN ⊢
    unfold kidC at hN ⊢
    rw [if_neg hN0, if_neg hN0] at hN ⊢
    obtain ⟨h3, h4⟩ := kid_points (points_fits hT.1 h1) (plc_lt (n := n) (L := L) hn) hN
    refine ⟨h3, ?_⟩
    have h5 := h1.2.2.2
    have h4' : kidCell (p.s (metS p xs xb n L).toNat) (plc n L * 2 + 1) ≤ (p.s (metS p xs xb n L).toNat).birth := h4
    omega
/-- A node that is laid anew fits. -/
theorem fits_kid {p q : PoolD} {xs xb x y b : Int} {n L : Nat} (hT : TreeR p xs xb) (hn : n < 64) (hL : L < 2) (hB : BornOk xb b) (hpq : ∀ s t, Points p s t → Points q s t) (hx : Nil x y ∨ (Points q x y ∧ y ≤ b)) :
    Fits q (slotK (kidX p xs xb n L x) (kidY p xs xb n L y) b) := by
  refine ⟨hB.1, Or.inr ⟨rfl, by simp [slotK, Go.ByteArray.toList_eq], fun i hi => ?_⟩⟩
  have hi8 : i < 8 := hi
  show KidOk q b (kidX p xs xb n L x i) (kidY p xs xb n L y i)
  unfold kidX kidY
  by_cases e : i = plc n L
  · rw [if_pos e, if_pos e]
    rcases hx with h | h
    · exact Or.inl h
    · exact Or.inr h
  · rw [if_neg e, if_neg e]
    unfold kidSF kidBF
    by_cases hN : Nil (metS p xs xb n L) (metB p xs xb n L)
    · rw [if_pos hN, if_pos hN]
      exact Or.inl ⟨rfl, rfl⟩
    · rw [if_neg hN, if_neg hN]
      obtain ⟨h1, h2⟩ := met_points hT hn (L := L) (by omega) hN
      by_cases hk : Nil (kidS (p.s (metS p xs xb n L).toNat) i) (kidB (p.s (metS p xs xb n L).toNat) i)
      · exact Or.inl hk
      · obtain ⟨h3, h4⟩ := kid_points (points_fits hT.1 h1) hi8 hk
        refine Or.inr ⟨hpq _ _ h3, ?_⟩
        have h5 := h1.2.2.2
        have h6 := hB.2
        omega
theorem room_none {f : Nat → SlotD} : ∀ {n : Nat}, roomN f n = 0 → ∀ j, j < n → ¬ Free (f j)
  | 0, _, j, hj => absurd hj (Nat.not_lt_zero _)
  | n + 1, h, j, hj => by
    by_cases hf : Free (f n)
    · rw [roomN_yes hf] at h; omega
    · rw [roomN_no hf] at h
      by_cases e : j = n
      · rw [e]; exact hf
      · exact room_none h j (by omega)
theorem room_first {f : Nat → SlotD} : ∀ {n : Nat}, 0 < roomN f n → ∃ i, First n f i
  | 0, h => absurd h (Nat.lt_irrefl _)
  | n + 1, h => by
    by_cases h0 : 0 < roomN f n
    · obtain ⟨i, h1, h2, h3⟩ := room_first h0
      exact ⟨i, by omega, h2, h3⟩
    · by_cases hf : Free (f n)
      · exact ⟨n, by omega, hf, room_none (by omega)⟩
      · rw [roomN_no hf] at h
        exact absurd h h0
theorem first_room {f : Nat → SlotD} {n i : Nat} (h : First n f i) : 0 < roomN f n := by
  by_cases h0 : roomN f n = 0
  · exact absurd h.2.1 (room_none h0 i h.1)
  · omega
/-- A taken slot: one room less. -/
theorem room_less {p : PoolD} {i : Nat} {s : SlotD} (hi : First p.n p.s i) (hs : Fits p s) : roomN (setS p i s).s p.n + 1 = roomN p.s p.n := by
  have h := room_set (p := p) (i := i) (s := s) hi.2.1 (fits_not_free hs) p.n
  rw [if_pos hi.1] at h
  exact h
theorem fits_page {p : PoolD} {b : Int} {d : ByteArray} (hb : BirthOk b) (hd : d.size = 16) : Fits p (slotG b d) := ⟨hb, Or.inl ⟨rfl, hd⟩⟩
theorem new_points {p : PoolD} {i : Nat} {s : SlotD} (hi : First p.n p.s i) (hs : 1 ≤ s.birth) : Points (setS p i s) (i : Int) s.birth :=
  ⟨hs, by omega, by have := hi.1; show (i : Int) < (p.n : Int); omega, by rw [Int.toNat_natCast, set_here]⟩
theorem not_allNil {p : PoolD} {xs xb x b : Int} {n L : Nat} (hn : n < 64) (hb : 1 ≤ b) : ¬ AllNil (kidX p xs xb n L x) (kidY p xs xb n L b) := fun h => by
  have := (h (plc n L) (plc_lt hn)).2
  unfold kidY at this
  rw [if_pos rfl] at this
  omega

/-- The pool with the page; with the node over it. -/
def page1 (p : PoolD) (b : Int) (d : ByteArray) (i0 : Nat) : PoolD := setS p i0 (slotG b d)
def node2 (p : PoolD) (xs xb : Int) (n : Nat) (b : Int) (d : ByteArray) (i0 i1 : Nat) : PoolD := setS (page1 p b d i0) i1 (slotK (kidX p xs xb n 1 (i0 : Int)) (kidY p xs xb n 1 b) b)
def root3 (p : PoolD) (xs xb : Int) (n : Nat) (b : Int) (d : ByteArray) (i0 i1 i2 : Nat) : PoolD := setS (node2 p xs xb n b d i0 i1) i2 (slotK (kidX p xs xb n 0 (i1 : Int)) (kidY p xs xb n 0 b) b)

theorem take0 {p : PoolD} {xs xb b : Int} {d : ByteArray} {i0 : Nat} (hT : TreeR p xs xb) (hB : BornOk xb b) (hd : d.size = 16) (h0 : First p.n p.s i0) : takeP p (slotG b d) = ⟨page1 p b d i0, (i0 : Int), b, 0⟩ :=
  take_ok ⟨hT.1, fits_not_free (fits_page (p := p) hB.1 hd), fits_page hB.1 hd⟩ h0
theorem page_right {p : PoolD} {xs xb b : Int} {d : ByteArray} {i0 : Nat} (hT : TreeR p xs xb) (hB : BornOk xb b) (hd : d.size = 16) (h0 : First p.n p.s i0) : Right (page1 p b d i0) := right_set hT.1 h0 (fits_page hB.1 hd)
theorem low_fits {p : PoolD} {xs xb b : Int} {n : Nat} {d : ByteArray} {i0 : Nat} (hT : TreeR p xs xb) (hn : n < 64) (hB : BornOk xb b) (h0 : First p.n p.s i0) : Fits (page1 p b d i0) (slotK (kidX p xs xb n 1 (i0 : Int)) (kidY p xs xb n 1 b) b) :=
  fits_kid hT hn (by omega) hB (fun s t h => points_set h0.2.1 h) (Or.inr ⟨new_points (s := slotG b d) h0 hB.1.1, Int.le_refl _⟩)
theorem top_fits {p : PoolD} {xs xb b : Int} {n : Nat} {d : ByteArray} {i0 i1 : Nat} (hT : TreeR p xs xb) (hn : n < 64) (hB : BornOk xb b) (h0 : First p.n p.s i0) (h1 : First p.n (page1 p b d i0).s i1) : Fits (node2 p xs xb n b d i0 i1) (slotK (kidX p xs xb n 0 (i1 : Int)) (kidY p xs xb n 0 b) b) :=
  fits_kid hT hn (by omega) hB (fun s t h => points_set (p := page1 p b d i0) h1.2.1 (points_set h0.2.1 h)) (Or.inr ⟨new_points (p := page1 p b d i0) (s := slotK (kidX p xs xb n 1 (i0 : Int)) (kidY p xs xb n 1 b) b) h1 hB.1.1, Int.le_refl _⟩)
theorem lay1 {p : PoolD} {xs xb b : Int} {n : Nat} {d : ByteArray} {i0 : Nat} (hn : n < 64) (hB : BornOk xb b) : layS p xs xb n b ⟨page1 p b d i0, (i0 : Int), b, 0⟩ 1 = takeP (page1 p b d i0) (slotK (kidX p xs xb n 1 (i0 : Int)) (kidY p xs xb n 1 b) b) :=
  if_neg (not_allNil hn hB.1.1)
theorem lay1_ok {p : PoolD} {xs xb b : Int} {n : Nat} {d : ByteArray} {i0 i1 : Nat} (hT : TreeR p xs xb) (hn : n < 64) (hB : BornOk xb b) (hd : d.size = 16) (h0 : First p.n p.s i0) (h1 : First p.n (page1 p b d i0).s i1) : layS p xs xb n b ⟨page1 p b d i0, (i0 : Int), b, 0⟩ 1 = ⟨node2 p xs xb n b d i0 i1, (i1 : Int), b, 0⟩ := by
  rw [lay1 hn hB]
  exact take_ok ⟨page_right hT hB hd h0, fits_not_free (low_fits (d := d) hT hn hB h0), low_fits hT hn hB h0⟩ h1
theorem lay2 {p : PoolD} {xs xb b : Int} {n : Nat} {d : ByteArray} {i0 i1 : Nat} (hT : TreeR p xs xb) (hn : n < 64) (hB : BornOk xb b) (hd : d.size = 16) (h0 : First p.n p.s i0) (h1 : First p.n (page1 p b d i0).s i1) : layS p xs xb n b ⟨page1 p b d i0, (i0 : Int), b, 0⟩ 2 = takeP (node2 p xs xb n b d i0 i1) (slotK (kidX p xs xb n 0 (i1 : Int)) (kidY p xs xb n 0 b) b) := by
  show nodeL p xs xb n b (layS p xs xb n b ⟨page1 p b d i0, (i0 : Int), b, 0⟩ 1) 0 = _
  rw [lay1_ok hT hn hB hd h0 h1]
  exact if_neg (not_allNil hn hB.1.1)
theorem page_no {n : Nat} (hn : n < 64) : PageNo (n : Int) := ⟨by omega, by omega⟩
theorem write_is {p : PoolD} {xs xb b : Int} {n : Nat} {d : ByteArray} {i0 : Nat} (hT : TreeR p xs xb) (hn : n < 64) (hB : BornOk xb b) (hd : d.size = 16) (h0 : First p.n p.s i0) : writeT p xs xb (n : Int) d b = layP p xs xb n b ⟨page1 p b d i0, (i0 : Int), b, 0⟩ := by
  have t0 := take0 hT hB hd h0
  rw [write_lay (by omega) ⟨hT, hB⟩ ⟨page_no hn, hd⟩ (by rw [t0]), t0]
  rfl
theorem node_right {p : PoolD} {xs xb b : Int} {n : Nat} {d : ByteArray} {i0 i1 : Nat} (hT : TreeR p xs xb) (hn : n < 64) (hB : BornOk xb b) (hd : d.size = 16) (h0 : First p.n p.s i0) (h1 : First p.n (page1 p b d i0).s i1) : Right (node2 p xs xb n b d i0 i1) :=
  right_set (page_right hT hB hd h0) h1 (low_fits hT hn hB h0)
/-- Where three are free, three are taken. -/
theorem write_ok {p : PoolD} {xs xb b : Int} {n : Nat} {d : ByteArray} {i0 i1 i2 : Nat} (hT : TreeR p xs xb) (hn : n < 64) (hB : BornOk xb b) (hd : d.size = 16) (h0 : First p.n p.s i0) (h1 : First p.n (page1 p b d i0).s i1) (h2 : First p.n (node2 p xs xb n b d i0 i1).s i2) :
    writeT p xs xb (n : Int) d b = ⟨root3 p xs xb n b d i0 i1 i2, (i2 : Int), b, oldW p xs xb n 3, 0⟩ := by
  rw [write_is hT hn hB hd h0]
  have e1 := lay1_ok hT hn hB hd h0 h1
  have e2 : layS p xs xb n b ⟨page1 p b d i0, (i0 : Int), b, 0⟩ 2 = ⟨root3 p xs xb n b d i0 i1 i2, (i2 : Int), b, 0⟩ := by
    rw [lay2 hT hn hB hd h0 h1]
    exact take_ok ⟨node_right hT hn hB hd h0 h1, fits_not_free (top_fits (d := d) hT hn hB h0 h1), top_fits hT hn hB h0 h1⟩ h2
  rw [lay_done (fun j hj => by
    rcases j with _ | _ | _ | j
    · rfl
    · rw [e1]
    · rw [e2]
    · omega), e2]
/-- Where fewer are free, it is full. -/
theorem write_full {p : PoolD} {xs xb b : Int} {n : Nat} {d : ByteArray} (hT : TreeR p xs xb) (hn : n < 64) (hB : BornOk xb b) (hd : d.size = 16) (hr : roomN p.s p.n < 3) : writeT p xs xb (n : Int) d b = treeErr 6 := by
  by_cases r0 : roomN p.s p.n = 0
  · have t0 := take_full (p := p) (s := slotG b d) ⟨hT.1, fits_not_free (fits_page (p := p) hB.1 hd), fits_page hB.1 hd⟩ (room_none r0)
    rw [write_take (by omega) ⟨hT, hB⟩ ⟨page_no hn, hd⟩ (by rw [t0]; decide), t0]
  · obtain ⟨i0, h0⟩ := room_first (f := p.s) (n := p.n) (by omega)
    have q0 := room_less (s := slotG b d) h0 (fits_page hB.1 hd)
    rw [write_is hT hn hB hd h0]
    by_cases r1 : roomN (page1 p b d i0).s p.n = 0
    · have t1 := take_full (p := page1 p b d i0) ⟨page_right hT hB hd h0, fits_not_free (low_fits (n := n) (d := d) hT hn hB h0), low_fits hT hn hB h0⟩ (room_none r1)
      have e1 := lay1 (p := p) (xs := xs) (d := d) (i0 := i0) hn hB
      rw [t1] at e1
      rw [lay_err (k := 0) (by omega) (fun j hj => by obtain rfl : j = 0 := by omega
                                                      rfl) (by rw [e1]; decide), e1]
    · obtain ⟨i1, h1⟩ := room_first (f := (page1 p b d i0).s) (n := p.n) (by omega)
      have q1 : roomN (node2 p xs xb n b d i0 i1).s p.n + 1 = roomN (page1 p b d i0).s p.n := room_less (p := page1 p b d i0) h1 (low_fits hT hn hB h0)
      have q0' : roomN (page1 p b d i0).s p.n + 1 = roomN p.s p.n := q0
      have r2 : roomN (node2 p xs xb n b d i0 i1).s p.n = 0 := by omega
      have t2 := take_full (p := node2 p xs xb n b d i0 i1) ⟨node_right hT hn hB hd h0 h1, fits_not_free (top_fits (d := d) hT hn hB h0 h1), top_fits hT hn hB h0 h1⟩ (room_none r2)
      have e1 := lay1_ok hT hn hB hd h0 h1
      have e2 := lay2 hT hn hB hd h0 h1
      rw [t2] at e2
      rw [lay_err (k := 1) (by omega) (fun j hj => by
        rcases j with _ | _ | j
        · rfl
        · rw [e1]
        · omega) (by rw [e2]; decide), e2]

end Go.Proofs.Ytikhipekmlhibaa

namespace Go.Proofs.Ytikhipekmlhibaa
open Go.RowKit
set_option linter.unusedVariables false

set_option maxRecDepth 20000 in
set_option maxHeartbeats 1000000 in
theorem l01Room_any (v0 v1 : Value) (lo hi : Nat) (p : PoolD) (w : World) (h1 : PoolAt w lo hi v0 v1 p) (hn : p.n ≤ 200) :
    Calls Try.prog 76 #[.agg #[v0, v1]] w fun e w' => e = .returned (.int .i64 (roomN p.s p.n : Int)) ∧ Below w.heap.size w w' := by
  have Hp : Hid (PoolAt w lo hi v0 v1 p) := h1
  obtain ⟨⟨m1, a, c, rfl, mc, g1⟩, ⟨m2, a', c', rfl, mc', g2⟩⟩ := h1
  unfold maxLen at m1 m2
  clear g1 g2
  have Hbw : Hid (Below w.heap.size w (w.alloc (.cells #[.slice a p.n c, .slice a' p.hn c'] 26))) := below_alloc _ _
  go_enter Try.func76, Try.ntmps76
  go_wp2
  go_loopw [3, 4] (fun m i wr => ∃ k : Nat, k ≤ p.n ∧ i = .int .i64 k ∧ m = .int .i64 (roomN p.s k : Int) ∧ Box2 wr w.heap.size (.slice a p.n c) (.slice a' p.hn c') ∧ Below w.heap.size w wr) (fun _ i _ => p.n - (intOf i).toNat)
  case atStart => exact ⟨0, Nat.zero_le _, rfl, rfl, Box2.new _ _ _ _, Hbw.out⟩
  case round =>
    obtain ⟨k, hk, rfl, rfl, hx, hb⟩ := hrel
    have Hx : Hid (Box2 wr w.heap.size (.slice a p.n c) (.slice a' p.hn c')) := hx
    clear hx
    obtain ⟨⟨y0, y1⟩, ⟨y2, y3⟩⟩ := Hx.out
    have hrn := roomN_le p.s k
    by_cases hlt : k < p.n
    · have hlt' : (k : Int) < (p.n : Int) := by omega
      obtain ⟨b, off, ka, kc, rfl, hs⟩ := (Hp.out.1.below hb).cells hlt
      have Hs : Hid (SlotCells wr b (off + k * 3) lo hi ka kc (p.s k)) := hs
      obtain ⟨q0, q1, q2, _⟩ := hs
      go_wp2_with fail
      refine (l01Free_any _ _ _ lo hi (p.s k) _ Hs.out.slot).mono ?_
      rintro e w1 ⟨⟨t, rfl, ht⟩, hb1⟩
      have HX : Hid (Box2 w1 w.heap.size (.slice (some ⟨b, off, none⟩) p.n c) (.slice a' p.hn c')) := Hx.out.below hb1
      have hbn := below_next hb hb1
      clear hb1 q0 q1 q2 y0 y1 y2 y3 Hs Hx
      by_cases hf : Free (p.s k)
      · obtain rfl : t = true := ht.2 hf
        have HF : Hid (Free (p.s k)) := hf
        clear ht hf
        go_wp2
        go_roundw
        case rel => exact ⟨k + 1, by omega, by go_num, congrArg (Value.int .i64) (by rw [roomN_yes HF.out]; omega), HX.out, hbn⟩
        case measure => simp [intOf]; omega
      · obtain rfl : t = false := bool_no ht hf
        have HF : Hid (¬ Free (p.s k)) := hf
        clear ht hf
        go_wp2
        go_roundw
        case rel => exact ⟨k + 1, by omega, by go_num, congrArg (Value.int .i64) (by rw [roomN_no HF.out]), HX.out, hbn⟩
        case measure => simp [intOf]; omega
    · obtain rfl : k = p.n := by omega
      go_wp2
      go_ret
      exact ⟨rfl, hb⟩

end Go.Proofs.Ytikhipekmlhibaa

namespace Go.Proofs.Ytikhipekmlhibaa
open Go.RowKit
set_option linter.unusedVariables false

/-- A pool in blocks of S, no two of its lists in one block, all of them free to be written. -/
def PoolIn (w : World) (S : Nat → Prop) (v0 v1 : Value) (p : PoolD) : Prop :=
  ∃ (bs hb : Nat) (kb : Nat → Nat) (kv : Nat → Value), SlotsOwn w bs kb kv v0 p.n p.s ∧ KidsApart kb p.n p.s ∧ IntsOwn w hb v1 p.hn p.h ∧ (0 < p.hn → ¬ SlotsB bs kb p.n p.s hb) ∧
    ∀ k, SlotsB bs kb p.n p.s k ∨ (0 < p.hn ∧ k = hb) → S k

theorem PoolOwn.isIn {w : World} {lo hi : Nat} {S : Nat → Prop} {v0 v1 : Value} {p : PoolD} (h : PoolOwn w lo hi v0 v1 p) (hS : ∀ k, lo ≤ k → k < hi → S k) : PoolIn w S v0 v1 p := by
  obtain ⟨bs, hb, kb, kv, h1, h2, h3, h4, h5⟩ := h
  exact ⟨bs, hb, kb, kv, h1, h2, h3, h4, fun k hk => hS k (h5 k hk).1 (h5 k hk).2⟩
theorem PoolIn.own {w : World} {lo hi : Nat} {S : Nat → Prop} {v0 v1 : Value} {p : PoolD} (h : PoolIn w S v0 v1 p) (hS : ∀ k, S k → lo ≤ k ∧ k < hi) : PoolOwn w lo hi v0 v1 p := by
  obtain ⟨bs, hb, kb, kv, h1, h2, h3, h4, h5⟩ := h
  exact ⟨bs, hb, kb, kv, h1, h2, h3, h4, fun k hk => hS k (h5 k hk)⟩
theorem PoolIn.mono {w : World} {S T : Nat → Prop} {v0 v1 : Value} {p : PoolD} (h : PoolIn w S v0 v1 p) (hS : ∀ k, S k → T k) : PoolIn w T v0 v1 p := by
  obtain ⟨bs, hb, kb, kv, h1, h2, h3, h4, h5⟩ := h
  exact ⟨bs, hb, kb, kv, h1, h2, h3, h4, fun k hk => hS k (h5 k hk)⟩
theorem PoolIn.below {w w' : World} {S : Nat → Prop} {v0 v1 : Value} {p : PoolD} (h : PoolIn w S v0 v1 p) (t : Below w.heap.size w w') : PoolIn w' S v0 v1 p := by
  obtain ⟨bs, hb, kb, kv, h1, h2, h3, h4, h5⟩ := h
  exact ⟨bs, hb, kb, kv, h1.below t, h2, h3.below t, h4, h5⟩
theorem PoolIn.turned {S T : Nat → Prop} {w w' : World} {v0 v1 : Value} {p : PoolD} (h : PoolIn w S v0 v1 p) (t : Turned T w w') (hs : ∀ k, S k → ¬ T k) : PoolIn w' S v0 v1 p := by
  obtain ⟨bs, hb, kb, kv, h1, h2, h3, h4, h5⟩ := h
  have out : ∀ k, SlotsB bs kb p.n p.s k ∨ (0 < p.hn ∧ k = hb) → ¬ T k := fun k hk => hs k (h5 k hk)
  exact ⟨bs, hb, kb, kv, h1.turned t (fun h0 => out _ (Or.inl (Or.inl ⟨h0, rfl⟩))) (fun i hi h => out _ (Or.inl (Or.inr ⟨i, hi, h, rfl⟩))), h2, h3.turned t (fun h0 => out _ (Or.inr ⟨h0, rfl⟩)), h4, h5⟩

/-- A slot of an own pool is written. -/
theorem PoolIn.set {w : World} {S : Nat → Prop} {a : Option Addr} {c : Nat} {v1 : Value} {p : PoolD} (h : PoolIn w S (.slice a p.n c) v1 p) {i : Nat} (hi' : i < p.n) :
    ∃ bs off, a = some ⟨bs, off, none⟩ ∧ S bs ∧ (∃ x0 x1 x2, Cell w bs (off + i * 3) x0 ∧ Cell w bs (off + i * 3 + 1) x1 ∧ Cell w bs (off + i * 3 + 2) x2) ∧
      ∀ (s : SlotD) (nb : Nat) (nv : Value), PtrsOwn w nb nv s.kn s.ks s.kb → s.data.size ≤ maxLen → (0 < s.kn → ¬ S nb) →
        PoolIn (((w.setCell ⟨bs, off + i * 3, none⟩ (.int .i64 s.birth)).setCell ⟨bs, off + i * 3 + 1, none⟩ nv).setCell ⟨bs, off + i * 3 + 2, none⟩ (.string s.data)) (fun k => S k ∨ (0 < s.kn ∧ k = nb)) (.slice a p.n c) v1 (setS p i s) := by
  obtain ⟨bs, hb, kb, kv, ⟨hm, a0, c0, hv, hcc, hx⟩, hap, hint, hnb, hpl⟩ := h
  simp only [Value.slice.injEq, true_and] at hv
  obtain ⟨rfl, rfl⟩ := hv
  have h0 : 0 < p.n := by omega
  obtain ⟨off, ha, hsl⟩ := hx h0
  have hbs := hpl bs (Or.inl (Or.inl ⟨h0, rfl⟩))
  have hkb : ∀ j, j < p.n → 0 < (p.s j).kn → S (kb j) := fun j hj hk => hpl _ (Or.inl (Or.inr ⟨j, hj, hk, rfl⟩))
  have hhb : 0 < p.hn → S hb := fun h => hpl _ (Or.inr ⟨h, rfl⟩)
  refine ⟨bs, off, ha, hbs, ⟨_, _, _, (hsl i hi').birth, (hsl i hi').kidsv, (hsl i hi').data⟩, fun s nb nv hp hs hnn => ?_⟩
  refine ⟨bs, hb, (fun j => if j = i then nb else kb j), (fun j => if j = i then nv else kv j), ⟨hm, a, c, rfl, hcc, fun _ => ⟨off, ha, fun j hj => ?_⟩⟩, fun j k hj hk hjk g1 g2 => ?_, ?_, fun g0 hx => ?_, fun k hk => ?_⟩
  · have hj' := hsl j hj
    by_cases e : j = i
    · subst e
      simp only [setS, if_true]
      refine ⟨?_, ?_, ?_, ?_, hs, fun hk e => hnn hk (e ▸ hbs)⟩
      · exact ((hj'.birth.set _).other _ (Or.inr (by omega))).other _ (Or.inr (by omega))
      · exact ((hj'.kidsv.other _ (Or.inr (by omega))).set _).other _ (Or.inr (by omega))
      · exact ((hj'.data.other _ (Or.inr (by omega))).other _ (Or.inr (by omega))).set _
      · refine ((hp.turned (Turned.put _ _ _ _) ?_).turned (Turned.put _ _ _ _) ?_).turned (Turned.put _ _ _ _) ?_
        all_goals exact fun hk e => hnn hk (e ▸ hbs)
    · simp only [setS, if_neg e]
      refine ⟨?_, ?_, ?_, ?_, hj'.small, hj'.apart⟩
      · exact ((hj'.birth.other _ (Or.inr (by omega))).other _ (Or.inr (by omega))).other _ (Or.inr (by omega))
      · exact ((hj'.kidsv.other _ (Or.inr (by omega))).other _ (Or.inr (by omega))).other _ (Or.inr (by omega))
      · exact ((hj'.data.other _ (Or.inr (by omega))).other _ (Or.inr (by omega))).other _ (Or.inr (by omega))
      · refine ((hj'.kids.turned (Turned.put _ _ _ _) ?_).turned (Turned.put _ _ _ _) ?_).turned (Turned.put _ _ _ _) ?_
        all_goals exact fun hk e => hj'.apart hk e
  · show (if j = i then nb else kb j) ≠ (if k = i then nb else kb k)
    by_cases e1 : j = i
    · by_cases e2 : k = i
      · omega
      · rw [if_pos e1, if_neg e2]
        simp only [setS, if_pos e1] at g1
        simp only [setS, if_neg e2] at g2
        exact fun e => hnn g1 (e ▸ hkb k hk g2)
    · by_cases e2 : k = i
      · rw [if_neg e1, if_pos e2]
        simp only [setS, if_neg e1] at g1
        simp only [setS, if_pos e2] at g2
        exact fun e => hnn g2 (e ▸ hkb j hj g1)
      · rw [if_neg e1, if_neg e2]
        simp only [setS, if_neg e1] at g1
        simp only [setS, if_neg e2] at g2
        exact hap j k hj hk hjk g1 g2
  · have hne : 0 < p.hn → hb ≠ bs := fun h e => hnb h (Or.inl ⟨h0, e⟩)
    refine ((hint.turned (Turned.put _ _ _ _) ?_).turned (Turned.put _ _ _ _) ?_).turned (Turned.put _ _ _ _) ?_
    all_goals exact fun hk e => hne hk e
  · rcases hx with ⟨_, e⟩ | ⟨j, hj, g1, e⟩
    · exact hnb g0 (Or.inl ⟨h0, e⟩)
    · by_cases e1 : j = i
      · simp only [setS, if_pos e1] at g1 e
        exact hnn g1 (e ▸ hhb g0)
      · simp only [setS, if_neg e1] at g1 e
        exact hnb g0 (Or.inr ⟨j, hj, g1, e⟩)
  · rcases hk with (⟨_, e⟩ | ⟨j, hj, g1, e⟩) | ⟨g0, e⟩
    · exact Or.inl (e ▸ hbs)
    · by_cases e1 : j = i
      · simp only [setS, if_pos e1] at g1 e
        exact Or.inr ⟨g1, e⟩
      · simp only [setS, if_neg e1] at g1 e
        exact Or.inl (e ▸ hkb j hj g1)
    · exact Or.inl (e ▸ hhb g0)

set_option maxRecDepth 20000 in
set_option maxHeartbeats 1000000 in
theorem l01Take_in (OUT nb : Nat) (S : Nat → Prop) (a : Option Addr) (c : Nat) (v1 kv : Value) (p : PoolD) (s : SlotD) (w : World) (hbox : Box2 w OUT (.slice a p.n c) v1) (hO : ¬ S OUT) (hS : ∀ k, S k → k < w.heap.size) (hc : p.n ≤ c) (hown : PoolIn w S (.slice a p.n c) v1 p) (hp : PtrsOwn w nb kv s.kn s.ks s.kb)
    (hnb : 0 < s.kn → ¬ S nb ∧ nb < w.heap.size) (hsz : s.data.size ≤ maxLen) :
    Calls Try.prog 49 #[.pointer (some ⟨OUT, 0, none⟩), .agg #[.int .i64 s.birth, kv, .string s.data]] w fun e w' =>
      (∃ i, First p.n p.s i ∧ e = .returned (.tuple #[.agg #[.int .i64 (i : Int), .int .i64 s.birth], .bool true]) ∧ Box2 w' OUT (.slice a p.n c) v1 ∧ PoolIn w' (fun k => S k ∨ (0 < s.kn ∧ k = nb)) (.slice a p.n c) v1 (setS p i s) ∧ Turned S w w') ∨
      ((∀ j, j < p.n → ¬ Free (p.s j)) ∧ e = .returned (.tuple #[.agg #[.int .i64 0, .int .i64 0], .bool false]) ∧ Below w.heap.size w w') := by
  have hown0 := hown.own (lo := 0) (hi := w.heap.size) (fun k hk => ⟨Nat.zero_le _, hS k hk⟩)
  have hm : p.n ≤ 2 ^ 63 - 1 := hown0.at.1.1
  have Hown0 := hide hown0
  clear hown0
  have Hbox := hide hbox
  have Hown := hide hown
  have Hq := hide hp
  obtain ⟨_, ka, kc, rfl, _⟩ := hp
  have hOw : OUT < w.heap.size := hbox.1.lt
  clear hbox hown
  have ha := below_alloc w (.cells #[.int .i64 s.birth, .slice ka s.kn kc, .string s.data] 29)
  have ha2 := below_next ha (below_alloc _ (.cells #[.int .i64 0, .int .i64 0] 33))
  have HS := hide ((Box3.new w (.int .i64 s.birth) (.slice ka s.kn kc) (.string s.data) 29).below (below_alloc _ (.cells #[.int .i64 0, .int .i64 0] 33)))
  have hr := Box2.new (w.alloc (.cells #[.int .i64 s.birth, .slice ka s.kn kc, .string s.data] 29)) (.int .i64 0) (.int .i64 0) 33
  rw [World.size_alloc] at hr
  have HR := hide hr
  clear hr ha
  go_enter Try.func49, Try.ntmps49
  go_wp2
  go_loopw [6] (fun i wr => ∃ k : Nat, k ≤ p.n ∧ i = .int .i64 k ∧ (∀ j, j < k → ¬ Free (p.s j)) ∧ Box3 wr w.heap.size (.int .i64 s.birth) (.slice ka s.kn kc) (.string s.data) ∧ Box2 wr (w.heap.size + 1) (.int .i64 0) (.int .i64 0) ∧ Below w.heap.size w wr) (fun i _ => p.n - (intOf i).toNat)
  case atStart => exact ⟨0, Nat.zero_le _, rfl, fun j hj => absurd hj (Nat.not_lt_zero _), HS.out, HR.out, ha2⟩
  case round =>
    obtain ⟨k, hk, rfl, hall, hs, hr, hb⟩ := hrel
    have Hall := hide hall
    have Hs := hide hs
    have Hr := hide hr
    clear hall hs hr
    obtain ⟨⟨x0, x1⟩, ⟨x2, x3⟩⟩ := Hbox.out.below hb
    by_cases hlt : k < p.n
    · have hlt' : (k : Int) < (p.n : Int) := by omega
      obtain ⟨b, off, ka', kc', rfl, hc'⟩ := (Hown0.out.at.1.below hb).cells hlt
      have Hc := hide hc'
      obtain ⟨q0, q1, q2, _⟩ := hc'
      go_wp2_with fail
      refine (l01Free_any _ _ _ 0 w.heap.size (p.s k) _ Hc.out.slot).mono ?_
      rintro e w1 ⟨⟨t, rfl, ht⟩, hb1⟩
      have hbn := below_next hb hb1
      have Hs1 := hide (Hs.out.below hb1)
      have Hr1 := hide (Hr.out.below hb1)
      clear hb1 q0 q1 q2 Hc x0 x1 x2 x3 Hs Hr
      by_cases hf : Free (p.s k)
      · obtain rfl : t = true := ht.2 hf
        have HF := hide hf
        clear ht hf
        obtain ⟨⟨x0, x1⟩, ⟨x2, x3⟩⟩ := Hbox.out.below hbn
        obtain ⟨⟨y0, y1⟩, ⟨y2, y3⟩, ⟨y4, y5⟩⟩ := Hs1.out
        obtain ⟨⟨z0, z1⟩, ⟨z2, z3⟩⟩ := Hr1.out
        obtain ⟨bs, off', he, hbs, ⟨q0, q1, q2, ⟨r0, r1⟩, ⟨r2, r3⟩, ⟨r4, r5⟩⟩, hset⟩ := (Hown.out.below hbn).set (i := k) hlt
        simp only [Option.some.injEq, Addr.mk.injEq, and_true] at he
        obtain ⟨rfl, rfl⟩ := he
        have n0 : b ≠ OUT := fun e => hO (e ▸ hbs)
        have hbl : b < w.heap.size := hS b hbs
        have n1 : b ≠ w.heap.size := by omega
        have n2 : b ≠ w.heap.size + 1 := by omega
        have n3 : w.heap.size + 1 ≠ w.heap.size := by omega
        go_wp2_with fail
        go_region_held3 (fun w' => w'.cell? ⟨OUT, 0, none⟩ = some (.slice (some ⟨b, off, none⟩) p.n c) ∧ w'.cell? ⟨w.heap.size, 0, none⟩ = some (.int .i64 s.birth) ∧ w'.cell? ⟨w.heap.size, 1, none⟩ = some (.slice ka s.kn kc) ∧ w'.cell? ⟨w.heap.size, 2, none⟩ = some (.string s.data)) (go_keep) (fail)
        have tX := ((Turned.put w1 b (off + k * 3) (.int .i64 s.birth)).trans (Turned.put _ b (off + k * 3 + 1) (.slice ka s.kn kc))).trans (Turned.put _ b (off + k * 3 + 2) (.string s.data))
        have HrX := hide (Hr1.out.turned tX (by omega))
        have HoX := hide (hset s nb (.slice ka s.kn kc) (Hq.out.below hbn) hsz (fun h0 => (hnb h0).1))
        have HbX := hide ((Hbox.out.below hbn).turned tX (by omega))
        have HtX := hide ((Turned.of_below (S := S) hbn).trans2 tX (fun k hk _ => by
          have hk' : k = b := by omega
          exact hk' ▸ hbs))
        clear hset tX
        go_wp2
        have HR6 := HrX.out.put (.int .i64 (k : Int)) (.int .i64 s.birth)
        have t2 := (Turned.put (((w1.setCell ⟨b, off + k * 3, none⟩ (.int .i64 s.birth)).setCell ⟨b, off + k * 3 + 1, none⟩ (.slice ka s.kn kc)).setCell ⟨b, off + k * 3 + 2, none⟩ (.string s.data)) (w.heap.size + 1) 0 (.int .i64 (k : Int))).trans (Turned.put _ (w.heap.size + 1) 1 (.int .i64 s.birth))
        have hz2 := t2.size
        have hz3 := HtX.out.size
        refine bodyPost_ret (v := .tuple #[.agg #[.int .i64 (k : Int), .int .i64 s.birth], .bool true]) (by simp [results, Try.results49, go_sem, HR6.1.1, HR6.2.1]) rfl (Or.inl ⟨k, ⟨hlt, HF.out, Hall.out⟩, rfl, ?_, ?_, ?_⟩)
        · exact (HbX.out.turned t2 (by omega)).below (Below.refl _ _).drew
        · exact (HoX.out.turned t2 (fun k hk => by
            rcases hk with hk | hk
            · have := hS k hk; omega
            · have := hnb hk.1; omega)).below (Below.refl _ _).drew
        · exact (HtX.out.trans2 t2 (fun k hk hlt => by omega)).trans (Turned.of_below (Below.refl _ _).drew)
      · obtain rfl : t = false := bool_no ht hf
        have HF := hide hf
        clear ht hf
        go_wp2
        go_roundw
        case rel => exact ⟨k + 1, by omega, by go_num, relNext hlt Hall.out HF.out, Hs1.out, Hr1.out, hbn⟩
        case measure => simp [intOf]; omega
    · obtain rfl : k = p.n := by omega
      obtain ⟨⟨z0, z1⟩, ⟨z2, z3⟩⟩ := Hr.out
      go_wp2
      have HR6 := Hr.out.put (.int .i64 0) (.int .i64 0)
      exact bodyPost_ret (v := .tuple #[.agg #[.int .i64 0, .int .i64 0], .bool false]) (by simp [results, Try.results49, go_sem, HR6.1.1, HR6.2.1]) rfl (Or.inr ⟨Hall.out, rfl, (hb.setCell (by show _ ≤ w.heap.size + 1; omega) _).setCell (by show _ ≤ w.heap.size + 1; omega) _⟩)

end Go.Proofs.Ytikhipekmlhibaa

namespace Go.Proofs.Ytikhipekmlhibaa
open Go.RowKit
set_option linter.unusedVariables false

set_option maxRecDepth 20000 in
set_option maxHeartbeats 1000000 in
theorem specTreeRight_any (v0 v1 : Value) (lo hi : Nat) (p : PoolD) (xs xb : Int) (w : World) (h1 : PoolAt w lo hi v0 v1 p) :
    Calls Try.prog 73 #[.agg #[v0, v1], .agg #[.int .i64 xs, .int .i64 xb]] w fun e w' => BoolIs (TreeR p xs xb) e ∧ Below w.heap.size w w' := by
  have Hp := hideT h1
  obtain ⟨a, c, a', c', rfl, rfl⟩ : ∃ a c a' c', v0 = .slice a p.n c ∧ v1 = .slice a' p.hn c' := by
    obtain ⟨⟨_, a, c, h1, _⟩, ⟨_, a', c', h3, _⟩⟩ := h1
    exact ⟨a, c, a', c', h1, h3⟩
  clear h1
  have hst := start22 w (.slice a p.n c) (.slice a' p.hn c') (.int .i64 xs) (.int .i64 xb) 26 33
  go_enter Try.func73, Try.ntmps73
  go_wp2_with fail
  generalize (w.alloc (.cells #[.slice a p.n c, .slice a' p.hn c'] 26)).alloc (.cells #[.int .i64 xs, .int .i64 xb] 33) = W at hst ⊢
  obtain ⟨hB, hX, hba, hz⟩ := hst
  refine (specPoolRight_any _ _ lo hi p W (Hp.out.below hba)).mono ?_
  rintro e w1 ⟨⟨t, rfl, ht⟩, hb1⟩
  have HB1 := hideT (hB.below hb1)
  have HX1 := hideT (hX.below hb1)
  have hB1 := below_next hba hb1
  clear hB hX hba hb1 hz
  by_cases hR : Right p
  · have HR := hideT hR
    obtain rfl : t = true := ht.2 hR
    clear ht hR
    obtain ⟨⟨x0, x1⟩, ⟨x2, x3⟩⟩ := HB1.out
    obtain ⟨⟨y0, y1⟩, ⟨y2, y3⟩⟩ := HX1.out
    go_wp2_with fail
    refine (l02Right_any _ _ lo hi p xs xb _ (Hp.out.below hB1) HR.out).mono ?_
    rintro e w2 ⟨⟨t, rfl, ht⟩, hb2⟩
    have hB2 := below_next hB1 hb2
    have Ht := hideT ht
    clear hb2 ht
    go_wp2
    go_ret
    exact ⟨⟨_, rfl, Ht.out.trans ⟨fun h => ⟨HR.out, h⟩, fun h => h.2⟩⟩, hB2⟩
  · have HR := hideT hR
    obtain rfl : t = false := bool_no ht hR
    clear ht hR
    go_wp2
    go_ret
    exact ⟨BoolIs.no fun h => HR.out h.1, hB1⟩

end Go.Proofs.Ytikhipekmlhibaa
