/- What the laws' own functions of measuring answer (szPtrS, szInt64S, szSlot, szSlotS, szPool): what is left, if it is not negative, tells how much there is. -/
import Derived.Test.YtiijnmpenljniadRows
import Derived.Test.YtiijnmpenljniadFrame
namespace Go.Proofs.Ytiijnmpenljniad
open Go.RowKit
set_option linter.unusedVariables false

/-- What is left: a number; if it is not negative, t have been taken off. -/
def LeftIs (t : Nat) (left : Int) (e : Ending) : Prop := ∃ r : Int, e = .returned (.int .i64 r) ∧ (0 ≤ r → r + t = left) ∧ r ≤ left ∧ -1 ≤ r

set_option maxRecDepth 20000 in
set_option maxHeartbeats 400000 in
theorem szPtrS_any (v : Value) (n lo hi : Nat) (f g : Nat → Int) (left : Int) (w : World) (h1 : PtrsAt w lo hi v n f g) (hl0 : 0 ≤ left) (hl1 : left ≤ 1048576) :
    Calls Try.prog 36 #[v, .int .i64 left] w fun e w' => LeftIs n left e ∧ Below w.heap.size w w' := by
  obtain ⟨m1, a, c, rfl, mc, g1⟩ := h1
  unfold maxLen at m1
  clear g1
  by_cases h : left - (n : Int) < 0
  · go_enter Try.func36, Try.ntmps36
    go_wp2
    go_ret
    exact ⟨⟨-1, rfl, by omega, by omega, by omega⟩, Below.refl _ _⟩
  · go_enter Try.func36, Try.ntmps36
    go_wp2
    go_ret
    exact ⟨⟨_, rfl, by omega, by omega, by omega⟩, Below.refl _ _⟩

set_option maxRecDepth 20000 in
set_option maxHeartbeats 400000 in
theorem szInt64S_any (v : Value) (n lo hi : Nat) (f : Nat → Int) (left : Int) (w : World) (h1 : IntsAt w lo hi v n f) (hl0 : 0 ≤ left) (hl1 : left ≤ 1048576) :
    Calls Try.prog 35 #[v, .int .i64 left] w fun e w' => LeftIs n left e ∧ Below w.heap.size w w' := by
  obtain ⟨m1, a, c, rfl, mc, g1⟩ := h1
  unfold maxLen at m1
  clear g1
  by_cases h : left - (n : Int) < 0
  · go_enter Try.func35, Try.ntmps35
    go_wp2
    go_ret
    exact ⟨⟨-1, rfl, by omega, by omega, by omega⟩, Below.refl _ _⟩
  · go_enter Try.func35, Try.ntmps35
    go_wp2
    go_ret
    exact ⟨⟨_, rfl, by omega, by omega, by omega⟩, Below.refl _ _⟩

set_option maxRecDepth 20000 in
set_option maxHeartbeats 400000 in
theorem szSlot_any (v0 v1 v2 : Value) (lo hi : Nat) (s : SlotD) (left : Int) (w : World) (h1 : SlotAt w lo hi v0 v1 v2 s) (hl0 : 0 ≤ left) (hl1 : left ≤ 1048576) :
    Calls Try.prog 10 #[.agg #[v0, v1, v2], .int .i64 left] w fun e w' => LeftIs (slotN s) left e ∧ Below w.heap.size w w' := by
  obtain ⟨rfl, p1, rfl, m1⟩ := h1
  have q1 := p1
  obtain ⟨_, a, c, rfl, _⟩ := p1
  unfold maxLen at m1
  go_enter Try.func10, Try.ntmps10
  go_wp2_with fail
  have hbw := (Below.refl w.heap.size w).alloc (Nat.le_refl _) (.cells #[.int .i64 s.birth, .slice a s.kn c, .string s.data] 28)
  refine (szPtrS_any _ s.kn lo hi _ _ _ _ (q1.below hbw) hl0 hl1).mono ?_
  rintro e w1 ⟨⟨r, rfl, hr1, hr2, hr3⟩, hb1⟩
  have hb2 := below_next hbw hb1
  have e1 := hb1.cell (p := ⟨w.heap.size, 2, none⟩) (by simp)
  simp at e1
  have Hr : Hid (0 ≤ r → r + s.kn = left) := hr1
  clear hr1 hb1 hbw
  by_cases h : r < 0
  · go_wp2
    go_ret
    exact ⟨⟨-1, rfl, by omega, by omega, by omega⟩, hb2⟩
  · by_cases h2 : r - (s.data.size : Int) < 0
    · go_wp2
      go_ret
      exact ⟨⟨-1, rfl, by omega, by omega, by omega⟩, hb2⟩
    · go_wp2
      go_ret
      refine ⟨⟨_, rfl, fun _ => ?_, by omega, by omega⟩, hb2⟩
      have := Hr.out (by omega)
      unfold slotN
      omega

set_option maxRecDepth 20000 in
set_option maxHeartbeats 400000 in
theorem szSlotS_any (v : Value) (n lo hi : Nat) (f : Nat → SlotD) (left : Int) (w : World) (h1 : SlotsAt w lo hi v n f) (hl0 : 0 ≤ left) (hl1 : left ≤ 1048576) :
    Calls Try.prog 34 #[v, .int .i64 left] w fun e w' => LeftIs (n + slotsN f n) left e ∧ Below w.heap.size w w' := by
  obtain ⟨m1, a, c, rfl, mc, g1⟩ := h1
  unfold maxLen at m1
  have G1 : Hid (0 < n → ∃ b off, a = some ⟨b, off, none⟩ ∧ lo ≤ b ∧ b < hi ∧ ∀ i, i < n → ∃ v0 v1 v2, w.cell? ⟨b, off + i * 3, none⟩ = some v0 ∧ w.cell? ⟨b, off + i * 3 + 1, none⟩ = some v1 ∧ w.cell? ⟨b, off + i * 3 + 2, none⟩ = some v2 ∧ SlotAt w lo hi v0 v1 v2 (f i)) := g1
  clear g1
  by_cases h : left - (n : Int) < 0
  · go_enter Try.func34, Try.ntmps34
    go_wp2
    go_ret
    exact ⟨⟨-1, rfl, by omega, by omega, by omega⟩, Below.refl _ _⟩
  · go_enter Try.func34, Try.ntmps34
    go_wp2
    go_loopw [1, 5] (fun m i wr => ∃ (k : Nat) (r : Int), k ≤ n ∧ i = .int .i64 k ∧ m = .int .i64 r ∧ 0 ≤ r ∧ r + n + slotsN f k = left ∧ Below w.heap.size w wr) (fun _ i _ => n - (intOf i).toNat)
    case atStart => exact ⟨0, _, Nat.zero_le _, rfl, rfl, by omega, by simp [slotsN], Below.refl _ _⟩
    case round =>
      obtain ⟨k, r, hk, rfl, rfl, hr0, hr, hb⟩ := hrel
      have hr1 : r ≤ left := by omega
      have Hr : Hid (r + n + slotsN f k = left) := hr
      clear hr
      by_cases hlt : k < n
      · have hlt' : (k : Int) < (n : Int) := by omega
        obtain ⟨b, off, rfl, _, _, k1⟩ := G1.out (by omega)
        obtain ⟨x0, x1, x2, c0, c1, c2, hs⟩ := k1 k hlt
        have hd0 := (hb.cell (lt_of_cell c0)).trans c0
        have hd1 := (hb.cell (lt_of_cell c1)).trans c1
        have hd2 := (hb.cell (lt_of_cell c2)).trans c2
        have hs' := hs.below hb
        have Hs : Hid (SlotAt wr lo hi x0 x1 x2 (f k)) := hs'
        clear k1 G1 c0 c1 c2 hs
        obtain ⟨rfl, ⟨_, ka, kc, rfl, _⟩, rfl, _⟩ := hs'
        go_wp2_with fail
        refine (szSlot_any _ _ _ lo hi (f k) _ _ Hs.out hr0 (by omega)).mono ?_
        rintro e w1 ⟨⟨r', rfl, hq1, hq2, hq3⟩, hb1⟩
        have hb2 := below_next hb hb1
        have Hq : Hid (0 ≤ r' → r' + slotN (f k) = r) := hq1
        clear hq1 hb1 hd0 hd1 hd2
        by_cases h3 : r' < 0
        · go_wp2
          go_ret
          exact ⟨⟨-1, rfl, by omega, by omega, by omega⟩, hb2⟩
        · go_wp2
          go_roundw
          case rel =>
            refine ⟨k + 1, r', by omega, by go_num, rfl, by omega, ?_, hb2⟩
            have e1 := Hq.out (by omega)
            have e2 := Hr.out
            show r' + (n : Int) + ((slotsN f k + slotN (f k) : Nat) : Int) = left
            omega
          case measure => simp [intOf]; omega
      · obtain rfl : k = n := by omega
        go_wp2
        go_ret
        exact ⟨⟨r, rfl, fun _ => by have := Hr.out; omega, hr1, by omega⟩, hb⟩

set_option maxRecDepth 20000 in
set_option maxHeartbeats 400000 in
theorem szPool_any (v0 v1 : Value) (lo hi : Nat) (p : PoolD) (left : Int) (w : World) (h1 : PoolAt w lo hi v0 v1 p) (hl0 : 0 ≤ left) (hl1 : left ≤ 1048576) :
    Calls Try.prog 9 #[.agg #[v0, v1], .int .i64 left] w fun e w' => LeftIs (poolN p) left e ∧ Below w.heap.size w w' := by
  have q1 := h1
  obtain ⟨⟨_, a, c, rfl, _⟩, ⟨_, a', c', rfl, _⟩⟩ := h1
  go_enter Try.func9, Try.ntmps9
  go_wp2_with fail
  have hbw := (Below.refl w.heap.size w).alloc (Nat.le_refl _) (.cells #[.slice a p.n c, .slice a' p.hn c'] 25)
  refine (szSlotS_any _ p.n lo hi _ _ _ (q1.1.below hbw) hl0 hl1).mono ?_
  rintro e w1 ⟨⟨r, rfl, hr1, hr2, hr3⟩, hb1⟩
  have hb2 := below_next hbw hb1
  have e1 := hb1.cell (p := ⟨w.heap.size, 1, none⟩) (by simp)
  simp at e1
  have Hr : Hid (0 ≤ r → r + (p.n + slotsN p.s p.n : Nat) = left) := hr1
  clear hr1 hb1 hbw
  by_cases h : r < 0
  · go_wp2
    go_ret
    exact ⟨⟨-1, rfl, by omega, by omega, by omega⟩, hb2⟩
  · go_wp2_with fail
    refine (szInt64S_any _ p.hn lo hi _ _ _ (q1.2.below hb2) (by omega) (by omega)).mono ?_
    rintro e w2 ⟨⟨r', rfl, hq1, hq2, hq3⟩, hb3⟩
    have hb4 := below_next hb2 hb3
    have Hq : Hid (0 ≤ r' → r' + p.hn = r) := hq1
    clear hq1 hb3
    by_cases h3 : r' < 0
    · go_wp2
      go_ret
      exact ⟨⟨-1, rfl, by omega, by omega, by omega⟩, hb4⟩
    · go_wp2
      go_ret
      refine ⟨⟨r', rfl, fun _ => ?_, by omega, by omega⟩, hb4⟩
      have e1 := Hq.out (by omega)
      have e2 := Hr.out (by omega)
      unfold poolN
      omega

end Go.Proofs.Ytiijnmpenljniad
