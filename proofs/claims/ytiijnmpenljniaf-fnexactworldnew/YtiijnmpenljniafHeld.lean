/- What the laws' own functions that look for marks answer where the marks are as they were laid (heldPtrS, heldSlotS, heldInt64S, heldPool), and markPool. -/
import Derived.Test.YtiijnmpenljniafMark
namespace Go.Proofs.Ytiijnmpenljniaf
open Go.RowKit
set_option linter.unusedVariables false

set_option maxRecDepth 20000 in
set_option maxHeartbeats 400000 in
theorem markPool_any (bs hb : Nat) (kb : Nat → Nat) (kv : Nat → Value) (v0 v1 : Value) (p : PoolD) (k0 : Int) (w : World)
    (h1 : SlotsOwn w bs kb kv v0 p.n p.s) (hap : KidsApart kb p.n p.s) (h2 : IntsOwn w hb v1 p.hn p.h) (hd : 0 < p.hn → ¬ SlotsB bs kb p.n p.s hb)
    (hk0 : 0 ≤ k0) (hk1 : cnt p.s k0 p.n + p.hn ≤ 1000000000000) :
    Calls Try.prog 15 #[.agg #[v0, v1], .int .i64 k0] w fun e w' => e = .returned (.int .i64 (cnt p.s k0 p.n + p.hn)) ∧ SlotsOwn w' bs kb kv v0 p.n (markS p.s k0) ∧ IntsOwn w' hb v1 p.hn (fun i => cnt p.s k0 p.n + i) ∧
      Turned (fun k => SlotsB bs kb p.n p.s k ∨ (0 < p.hn ∧ k = hb)) w w' := by
  have q1 := h1
  have q2 := h2
  obtain ⟨_, a, c, rfl, _⟩ := h1
  obtain ⟨_, a', c', rfl, _⟩ := h2
  have Hk : Hid (cnt p.s k0 p.n + p.hn ≤ 1000000000000) := hk1
  have hk00 : Hid (k0 ≤ cnt p.s k0 p.n) := cnt_le p.s k0 (Nat.zero_le p.n)
  clear hk1
  go_enter Try.func15, Try.ntmps15
  go_wp2_with fail
  have hbw := (Below.refl w.heap.size w).alloc (Nat.le_refl _) (.cells #[.slice a p.n c, .slice a' p.hn c'] 25)
  refine (markSlotS_any bs kb kv _ p.n p.s _ _ (q1.below hbw) hap hk0 (by have := Hk.out; omega)).mono ?_
  rintro e w1 ⟨rfl, hs1, ht1⟩
  have nb : ¬ SlotsB bs kb p.n p.s w.heap.size := fun x => Nat.lt_irrefl _ (q1.lt x)
  have e1 := ht1.cell (b := w.heap.size) (o := 1) (by simp) nb
  simp at e1
  go_wp2_with fail
  refine (markInt64S_any hb _ p.hn p.h _ _ ((q2.below hbw).turned ht1 hd) (by have := hk00.out; omega) Hk.out).mono ?_
  rintro e w2 ⟨rfl, hs2, ht2⟩
  go_wp2
  go_ret
  refine ⟨rfl, ?_, hs2, ?_⟩
  · refine hs1.turned ht2 (fun h0 hx => ?_) (fun i hi h0 hx => ?_)
    · exact hd hx.1 (Or.inl ⟨h0, hx.2.symm⟩)
    · exact hd hx.1 (Or.inr ⟨i, hi, h0, hx.2.symm⟩)
  · exact ((Turned.of_below hbw).trans (ht1.mono fun k h => Or.inl h)).trans (ht2.mono fun k h => Or.inr h)

set_option maxRecDepth 20000 in
set_option maxHeartbeats 400000 in
theorem heldInt64S_any (v : Value) (n lo hi : Nat) (f : Nat → Int) (k0 : Int) (w : World) (h1 : IntsAt w lo hi v n f) (hk0 : 0 ≤ k0) (hk1 : k0 + n ≤ 1000000000000) (hf : ∀ i, i < n → f i = k0 + i) :
    Calls Try.prog 30 #[v, .int .i64 k0] w fun e w' => e = .returned (.int .i64 (k0 + n)) ∧ Below w.heap.size w w' := by
  obtain ⟨m1, a, c, rfl, mc, g1⟩ := h1
  unfold maxLen at m1
  have Hf : Hid (∀ i, i < n → f i = k0 + i) := hf
  clear hf
  go_enter Try.func30, Try.ntmps30
  go_wp2
  go_loopw [1, 5] (fun m i wr => ∃ k : Nat, k ≤ n ∧ i = .int .i64 k ∧ m = .int .i64 (k0 + k) ∧ Below w.heap.size w wr) (fun _ i _ => n - (intOf i).toNat)
  case atStart => exact ⟨0, Nat.zero_le _, rfl, by simp, Below.refl _ _⟩
  case round =>
    obtain ⟨k, hk, rfl, rfl, hb⟩ := hrel
    by_cases hlt : k < n
    · have hlt' : (k : Int) < (n : Int) := by omega
      obtain ⟨b, off, rfl, _, _, k1⟩ := g1 (by omega)
      have hc1 : wr.cell? ⟨b, off + k, none⟩ = some (.int .i64 (k0 + k)) := by rw [← Hf.out k hlt]; exact (hb.cell (lt_of_cell (k1 k hlt))).trans (k1 k hlt)
      clear k1 g1
      go_wp2
      go_roundw
      case rel => exact ⟨k + 1, by omega, by go_num, by go_num, hb⟩
      case measure => simp [intOf]; omega
    · obtain rfl : k = n := by omega
      go_wp2
      go_ret
      exact ⟨rfl, hb⟩

set_option maxRecDepth 20000 in
set_option maxHeartbeats 400000 in
theorem heldPtrS_any (v : Value) (n lo hi : Nat) (f g : Nat → Int) (k0 : Int) (w : World) (h1 : PtrsAt w lo hi v n f g) (hk0 : 0 ≤ k0) (hk1 : k0 + 2 * n ≤ 1000000000000) (hf : ∀ i, i < n → f i = k0 + 2 * i ∧ g i = k0 + 2 * i + 1) :
    Calls Try.prog 31 #[v, .int .i64 k0] w fun e w' => e = .returned (.int .i64 (k0 + 2 * n)) ∧ Below w.heap.size w w' := by
  obtain ⟨m1, a, c, rfl, mc, g1⟩ := h1
  unfold maxLen at m1
  have Hf : Hid (∀ i, i < n → f i = k0 + 2 * i ∧ g i = k0 + 2 * i + 1) := hf
  clear hf
  go_enter Try.func31, Try.ntmps31
  go_wp2
  go_loopw [1, 5] (fun m i wr => ∃ k : Nat, k ≤ n ∧ i = .int .i64 k ∧ m = .int .i64 (k0 + 2 * k) ∧ Below w.heap.size w wr) (fun _ i _ => n - (intOf i).toNat)
  case atStart => exact ⟨0, Nat.zero_le _, rfl, by simp, Below.refl _ _⟩
  case round =>
    obtain ⟨k, hk, rfl, rfl, hb⟩ := hrel
    by_cases hlt : k < n
    · have hlt' : (k : Int) < (n : Int) := by omega
      obtain ⟨b, off, rfl, _, _, k1⟩ := g1 (by omega)
      have hc1 : wr.cell? ⟨b, off + k * 2, none⟩ = some (.int .i64 (k0 + 2 * k)) := by rw [← (Hf.out k hlt).1]; exact (hb.cell (lt_of_cell (k1 k hlt).1)).trans (k1 k hlt).1
      have hc2 : wr.cell? ⟨b, off + k * 2 + 1, none⟩ = some (.int .i64 (k0 + 2 * k + 1)) := by rw [← (Hf.out k hlt).2]; exact (hb.cell (lt_of_cell (k1 k hlt).2)).trans (k1 k hlt).2
      clear k1 g1
      go_wp2
      go_roundw
      case rel => exact ⟨k + 1, by omega, by go_num, by go_num, hb⟩
      case measure => simp [intOf]; omega
    · obtain rfl : k = n := by omega
      go_wp2
      go_ret
      exact ⟨rfl, hb⟩

set_option maxRecDepth 20000 in
set_option maxHeartbeats 400000 in
theorem heldSlotS_any (v : Value) (n lo hi : Nat) (f : Nat → SlotD) (k0 : Int) (w : World) (h1 : SlotsAt w lo hi v n (markS f k0)) (hk0 : 0 ≤ k0) (hk1 : cnt f k0 n ≤ 1000000000000) :
    Calls Try.prog 29 #[v, .int .i64 k0] w fun e w' => e = .returned (.int .i64 (cnt f k0 n)) ∧ Below w.heap.size w w' := by
  obtain ⟨m1, a, c, rfl, mc, g1⟩ := h1
  unfold maxLen at m1
  have Hk1 : Hid (cnt f k0 n ≤ 1000000000000) := hk1
  have G1 : Hid (0 < n → ∃ b off, a = some ⟨b, off, none⟩ ∧ lo ≤ b ∧ b < hi ∧ ∀ i, i < n → ∃ v0 v1 v2, w.cell? ⟨b, off + i * 3, none⟩ = some v0 ∧ w.cell? ⟨b, off + i * 3 + 1, none⟩ = some v1 ∧ w.cell? ⟨b, off + i * 3 + 2, none⟩ = some v2 ∧ SlotAt w lo hi v0 v1 v2 (markS f k0 i)) := g1
  clear g1 hk1
  go_enter Try.func29, Try.ntmps29
  go_wp2
  go_loopw [1, 5] (fun m i wr => ∃ k : Nat, k ≤ n ∧ i = .int .i64 k ∧ m = .int .i64 (cnt f k0 k) ∧ Below w.heap.size w wr) (fun _ i _ => n - (intOf i).toNat)
  case atStart => exact ⟨0, Nat.zero_le _, rfl, rfl, Below.refl _ _⟩
  case round =>
    obtain ⟨k, hk, rfl, rfl, hb⟩ := hrel
    by_cases hlt : k < n
    · have hlt' : (k : Int) < (n : Int) := by omega
      have hc0 : k0 ≤ cnt f k0 k := cnt_le f k0 (Nat.zero_le k)
      have hc1 : cnt f k0 k + 2 + 2 * ((f k).kn : Int) ≤ 1000000000000 := Int.le_trans (cnt_le f k0 (show k + 1 ≤ n from hlt)) Hk1.out
      obtain ⟨b, off, rfl, _, _, k1⟩ := G1.out (by omega)
      obtain ⟨x0, x1, x2, c0, c1, c2, hs⟩ := k1 k hlt
      have hd0 := (hb.cell (lt_of_cell c0)).trans c0
      have hd1 := (hb.cell (lt_of_cell c1)).trans c1
      have hd2 := (hb.cell (lt_of_cell c2)).trans c2
      have hs' := hs.below hb
      clear k1 G1 c0 c1 c2 hs
      obtain ⟨rfl, hkids, rfl, _⟩ := hs'
      have Hkids : Hid (PtrsAt wr lo hi x1 (f k).kn (fun i => cnt f k0 k + 1 + 2 * i) (fun i => cnt f k0 k + 1 + 2 * i + 1)) := hkids
      obtain ⟨_, ka, kc, rfl, _⟩ := hkids
      have hd0' : wr.cell? ⟨b, off + k * 3, none⟩ = some (.int .i64 (cnt f k0 k)) := hd0
      have hd1' : wr.cell? ⟨b, off + k * 3 + 1, none⟩ = some (.slice ka (f k).kn kc) := hd1
      have hd2' : wr.cell? ⟨b, off + k * 3 + 2, none⟩ = some (.string (mtF (cnt f k0 k + 1 + 2 * (f k).kn))) := hd2
      clear hd0 hd1 hd2
      go_wp2_with fail
      refine (heldPtrS_any _ (f k).kn lo hi _ _ _ _ Hkids.out (by omega) (by omega) (fun i hi => ⟨rfl, rfl⟩)).mono ?_
      rintro e w1 ⟨rfl, hb1⟩
      have hz : w1.cell? ⟨b, off + k * 3 + 2, none⟩ = some (.string (mtF (cnt f k0 k + 1 + 2 * (f k).kn))) := (hb1.cell (lt_of_cell hd2')).trans hd2'
      have hbb := below_next hb hb1
      clear hd0' hd1' hd2' Hkids hb1
      have hnn : ¬ cnt f k0 k + 1 + 2 * ((f k).kn : Int) < 0 := by omega
      have hse := str_eq (rfl : mtF (cnt f k0 k + 1 + 2 * (f k).kn) = mtF (cnt f k0 k + 1 + 2 * (f k).kn))
      go_wp2_with fail
      go_region_held3 (fun w' => w'.cell? ⟨b, off + k * 3 + 2, none⟩ = some (.string (mtF (cnt f k0 k + 1 + 2 * (f k).kn)))) (go_keep)
          (first | (go_at_call 27; refine (markText_any _ _ (by omega)).mono ?_; rintro e w2 ⟨rfl, hb2⟩; have z1 := (hb2.cell (p := ⟨b, off + k * 3 + 2, none⟩) (lt_of_cell hz)).trans hz))
      have hbc := below_call hbb hb2
      clear hb2 z1
      go_wp2
      go_roundw
      case rel => exact ⟨k + 1, by omega, by go_num, congrArg (Value.int .i64) (by show _ = cnt f k0 k + 2 + 2 * ((f k).kn : Int); omega), hbc⟩
      case measure => simp [intOf]; omega
    · obtain rfl : k = n := by omega
      go_wp2
      go_ret
      exact ⟨rfl, hb⟩

set_option maxRecDepth 20000 in
set_option maxHeartbeats 400000 in
theorem heldPool_any (v0 v1 : Value) (lo hi : Nat) (p : PoolD) (k0 : Int) (w : World) (h1 : SlotsAt w lo hi v0 p.n (markS p.s k0)) (h2 : IntsAt w lo hi v1 p.hn (fun i => cnt p.s k0 p.n + i))
    (hk0 : 0 ≤ k0) (hk1 : cnt p.s k0 p.n + p.hn ≤ 1000000000000) :
    Calls Try.prog 18 #[.agg #[v0, v1], .int .i64 k0] w fun e w' => e = .returned (.int .i64 (cnt p.s k0 p.n + p.hn)) ∧ Below w.heap.size w w' := by
  have q1 := h1
  have q2 := h2
  obtain ⟨_, a, c, rfl, _⟩ := h1
  obtain ⟨_, a', c', rfl, _⟩ := h2
  have hk00 : k0 ≤ cnt p.s k0 p.n := cnt_le p.s k0 (Nat.zero_le p.n)
  have hge : ¬ cnt p.s k0 p.n < 0 := by omega
  have hge2 : ¬ cnt p.s k0 p.n + (p.hn : Int) < 0 := by omega
  go_enter Try.func18, Try.ntmps18
  go_wp2_with fail
  have hbw := (Below.refl w.heap.size w).alloc (Nat.le_refl _) (.cells #[.slice a p.n c, .slice a' p.hn c'] 25)
  refine (heldSlotS_any _ p.n lo hi p.s _ _ (q1.below hbw) hk0 (by omega)).mono ?_
  rintro e w1 ⟨rfl, hb1⟩
  have e1 := hb1.cell (p := ⟨w.heap.size, 1, none⟩) (by simp)
  simp at e1
  have hb2 := below_next hbw hb1
  clear hb1
  go_wp2_with fail
  refine (heldInt64S_any _ p.hn lo hi _ _ _ (q2.below hb2) (by omega) hk1 (fun i hi => rfl)).mono ?_
  rintro e w2 ⟨rfl, hb3⟩
  have hb4 := below_next hb2 hb3
  go_wp2
  go_ret
  exact ⟨rfl, hb4⟩

end Go.Proofs.Ytiijnmpenljniaf
