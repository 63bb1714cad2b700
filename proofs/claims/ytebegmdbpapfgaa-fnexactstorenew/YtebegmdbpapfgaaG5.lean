/- What the laws' own functions that look for marks answer where the marks are as they were laid (heldPtrS, heldSlotS, heldInt64S, heldPool). -/
import Derived.Test.YtebegmdbpapfgaaG3
import Derived.Test.YtebegmdbpapfgaaG4
import Derived.Test.YtebegmdbpapfgaaRows
import Derived.Test.YtebegmdbpapfgaaG1
import Derived.Deep.RegionHeld3
import Derived.Deep.QuietTactic
import Derived.BigQuiet
import Derived.Test.YtebegmdbpapfgaaG2
namespace Go.Proofs.Ytebegmdbpapfgaa
open Go.RowKit
set_option linter.unusedVariables false

set_option maxRecDepth 20000 in
set_option maxHeartbeats 400000 in
theorem heldInt64S_any (v : Value) (n lo hi : Nat) (f : Nat → Int) (k0 : Int) (w : World) (h1 : IntsAt w lo hi v n f) (hk0 : 0 ≤ k0) (hk1 : k0 + n ≤ 1000000000000) (hf : ∀ i, i < n → f i = k0 + i) :
    Calls Try.prog 35 #[v, .int .i64 k0] w fun e w' => e = .returned (.int .i64 (k0 + n)) ∧ Below w.heap.size w w' := by
  obtain ⟨m1, a, c, rfl, mc, g1⟩ := h1
  unfold maxLen at m1
  have Hf : Hid (∀ i, i < n → f i = k0 + i) := hf
  clear hf
  go_enter Try.func35, Try.ntmps35
  go_wp2
  go_loopw [1, 5] (fun m i wr => ∃ k : Nat, k ≤ n ∧ i = .int .i64 k ∧ m = .int .i64 (k0 + k) ∧ Below w.heap.size w wr) (fun _ i _ => n - (intOf i).toNat)
  case atStart => exact ⟨0, Nat.zero_le _, rfl, by simp, Below.refl _ _⟩
  case round =>
    obtain ⟨k, hk, rfl, rfl, hb⟩ := hrel
    by_cases hlt : k < n
    · have hlt' : (k : Int) < (n : Int) := by omega
      obtain ⟨b, off, rfl, _, _, k1⟩ := g1 (by omega)
      have hc1 : wr.cell? ⟨b, off + k, none⟩ = some (.int .i64 (k0 + k)) := by rw [← Hf.out k hlt]; exact (hb.cell (lt_of_cell (k1 k hlt))).trans (k1 k hlt)
      clear k1 g1
      go_wp2
      go_roundw
      case rel => exact ⟨k + 1, by omega, by go_num, by go_num, hb⟩
      case measure => simp [intOf]; omega
    · obtain rfl : k = n := by omega
      go_wp2
      go_ret
      exact ⟨rfl, hb⟩

set_option maxRecDepth 20000 in
set_option maxHeartbeats 400000 in
theorem heldSlotS_any (v : Value) (n lo hi : Nat) (f : Nat → SlotD) (k0 : Int) (w : World) (h1 : SlotsAt w lo hi v n (markS f k0)) (hk0 : 0 ≤ k0) (hk1 : cntSl f k0 n ≤ 1000000000000) :
    Calls Try.prog 34 #[v, .int .i64 k0] w fun e w' => e = .returned (.int .i64 (cntSl f k0 n)) ∧ Below w.heap.size w w' := by
  obtain ⟨m1, a, c, rfl, mc, g1⟩ := h1
  unfold maxLen at m1
  have Hk1 : Hid (cntSl f k0 n ≤ 1000000000000) := hk1
  have G1 : Hid (0 < n → ∃ b off, a = some ⟨b, off, none⟩ ∧ lo ≤ b ∧ b < hi ∧ ∀ i, i < n → ∃ v0 v1 v2, w.cell? ⟨b, off + i * 3, none⟩ = some v0 ∧ w.cell? ⟨b, off + i * 3 + 1, none⟩ = some v1 ∧ w.cell? ⟨b, off + i * 3 + 2, none⟩ = some v2 ∧ SlotAt w lo hi v0 v1 v2 (markS f k0 i)) := g1
  clear g1 hk1
  go_enter Try.func34, Try.ntmps34
  go_wp2
  go_loopw [1, 5] (fun m i wr => ∃ k : Nat, k ≤ n ∧ i = .int .i64 k ∧ m = .int .i64 (cntSl f k0 k) ∧ Below w.heap.size w wr) (fun _ i _ => n - (intOf i).toNat)
  case atStart => exact ⟨0, Nat.zero_le _, rfl, rfl, Below.refl _ _⟩
  case round =>
    obtain ⟨k, hk, rfl, rfl, hb⟩ := hrel
    by_cases hlt : k < n
    · have hlt' : (k : Int) < (n : Int) := by omega
      have hc0 : k0 ≤ cntSl f k0 k := cntSl_le f k0 (Nat.zero_le k)
      have hc1 : cntSl f k0 k + 2 + 2 * ((f k).kn : Int) ≤ 1000000000000 := Int.le_trans (cntSl_le f k0 (show k + 1 ≤ n from hlt)) Hk1.out
      obtain ⟨b, off, rfl, _, _, k1⟩ := G1.out (by omega)
      obtain ⟨x0, x1, x2, c0, c1, c2, hs⟩ := k1 k hlt
      have hd0 := (hb.cell (lt_of_cell c0)).trans c0
      have hd1 := (hb.cell (lt_of_cell c1)).trans c1
      have hd2 := (hb.cell (lt_of_cell c2)).trans c2
      have hs' := hs.below hb
      clear k1 G1 c0 c1 c2 hs
      obtain ⟨rfl, hkids, rfl, _⟩ := hs'
      have Hkids : Hid (PtrsAt wr lo hi x1 (f k).kn (fun i => cntSl f k0 k + 1 + 2 * i) (fun i => cntSl f k0 k + 1 + 2 * i + 1)) := hkids
      obtain ⟨_, ka, kc, rfl, _⟩ := hkids
      have hd0' : wr.cell? ⟨b, off + k * 3, none⟩ = some (.int .i64 (cntSl f k0 k)) := hd0
      have hd1' : wr.cell? ⟨b, off + k * 3 + 1, none⟩ = some (.slice ka (f k).kn kc) := hd1
      have hd2' : wr.cell? ⟨b, off + k * 3 + 2, none⟩ = some (.string (mtF (cntSl f k0 k + 1 + 2 * (f k).kn))) := hd2
      clear hd0 hd1 hd2
      go_wp2_with fail
      refine (heldPtrS_any _ (f k).kn lo hi _ _ _ _ Hkids.out (by omega) (by omega) (fun i hi => ⟨rfl, rfl⟩)).mono ?_
      rintro e w1 ⟨rfl, hb1⟩
      have hz : w1.cell? ⟨b, off + k * 3 + 2, none⟩ = some (.string (mtF (cntSl f k0 k + 1 + 2 * (f k).kn))) := (hb1.cell (lt_of_cell hd2')).trans hd2'
      have hbb := below_next hb hb1
      clear hd0' hd1' hd2' Hkids hb1
      have hnn : ¬ cntSl f k0 k + 1 + 2 * ((f k).kn : Int) < 0 := by omega
      have hse := str_eq (rfl : mtF (cntSl f k0 k + 1 + 2 * (f k).kn) = mtF (cntSl f k0 k + 1 + 2 * (f k).kn))
      go_wp2_with fail
      go_region_held3 (fun w' => w'.cell? ⟨b, off + k * 3 + 2, none⟩ = some (.string (mtF (cntSl f k0 k + 1 + 2 * (f k).kn)))) (go_keep)
          (first | (go_at_call 32; refine (markText_any _ _ (by omega)).mono ?_; rintro e w2 ⟨rfl, hb2⟩; have z1 := (hb2.cell (p := ⟨b, off + k * 3 + 2, none⟩) (lt_of_cell hz)).trans hz))
      have hbc := below_call hbb hb2
      clear hb2 z1
      go_wp2
      go_roundw
      case rel => exact ⟨k + 1, by omega, by go_num, congrArg (Value.int .i64) (by show _ = cntSl f k0 k + 2 + 2 * ((f k).kn : Int); omega), hbc⟩
      case measure => simp [intOf]; omega
    · obtain rfl : k = n := by omega
      go_wp2
      go_ret
      exact ⟨rfl, hb⟩

set_option maxRecDepth 20000 in
set_option maxHeartbeats 400000 in
theorem heldPool_any (v0 v1 : Value) (lo hi : Nat) (p : PoolD) (k0 : Int) (w : World) (h1 : SlotsAt w lo hi v0 p.n (markS p.s k0)) (h2 : IntsAt w lo hi v1 p.hn (fun i => cntSl p.s k0 p.n + i))
    (hk0 : 0 ≤ k0) (hk1 : cntSl p.s k0 p.n + p.hn ≤ 1000000000000) :
    Calls Try.prog 23 #[.agg #[v0, v1], .int .i64 k0] w fun e w' => e = .returned (.int .i64 (cntSl p.s k0 p.n + p.hn)) ∧ Below w.heap.size w w' := by
  have q1 := h1
  have q2 := h2
  obtain ⟨_, a, c, rfl, _⟩ := h1
  obtain ⟨_, a', c', rfl, _⟩ := h2
  have hk00 : k0 ≤ cntSl p.s k0 p.n := cntSl_le p.s k0 (Nat.zero_le p.n)
  have hge : ¬ cntSl p.s k0 p.n < 0 := by omega
  have hge2 : ¬ cntSl p.s k0 p.n + (p.hn : Int) < 0 := by omega
  go_enter Try.func23, Try.ntmps23
  go_wp2_with fail
  have hbw := (Below.refl w.heap.size w).alloc (Nat.le_refl _) (.cells #[.slice a p.n c, .slice a' p.hn c'] 25)
  refine (heldSlotS_any _ p.n lo hi p.s _ _ (q1.below hbw) hk0 (by omega)).mono ?_
  rintro e w1 ⟨rfl, hb1⟩
  have e1 := hb1.cell (p := ⟨w.heap.size, 1, none⟩) (by simp)
  simp at e1
  have hb2 := below_next hbw hb1
  clear hb1
  go_wp2_with fail
  refine (heldInt64S_any _ p.hn lo hi _ _ _ (q2.below hb2) (by omega) hk1 (fun i hi => rfl)).mono ?_
  rintro e w2 ⟨rfl, hb3⟩
  have hb4 := below_next hb2 hb3
  go_wp2
  go_ret
  exact ⟨rfl, hb4⟩

end Go.Proofs.Ytebegmdbpapfgaa

namespace Go.Proofs.Ytebegmdbpapfgaa
open Go.RowKit
set_option linter.unusedVariables false

set_option maxRecDepth 20000 in
set_option maxHeartbeats 400000 in
theorem eqPtr_any (a b c d : Int) (w : World) :
    Calls Try.prog 38 #[.agg #[.int .i64 a, .int .i64 b], .agg #[.int .i64 c, .int .i64 d]] w fun e w' => BoolIs (PtrEq a b c d) e ∧ Below w.heap.size w w' := by
  by_cases h1 : a = c
  · by_cases h2 : b = d
    · subst h1 h2
      go_enter Try.func38, Try.ntmps38
      go_wp2
      go_ret
      exact ⟨BoolIs.yes ⟨rfl, rfl⟩, ((Below.refl _ _).alloc (Nat.le_refl _) _).alloc (by simp) _⟩
    · subst h1
      have hb : (b != d) = true := by simp [h2]
      have H2 : Hid (¬ PtrEq a b a d) := fun h => h2 h.2
      clear h2
      go_enter Try.func38, Try.ntmps38
      go_wp2
      go_ret
      exact ⟨BoolIs.no H2.out, ((Below.refl _ _).alloc (Nat.le_refl _) _).alloc (by simp) _⟩
  · have hb : (a != c) = true := by simp [h1]
    have H2 : Hid (¬ PtrEq a b c d) := fun h => h1 h.1
    clear h1
    go_enter Try.func38, Try.ntmps38
    go_wp2
    go_ret
    exact ⟨BoolIs.no H2.out, ((Below.refl _ _).alloc (Nat.le_refl _) _).alloc (by simp) _⟩

set_option maxRecDepth 20000 in
set_option maxHeartbeats 400000 in
theorem eqInt64S_any (v v' : Value) (n n' lo hi lo' hi' : Nat) (f f' : Nat → Int) (w : World) (h1 : IntsAt w lo hi v n f) (h2 : IntsAt w lo' hi' v' n' f') :
    Calls Try.prog 27 #[v, v'] w fun e w' => BoolIs (IntsEq n n' f f') e ∧ Below w.heap.size w w' := by
  obtain ⟨m1, a, c, rfl, mc, g1⟩ := h1
  obtain ⟨m2, a', c', rfl, mc', g2⟩ := h2
  unfold maxLen at m1 m2
  by_cases hn : n = n'
  · subst hn
    have hne : ((n : Int) != (n : Int)) = false := by simp
    go_enter Try.func27, Try.ntmps27
    go_wp2
    go_loopw [5] (fun i wr => ∃ k : Nat, k ≤ n ∧ i = .int .i64 k ∧ (∀ j, j < k → f j = f' j) ∧ Below w.heap.size w wr) (fun i _ => n - (intOf i).toNat)
    case atStart => exact ⟨0, Nat.zero_le _, rfl, fun j h => absurd h (Nat.not_lt_zero _), Below.refl _ _⟩
    case round =>
      obtain ⟨k, hk, rfl, hall, hb⟩ := hrel
      have Hall : Hid (∀ j, j < k → f j = f' j) := hall
      clear hall
      by_cases hlt : k < n
      · have hlt' : (k : Int) < (n : Int) := by omega
        obtain ⟨b, off, rfl, _, _, k1⟩ := g1 (by omega)
        obtain ⟨b', off', rfl, _, _, k2⟩ := g2 (by omega)
        have hc1 : wr.cell? ⟨b, off + k, none⟩ = some (.int .i64 (f k)) := (hb.cell (lt_of_cell (k1 k hlt))).trans (k1 k hlt)
        have hc2 : wr.cell? ⟨b', off' + k, none⟩ = some (.int .i64 (f' k)) := (hb.cell (lt_of_cell (k2 k hlt))).trans (k2 k hlt)
        clear k1 k2 g1 g2
        by_cases he : f k = f' k
        · have he' : (f k != f' k) = false := by simp [he]
          have He : Hid (f k = f' k) := he
          clear he
          go_wp2_with fail
          go_quiet (fail)
          go_wp2
          go_roundw
          case rel => exact ⟨k + 1, by omega, by go_num, relNext hlt Hall.out He.out, below_drewN hb _⟩
          case measure => simp [intOf]; omega
        · have he' : (f k != f' k) = true := by simp [he]
          have He : Hid (¬ f k = f' k) := he
          clear he
          go_wp2_with fail
          go_quiet (fail)
          go_wp2
          go_ret
          exact ⟨BoolIs.no fun h => He.out (h.2 k hlt), below_drewN hb _⟩
      · go_wp2
        go_ret
        exact ⟨BoolIs.yes ⟨rfl, fun i hi => Hall.out i (by omega)⟩, hb⟩
  · have hne : ((n : Int) != (n' : Int)) = true := by simp; omega
    have Hn : Hid (¬ n = n') := hn
    clear hn
    go_enter Try.func27, Try.ntmps27
    go_wp2
    go_ret
    exact ⟨BoolIs.no fun h => Hn.out h.1, Below.refl _ _⟩

set_option maxRecDepth 20000 in
set_option maxHeartbeats 400000 in
theorem eqPtrS_any (v v' : Value) (n n' lo hi lo' hi' : Nat) (f g f' g' : Nat → Int) (w : World) (h1 : PtrsAt w lo hi v n f g) (h2 : PtrsAt w lo' hi' v' n' f' g') :
    Calls Try.prog 39 #[v, v'] w fun e w' => BoolIs (PtrsEq n n' f g f' g') e ∧ Below w.heap.size w w' := by
  obtain ⟨m1, a, c, rfl, mc, g1⟩ := h1
  obtain ⟨m2, a', c', rfl, mc', g2⟩ := h2
  unfold maxLen at m1 m2
  by_cases hn : n = n'
  · subst hn
    have hne : ((n : Int) != (n : Int)) = false := by simp
    go_enter Try.func39, Try.ntmps39
    go_wp2
    go_loopw [5] (fun i wr => ∃ k : Nat, k ≤ n ∧ i = .int .i64 k ∧ (∀ j, j < k → f j = f' j ∧ g j = g' j) ∧ Below w.heap.size w wr) (fun i _ => n - (intOf i).toNat)
    case atStart => exact ⟨0, Nat.zero_le _, rfl, fun j h => absurd h (Nat.not_lt_zero _), Below.refl _ _⟩
    case round =>
      obtain ⟨k, hk, rfl, hall, hb⟩ := hrel
      have Hall : Hid (∀ j, j < k → f j = f' j ∧ g j = g' j) := hall
      clear hall
      by_cases hlt : k < n
      · have hlt' : (k : Int) < (n : Int) := by omega
        obtain ⟨b, off, rfl, _, _, k1⟩ := g1 (by omega)
        obtain ⟨b', off', rfl, _, _, k2⟩ := g2 (by omega)
        have hc1 : wr.cell? ⟨b, off + k * 2, none⟩ = some (.int .i64 (f k)) := (hb.cell (lt_of_cell (k1 k hlt).1)).trans (k1 k hlt).1
        have hd1 : wr.cell? ⟨b, off + k * 2 + 1, none⟩ = some (.int .i64 (g k)) := (hb.cell (lt_of_cell (k1 k hlt).2)).trans (k1 k hlt).2
        have hc2 : wr.cell? ⟨b', off' + k * 2, none⟩ = some (.int .i64 (f' k)) := (hb.cell (lt_of_cell (k2 k hlt).1)).trans (k2 k hlt).1
        have hd2 : wr.cell? ⟨b', off' + k * 2 + 1, none⟩ = some (.int .i64 (g' k)) := (hb.cell (lt_of_cell (k2 k hlt).2)).trans (k2 k hlt).2
        clear k1 k2 g1 g2
        go_wp2_with fail
        go_region_held3 (fun w' => w'.cell? ⟨b, off + k * 2, none⟩ = some (.int .i64 (f k)) ∧ w'.cell? ⟨b, off + k * 2 + 1, none⟩ = some (.int .i64 (g k)) ∧ w'.cell? ⟨b', off' + k * 2, none⟩ = some (.int .i64 (f' k)) ∧ w'.cell? ⟨b', off' + k * 2 + 1, none⟩ = some (.int .i64 (g' k))) (go_keep)
          (first | (go_at_call 38; refine (eqPtr_any _ _ _ _ _).mono ?_; rintro e w1 ⟨⟨t, rfl, ht⟩, hb1⟩; have z1 := (hb1.cell (p := ⟨b, off + k * 2, none⟩) (lt_of_cell hc1)).trans hc1; have z2 := (hb1.cell (p := ⟨b, off + k * 2 + 1, none⟩) (lt_of_cell hd1)).trans hd1; have z3 := (hb1.cell (p := ⟨b', off' + k * 2, none⟩) (lt_of_cell hc2)).trans hc2; have z4 := (hb1.cell (p := ⟨b', off' + k * 2 + 1, none⟩) (lt_of_cell hd2)).trans hd2))
        have Ht : Hid (t = true ↔ PtrEq (f k) (g k) (f' k) (g' k)) := ht
        have hb2 := below_call hb hb1
        clear ht z1 z2 z3 z4 hc1 hd1 hc2 hd2 hb1
        cases t
        · go_wp2
          go_ret
          exact ⟨BoolIs.no fun h => absurd (Ht.out.2 (h.2 k hlt)) (by simp), hb2⟩
        · go_wp2
          go_roundw
          case rel => exact ⟨k + 1, by omega, by go_num, relNext hlt Hall.out (Ht.out.1 rfl), hb2⟩
          case measure => simp [intOf]; omega
      · go_wp2
        go_ret
        exact ⟨BoolIs.yes ⟨rfl, fun i hi => Hall.out i (by omega)⟩, hb⟩
  · have hne : ((n : Int) != (n' : Int)) = true := by simp; omega
    have Hn : Hid (¬ n = n') := hn
    clear hn
    go_enter Try.func39, Try.ntmps39
    go_wp2
    go_ret
    exact ⟨BoolIs.no fun h => Hn.out h.1, Below.refl _ _⟩

set_option maxRecDepth 20000 in
set_option maxHeartbeats 400000 in
theorem eqSlot_any (v0 v1 v2 u0 u1 u2 : Value) (lo hi lo' hi' : Nat) (s t : SlotD) (w : World) (h1 : SlotAt w lo hi v0 v1 v2 s) (h2 : SlotAt w lo' hi' u0 u1 u2 t) :
    Calls Try.prog 37 #[.agg #[v0, v1, v2], .agg #[u0, u1, u2]] w fun e w' => BoolIs (SlotEq s t) e ∧ Below w.heap.size w w' := by
  obtain ⟨rfl, p1, rfl, m1⟩ := h1
  obtain ⟨rfl, p2, rfl, m2⟩ := h2
  have q1 := p1
  have q2 := p2
  obtain ⟨_, a, c, rfl, _⟩ := p1
  obtain ⟨_, a', c', rfl, _⟩ := p2
  by_cases h1 : s.birth = t.birth
  · have hb : (s.birth != t.birth) = false := by simp [h1]
    have H1 : Hid (s.birth = t.birth) := h1
    clear h1
    go_enter Try.func37, Try.ntmps37
    go_wp2_with fail
    have hbw := ((Below.refl w.heap.size w).alloc (Nat.le_refl _) (.cells #[.int .i64 s.birth, .slice a s.kn c, .string s.data] 49)).alloc (by simp) (.cells #[.int .i64 t.birth, .slice a' t.kn c', .string t.data] 49)
    refine (eqPtrS_any _ _ _ _ _ _ _ _ _ _ _ _ _ (q1.below hbw) (q2.below hbw)).mono ?_
    rintro e w1 ⟨⟨x, rfl, hx⟩, hb1⟩
    have Hx : Hid (x = true ↔ PtrsEq s.kn t.kn s.ks s.kb t.ks t.kb) := hx
    have hb2 := below_next hbw hb1
    have e1 := hb1.cell (p := ⟨w.heap.size, 2, none⟩) (by simp; omega)
    have e2 := hb1.cell (p := ⟨w.heap.size + 1, 2, none⟩) (by simp)
    simp at e1 e2
    clear hx hb1 hbw
    cases x
    · go_wp2
      go_ret
      exact ⟨BoolIs.no fun h => absurd (Hx.out.2 h.2.1) (by simp), hb2⟩
    · by_cases h3 : s.data = t.data
      · have h3' := str_eq h3
        have H3 : Hid (s.data = t.data) := h3
        clear h3
        go_wp2
        go_ret
        exact ⟨BoolIs.yes ⟨H1.out, (by simpa using Hx.out), H3.out⟩, hb2⟩
      · have h3' := str_ne h3
        have H3 : Hid (¬ s.data = t.data) := h3
        clear h3
        go_wp2
        go_ret
        exact ⟨BoolIs.no fun h => H3.out h.2.2, hb2⟩
  · have hb : (s.birth != t.birth) = true := by simp [h1]
    have H1 : Hid (¬ s.birth = t.birth) := h1
    clear h1
    go_enter Try.func37, Try.ntmps37
    go_wp2
    go_ret
    exact ⟨BoolIs.no fun h => H1.out h.1, ((Below.refl _ _).alloc (Nat.le_refl _) _).alloc (by simp) _⟩

set_option maxRecDepth 20000 in
set_option maxHeartbeats 400000 in
theorem eqSlotS_any (v v' : Value) (n n' lo hi lo' hi' : Nat) (f f' : Nat → SlotD) (w : World) (h1 : SlotsAt w lo hi v n f) (h2 : SlotsAt w lo' hi' v' n' f') :
    Calls Try.prog 26 #[v, v'] w fun e w' => BoolIs (SlotsEq n n' f f') e ∧ Below w.heap.size w w' := by
  obtain ⟨m1, a, c, rfl, mc, g1⟩ := h1
  obtain ⟨m2, a', c', rfl, mc', g2⟩ := h2
  unfold maxLen at m1 m2
  by_cases hn : n = n'
  · subst hn
    have hne : ((n : Int) != (n : Int)) = false := by simp
    go_enter Try.func26, Try.ntmps26
    go_wp2
    go_loopw [5] (fun i wr => ∃ k : Nat, k ≤ n ∧ i = .int .i64 k ∧ (∀ j, j < k → SlotEq (f j) (f' j)) ∧ Below w.heap.size w wr) (fun i _ => n - (intOf i).toNat)
    case atStart => exact ⟨0, Nat.zero_le _, rfl, fun j h => absurd h (Nat.not_lt_zero _), Below.refl _ _⟩
    case round =>
      obtain ⟨k, hk, rfl, hall, hb⟩ := hrel
      have Hall : Hid (∀ j, j < k → SlotEq (f j) (f' j)) := hall
      clear hall
      by_cases hlt : k < n
      · have hlt' : (k : Int) < (n : Int) := by omega
        obtain ⟨b, off, rfl, _, _, k1⟩ := g1 (by omega)
        obtain ⟨b', off', rfl, _, _, k2⟩ := g2 (by omega)
        obtain ⟨x0, x1, x2, c0, c1, c2, hs⟩ := k1 k hlt
        obtain ⟨y0, y1, y2, d0, d1, d2, ht⟩ := k2 k hlt
        have hc0 := (hb.cell (lt_of_cell c0)).trans c0
        have hc1 := (hb.cell (lt_of_cell c1)).trans c1
        have hc2 := (hb.cell (lt_of_cell c2)).trans c2
        have hd0 := (hb.cell (lt_of_cell d0)).trans d0
        have hd1 := (hb.cell (lt_of_cell d1)).trans d1
        have hd2 := (hb.cell (lt_of_cell d2)).trans d2
        have hs' := hs.below hb
        have ht' := ht.below hb
        clear k1 k2 g1 g2 c0 c1 c2 d0 d1 d2 hs ht
        have hs2 := hs'
        have ht2 := ht'
        obtain ⟨rfl, ⟨_, sa, sc, rfl, _⟩, rfl, _⟩ := hs2
        obtain ⟨rfl, ⟨_, ta, tc, rfl, _⟩, rfl, _⟩ := ht2
        go_wp2_with fail
        go_region_held3 (fun w' => w'.cell? ⟨b, off + k * 3, none⟩ = some (.int .i64 (f k).birth) ∧ w'.cell? ⟨b, off + k * 3 + 1, none⟩ = some (.slice sa (f k).kn sc) ∧ w'.cell? ⟨b, off + k * 3 + 2, none⟩ = some (.string (f k).data) ∧ w'.cell? ⟨b', off' + k * 3, none⟩ = some (.int .i64 (f' k).birth) ∧ w'.cell? ⟨b', off' + k * 3 + 1, none⟩ = some (.slice ta (f' k).kn tc) ∧ w'.cell? ⟨b', off' + k * 3 + 2, none⟩ = some (.string (f' k).data)) (go_keep)
          (first | (go_at_call 37; refine (eqSlot_any _ _ _ _ _ _ lo hi lo' hi' (f k) (f' k) _ ?_ ?_).mono ?_; (exact hs'.below ((Below.refl _ _).drew)); (exact ht'.below ((Below.refl _ _).drew)); rintro e w1 ⟨⟨t, rfl, hx⟩, hb1⟩; have z1 := (hb1.cell (p := ⟨b, off + k * 3, none⟩) (lt_of_cell hc0)).trans hc0; have z2 := (hb1.cell (p := ⟨b, off + k * 3 + 1, none⟩) (lt_of_cell hc1)).trans hc1; have z3 := (hb1.cell (p := ⟨b, off + k * 3 + 2, none⟩) (lt_of_cell hc2)).trans hc2; have y1 := (hb1.cell (p := ⟨b', off' + k * 3, none⟩) (lt_of_cell hd0)).trans hd0; have y2 := (hb1.cell (p := ⟨b', off' + k * 3 + 1, none⟩) (lt_of_cell hd1)).trans hd1; have y3 := (hb1.cell (p := ⟨b', off' + k * 3 + 2, none⟩) (lt_of_cell hd2)).trans hd2))
        have Ht : Hid (t = true ↔ SlotEq (f k) (f' k)) := hx
        have hb2 := below_call hb hb1
        clear hx z1 z2 z3 y1 y2 y3 hc0 hc1 hc2 hd0 hd1 hd2 hb1
        cases t
        · go_wp2
          go_ret
          exact ⟨BoolIs.no fun h => absurd (Ht.out.2 (h.2 k hlt)) (by simp), hb2⟩
        · go_wp2
          go_roundw
          case rel => exact ⟨k + 1, by omega, by go_num, relNext hlt Hall.out (Ht.out.1 rfl), hb2⟩
          case measure => simp [intOf]; omega
      · go_wp2
        go_ret
        exact ⟨BoolIs.yes ⟨rfl, fun i hi => Hall.out i (by omega)⟩, hb⟩
  · have hne : ((n : Int) != (n' : Int)) = true := by simp; omega
    have Hn : Hid (¬ n = n') := hn
    clear hn
    go_enter Try.func26, Try.ntmps26
    go_wp2
    go_ret
    exact ⟨BoolIs.no fun h => Hn.out h.1, Below.refl _ _⟩

set_option maxRecDepth 20000 in
set_option maxHeartbeats 400000 in
theorem eqPool_any (v0 v1 u0 u1 : Value) (lo hi lo' hi' : Nat) (p q : PoolD) (w : World) (h1 : PoolAt w lo hi v0 v1 p) (h2 : PoolAt w lo' hi' u0 u1 q) :
    Calls Try.prog 17 #[.agg #[v0, v1], .agg #[u0, u1]] w fun e w' => BoolIs (PoolEq p q) e ∧ Below w.heap.size w w' := by
  have q1 := h1
  have q2 := h2
  obtain ⟨⟨_, a, c, rfl, _⟩, ⟨_, a1, c1, rfl, _⟩⟩ := h1
  obtain ⟨⟨_, b, d, rfl, _⟩, ⟨_, b1, d1, rfl, _⟩⟩ := h2
  go_enter Try.func17, Try.ntmps17
  go_wp2_with fail
  have hbw := ((Below.refl w.heap.size w).alloc (Nat.le_refl _) (.cells #[.slice a p.n c, .slice a1 p.hn c1] 25)).alloc (by simp) (.cells #[.slice b q.n d, .slice b1 q.hn d1] 25)
  refine (eqSlotS_any _ _ _ _ _ _ _ _ _ _ _ (q1.1.below hbw) (q2.1.below hbw)).mono ?_
  rintro e w1 ⟨⟨x, rfl, hx⟩, hb1⟩
  have Hx : Hid (x = true ↔ SlotsEq p.n q.n p.s q.s) := hx
  have hb2 := below_next hbw hb1
  have e1 := hb1.cell (p := ⟨w.heap.size, 1, none⟩) (by simp; omega)
  have e2 := hb1.cell (p := ⟨w.heap.size + 1, 1, none⟩) (by simp)
  simp at e1 e2
  clear hx hb1 hbw
  cases x
  · go_wp2
    go_ret
    exact ⟨BoolIs.no fun h => absurd (Hx.out.2 h.1) (by simp), hb2⟩
  · go_wp2_with fail
    refine (eqInt64S_any _ _ _ _ _ _ _ _ _ _ _ (q1.2.below hb2) (q2.2.below hb2)).mono ?_
    rintro e w2 ⟨⟨y, rfl, hy⟩, hb3⟩
    have Hy : Hid (y = true ↔ IntsEq p.hn q.hn p.h q.h) := hy
    have hb4 := below_next hb2 hb3
    clear hy hb3 hb2
    cases y
    · go_wp2
      go_ret
      exact ⟨BoolIs.no fun h => absurd (Hy.out.2 h.2) (by simp), hb4⟩
    · go_wp2
      go_ret
      exact ⟨BoolIs.yes ⟨(by simpa using Hx.out), (by simpa using Hy.out)⟩, hb4⟩

end Go.Proofs.Ytebegmdbpapfgaa

namespace Go.Proofs.Ytebegmdbpapfgaa
open Go.RowKit
set_option linter.unusedVariables false

theorem heldPool_own (lo hi : Nat) (v0 v1 : Value) (p : PoolD) (k0 : Int) (w : World) (h : PoolAt w lo hi v0 v1 (markP p k0)) (hk0 : 0 ≤ k0) (hk1 : endP p k0 ≤ 1000000000000) :
    Calls Try.prog 23 #[.agg #[v0, v1], .int .i64 k0] w fun e w' => e = .returned (.int .i64 (endP p k0)) ∧ Below w.heap.size w w' :=
  heldPool_any v0 v1 lo hi p k0 w h.1 h.2 hk0 hk1

end Go.Proofs.Ytebegmdbpapfgaa

namespace Go.Proofs.Ytebegmdbpapfgaa
open Go.RowKit
set_option linter.unusedVariables false

set_option maxRecDepth 20000 in
set_option maxHeartbeats 1000000 in
theorem heldSetS_any (v : Value) (n lo hi : Nat) (f : Nat → SetD) (k0 : Int) (w : World) (h1 : SetsAt w lo hi v n (markSetD f k0)) (hk0 : 0 ≤ k0) (hk1 : cntSet f k0 n ≤ 1000000000000) :
    Calls Try.prog 24 #[v, .int .i64 k0] w fun e w' => e = .returned (.int .i64 (cntSet f k0 n)) ∧ Below w.heap.size w w' := by
  have H1 := hideM h1
  obtain ⟨m1, a, c, rfl, mc, -⟩ := id h1
  unfold maxLen at m1
  have Hk1 := hideM hk1
  clear h1 hk1
  go_enter Try.func24, Try.ntmps24
  go_wp2
  go_loopw [1, 5] (fun m i wr => ∃ k : Nat, k ≤ n ∧ i = .int .i64 k ∧ m = .int .i64 (cntSet f k0 k) ∧ Below w.heap.size w wr) (fun _ i _ => n - (intOf i).toNat)
  case atStart => exact ⟨0, Nat.zero_le _, rfl, rfl, Below.refl _ _⟩
  case round =>
    obtain ⟨k, hk, rfl, rfl, hb⟩ := hrel
    by_cases hlt : k < n
    · have hlt' : (k : Int) < (n : Int) := by omega
      have hc0 : k0 ≤ cntSet f k0 k := cntSet_le f k0 (Nat.zero_le k)
      have hc1 : cntSet f k0 k + 5 + 2 * ((f k).dn : Int) ≤ 1000000000000 := Int.le_trans (cntSet_le f k0 (show k + 1 ≤ n from hlt)) Hk1.out
      obtain ⟨b, off, vd, rfl, hs2⟩ := (H1.out.below hb).cells hlt
      obtain ⟨-, ad, cd, rfl, -, -⟩ := id hs2.dead
      have q0 : wr.cell? ⟨b, off + k * 6, none⟩ = some (.string (mtF (cntSet f k0 k))) := hs2.c0
      have q1 : wr.cell? ⟨b, off + k * 6 + 1, none⟩ = some (.int .i64 (cntSet f k0 k + 1)) := hs2.c1
      have q2 : wr.cell? ⟨b, off + k * 6 + 2, none⟩ = some (.int .i64 (cntSet f k0 k + 1 + 1)) := hs2.c2
      have q3 : wr.cell? ⟨b, off + k * 6 + 3, none⟩ = some (.int .i64 (cntSet f k0 k + 1 + 1 + 1)) := hs2.c3
      have q4 : wr.cell? ⟨b, off + k * 6 + 4, none⟩ = some (.int .i64 (cntSet f k0 k + 1 + 1 + 1 + 1)) := hs2.c4
      have q5 := hs2.c5
      have Hd := hideM (show PtrsAt wr lo hi (.slice ad (f k).dn cd) (f k).dn (fun i => cntSet f k0 k + 1 + 1 + 1 + 1 + 1 + 2 * i) (fun i => cntSet f k0 k + 1 + 1 + 1 + 1 + 1 + 2 * i + 1) from hs2.dead)
      clear hs2
      go_wp2_with fail
      have hse1 := str_eq (rfl : mtF (cntSet f k0 k) = mtF (cntSet f k0 k))
      go_region_held3 (fun w' => w'.cell? ⟨b, off + k * 6, none⟩ = some (.string (mtF (cntSet f k0 k)))) (go_keep)
        (first | (go_at_call 32; refine (markText_any _ _ (by omega)).mono ?_; rintro e w1 ⟨rfl, hm1⟩; have hm1' := below_undrew hm1; have z1 := (hm1'.cell (p := ⟨b, off + k * 6, none⟩) (lt_of_cell q0)).trans q0))
      have hb1 := below_next hb hm1'
      replace q0 := (hm1'.cell (lt_of_cell q0)).trans q0
      replace q1 := (hm1'.cell (lt_of_cell q1)).trans q1
      replace q2 := (hm1'.cell (lt_of_cell q2)).trans q2
      replace q3 := (hm1'.cell (lt_of_cell q3)).trans q3
      replace q4 := (hm1'.cell (lt_of_cell q4)).trans q4
      replace q5 := (hm1'.cell (lt_of_cell q5)).trans q5
      have Hd1 := hideM (Hd.out.below hm1')
      clear hm1 hm1' z1 hse1
      go_wp2_with fail
      refine (heldPtrS_any _ (f k).dn lo hi _ _ _ _ Hd1.out (by omega) (by omega) (fun i hi => ⟨rfl, rfl⟩)).mono ?_
      rintro e wz ⟨rfl, hbz⟩
      have hB := below_next hb1 hbz
      have hnn : ¬ cntSet f k0 k + 1 + 1 + 1 + 1 + 1 + 2 * ((f k).dn : Int) < 0 := by omega
      clear q0 q1 q2 q3 q4 q5 hbz
      go_wp2
      go_roundw
      case rel => exact ⟨k + 1, by omega, by go_num, congrArg (Value.int .i64) (by show _ = cntSet f k0 k + 5 + 2 * ((f k).dn : Int); omega), hB⟩
      case measure => simp [intOf]; omega
    · obtain rfl : k = n := by omega
      go_wp2
      go_ret
      exact ⟨rfl, hb⟩

set_option maxRecDepth 20000 in
set_option maxHeartbeats 1000000 in
theorem heldSnapS_any (v : Value) (n lo hi : Nat) (f : Nat → SnapD) (k0 : Int) (w : World) (h1 : SnapsAt w lo hi v n (markSnapD f k0)) (hk0 : 0 ≤ k0) (hk1 : cntSnap f k0 n ≤ 1000000000000) :
    Calls Try.prog 25 #[v, .int .i64 k0] w fun e w' => e = .returned (.int .i64 (cntSnap f k0 n)) ∧ Below w.heap.size w w' := by
  have H1 := hideM h1
  obtain ⟨m1, a, c, rfl, mc, -⟩ := id h1
  unfold maxLen at m1
  have Hk1 := hideM hk1
  clear h1 hk1
  go_enter Try.func25, Try.ntmps25
  go_wp2
  go_loopw [1, 5] (fun m i wr => ∃ k : Nat, k ≤ n ∧ i = .int .i64 k ∧ m = .int .i64 (cntSnap f k0 k) ∧ Below w.heap.size w wr) (fun _ i _ => n - (intOf i).toNat)
  case atStart => exact ⟨0, Nat.zero_le _, rfl, rfl, Below.refl _ _⟩
  case round =>
    obtain ⟨k, hk, rfl, rfl, hb⟩ := hrel
    by_cases hlt : k < n
    · have hlt' : (k : Int) < (n : Int) := by omega
      have hc0 : k0 ≤ cntSnap f k0 k := cntSnap_le f k0 (Nat.zero_le k)
      have hc1 : cntSnap f k0 k + 7 + 2 * ((f k).dn : Int) ≤ 1000000000000 := Int.le_trans (cntSnap_le f k0 (show k + 1 ≤ n from hlt)) Hk1.out
      obtain ⟨b, off, vd, rfl, hs2⟩ := (H1.out.below hb).cells hlt
      obtain ⟨-, ad, cd, rfl, -, -⟩ := id hs2.dead
      have q0 : wr.cell? ⟨b, off + k * 8, none⟩ = some (.int .i64 (cntSnap f k0 k)) := hs2.c0
      have q1 : wr.cell? ⟨b, off + k * 8 + 1, none⟩ = some (.string (mtF (cntSnap f k0 k + 1))) := hs2.c1
      have q2 : wr.cell? ⟨b, off + k * 8 + 2, none⟩ = some (.string (mtF (cntSnap f k0 k + 1 + 1))) := hs2.c2
      have q3 : wr.cell? ⟨b, off + k * 8 + 3, none⟩ = some (.int .i64 (cntSnap f k0 k + 1 + 1 + 1)) := hs2.c3
      have q4 : wr.cell? ⟨b, off + k * 8 + 4, none⟩ = some (.int .i64 (cntSnap f k0 k + 1 + 1 + 1 + 1)) := hs2.c4
      have q5 : wr.cell? ⟨b, off + k * 8 + 5, none⟩ = some (.int .i64 (cntSnap f k0 k + 1 + 1 + 1 + 1 + 1)) := hs2.c5
      have q6 : wr.cell? ⟨b, off + k * 8 + 6, none⟩ = some (.int .i64 (cntSnap f k0 k + 1 + 1 + 1 + 1 + 1 + 1)) := hs2.c6
      have q7 := hs2.c7
      have Hd := hideM (show PtrsAt wr lo hi (.slice ad (f k).dn cd) (f k).dn (fun i => cntSnap f k0 k + 1 + 1 + 1 + 1 + 1 + 1 + 1 + 2 * i) (fun i => cntSnap f k0 k + 1 + 1 + 1 + 1 + 1 + 1 + 1 + 2 * i + 1) from hs2.dead)
      clear hs2
      go_wp2_with fail
      have hse1 := str_eq (rfl : mtF (cntSnap f k0 k + 1) = mtF (cntSnap f k0 k + 1))
      go_region_held3 (fun w' => w'.cell? ⟨b, off + k * 8 + 1, none⟩ = some (.string (mtF (cntSnap f k0 k + 1)))) (go_keep)
        (first | (go_at_call 32; refine (markText_any _ _ (by omega)).mono ?_; rintro e w1 ⟨rfl, hm1⟩; have hm1' := below_undrew hm1; have z1 := (hm1'.cell (p := ⟨b, off + k * 8 + 1, none⟩) (lt_of_cell q1)).trans q1))
      have hb1 := below_next hb hm1'
      replace q0 := (hm1'.cell (lt_of_cell q0)).trans q0
      replace q1 := (hm1'.cell (lt_of_cell q1)).trans q1
      replace q2 := (hm1'.cell (lt_of_cell q2)).trans q2
      replace q3 := (hm1'.cell (lt_of_cell q3)).trans q3
      replace q4 := (hm1'.cell (lt_of_cell q4)).trans q4
      replace q5 := (hm1'.cell (lt_of_cell q5)).trans q5
      replace q6 := (hm1'.cell (lt_of_cell q6)).trans q6
      replace q7 := (hm1'.cell (lt_of_cell q7)).trans q7
      have Hd1 := hideM (Hd.out.below hm1')
      clear hm1 hm1' z1 hse1
      go_wp2_with fail
      have hse2 := str_eq (rfl : mtF (cntSnap f k0 k + 1 + 1) = mtF (cntSnap f k0 k + 1 + 1))
      go_region_held3 (fun w' => w'.cell? ⟨b, off + k * 8 + 2, none⟩ = some (.string (mtF (cntSnap f k0 k + 1 + 1)))) (go_keep)
        (first | (go_at_call 32; refine (markText_any _ _ (by omega)).mono ?_; rintro e w2 ⟨rfl, hm2⟩; have hm2' := below_undrew hm2; have z2 := (hm2'.cell (p := ⟨b, off + k * 8 + 2, none⟩) (lt_of_cell q2)).trans q2))
      have hb2 := below_next hb1 hm2'
      replace q0 := (hm2'.cell (lt_of_cell q0)).trans q0
      replace q1 := (hm2'.cell (lt_of_cell q1)).trans q1
      replace q2 := (hm2'.cell (lt_of_cell q2)).trans q2
      replace q3 := (hm2'.cell (lt_of_cell q3)).trans q3
      replace q4 := (hm2'.cell (lt_of_cell q4)).trans q4
      replace q5 := (hm2'.cell (lt_of_cell q5)).trans q5
      replace q6 := (hm2'.cell (lt_of_cell q6)).trans q6
      replace q7 := (hm2'.cell (lt_of_cell q7)).trans q7
      have Hd2 := hideM (Hd1.out.below hm2')
      clear hm2 hm2' z2 hse2
      go_wp2_with fail
      refine (heldPtrS_any _ (f k).dn lo hi _ _ _ _ Hd2.out (by omega) (by omega) (fun i hi => ⟨rfl, rfl⟩)).mono ?_
      rintro e wz ⟨rfl, hbz⟩
      have hB := below_next hb2 hbz
      have hnn : ¬ cntSnap f k0 k + 1 + 1 + 1 + 1 + 1 + 1 + 1 + 2 * ((f k).dn : Int) < 0 := by omega
      clear q0 q1 q2 q3 q4 q5 q6 q7 hbz
      go_wp2
      go_roundw
      case rel => exact ⟨k + 1, by omega, by go_num, congrArg (Value.int .i64) (by show _ = cntSnap f k0 k + 7 + 2 * ((f k).dn : Int); omega), hB⟩
      case measure => simp [intOf]; omega
    · obtain rfl : k = n := by omega
      go_wp2
      go_ret
      exact ⟨rfl, hb⟩

set_option maxRecDepth 20000 in
set_option maxHeartbeats 400000 in
theorem heldWorld_any (lo hi : Nat) (v0 v1 v2 v3 : Value) (W : WorldD) (k0 : Int) (w : World) (h : WorldAt w lo hi v0 v1 v2 v3 (markW W k0)) (hk0 : 0 ≤ k0) (hk1 : endW W k0 ≤ 1000000000000) :
    Calls Try.prog 13 #[worldV v0 v1 v2 v3 W, .int .i64 k0] w fun e w' => e = .returned (.int .i64 (endW W k0)) ∧ Below w.heap.size w w' := by
  have H := hideM h
  have HE := hideM (endW_le W k0)
  have HK := hideM hk1
  clear h hk1
  have ha := below_alloc w (.cells #[v0, v1, .int .i64 W.time, .int .i64 W.next, v2, v3] 29)
  have HB := hideM (Box6.new w v0 v1 (.int .i64 W.time) (.int .i64 W.next) v2 v3 29)
  obtain ⟨⟨x0, -⟩, ⟨x1, -⟩, ⟨x2, -⟩, ⟨x3, -⟩, ⟨x4, -⟩, ⟨x5, -⟩⟩ := HB.out
  go_enter Try.func13, Try.ntmps13
  go_wp2_with fail
  clear x0 x1 x2 x3 x4 x5
  generalize w.alloc (.cells #[v0, v1, .int .i64 W.time, .int .i64 W.next, v2, v3] 29) = W0 at ha HB ⊢
  refine (heldPool_own lo hi _ _ W.pool k0 W0 (H.out.pool.below ha) hk0 (by have := HE.out; have := HK.out; omega)).mono ?_
  rintro e w1 ⟨rfl, hb1⟩
  have hB1 := below_next ha hb1
  have HB1 := hideM (HB.out.below hb1)
  have n1 : ¬ endP W.pool k0 < 0 := by have := HE.out; omega
  clear hb1 ha HB
  obtain ⟨⟨x0, -⟩, ⟨x1, -⟩, ⟨x2, -⟩, ⟨x3, -⟩, ⟨x4, -⟩, ⟨x5, -⟩⟩ := HB1.out
  go_wp2_with fail
  clear x0 x1 x2 x3 x4 x5
  refine (heldSetS_any _ W.sn lo hi W.sets _ w1 (H.out.sets.below hB1) (by have := HE.out; omega) (by have := HE.out; have := HK.out; omega)).mono ?_
  rintro e w2 ⟨rfl, hb2⟩
  have hB2 := below_next hB1 hb2
  have HB2 := hideM (HB1.out.below hb2)
  have n2 : ¬ cntSet W.sets (endP W.pool k0) W.sn < 0 := by have := HE.out; omega
  clear hb2 hB1 HB1
  obtain ⟨⟨x0, -⟩, ⟨x1, -⟩, ⟨x2, -⟩, ⟨x3, -⟩, ⟨x4, -⟩, ⟨x5, -⟩⟩ := HB2.out
  go_wp2_with fail
  clear x0 x1 x2 x3 x4 x5
  refine (heldSnapS_any _ W.pn lo hi W.snaps _ w2 (H.out.snaps.below hB2) (by have := HE.out; omega) (by have := HE.out; have := HK.out; unfold endW at *; omega)).mono ?_
  rintro e w3 ⟨rfl, hb3⟩
  have hB3 := below_next hB2 hb3
  have n3 : ¬ cntSnap W.snaps (cntSet W.sets (endP W.pool k0) W.sn) W.pn < 0 := by have := HE.out; unfold endW at *; omega
  clear hb3 hB2 HB2
  go_wp2
  go_ret
  exact ⟨rfl, hB3⟩

end Go.Proofs.Ytebegmdbpapfgaa

namespace Go.Proofs.Ytebegmdbpapfgaa
open Go.RowKit
set_option linter.unusedVariables false

def markSt (S : StoreD) (k0 : Int) : StoreD := ⟨markW S.live k0, markW S.safe (endW S.live k0)⟩
def endSt (S : StoreD) (k0 : Int) : Int := endW S.safe (endW S.live k0)
theorem endW_mono (W : WorldD) (k0 : Int) : k0 ≤ endW W k0 := by have := endW_le W k0; omega

set_option maxRecDepth 20000 in
set_option maxHeartbeats 400000 in
theorem markStore_any (lo hi : Nat) (v0 v1 v2 v3 u0 u1 u2 u3 : Value) (S : StoreD) (k0 : Int) (w : World) (h : StoreOwn w lo hi v0 v1 v2 v3 u0 u1 u2 u3 S) (hh : hi ≤ w.heap.size) (hk0 : 0 ≤ k0) (hk1 : endSt S k0 ≤ 1000000000000) :
    Calls Try.prog 7 #[storeV v0 v1 v2 v3 u0 u1 u2 u3 S, .int .i64 k0] w fun e w' => e = .returned (.int .i64 (endSt S k0)) ∧ StoreOwn w' lo hi v0 v1 v2 v3 u0 u1 u2 u3 (markSt S k0) ∧ Turned (fun k => lo ≤ k ∧ k < hi) w w' := by
  obtain ⟨l1, h1, l2, h2, hL, hF, c1, c2, c3, c4, c5⟩ := h
  have HL := hideM hL
  have HF := hideM hF
  have HC := hideM (And.intro c1 (And.intro c2 (And.intro c3 (And.intro c4 (And.intro c5 hh)))))
  have HE := hideM (And.intro (endW_mono S.live k0) (endW_mono S.safe (endW S.live k0)))
  have HK := hideM hk1
  clear hL hF c1 c2 c3 c4 c5 hk1
  have ha := below_alloc w (.cells #[v0, v1, .int .i64 S.live.time, .int .i64 S.live.next, v2, v3, u0, u1, .int .i64 S.safe.time, .int .i64 S.safe.next, u2, u3] 31)
  have HB := hideM (Box12.new w v0 v1 (.int .i64 S.live.time) (.int .i64 S.live.next) v2 v3 u0 u1 (.int .i64 S.safe.time) (.int .i64 S.safe.next) u2 u3 31)
  obtain ⟨⟨x0, -⟩, ⟨x1, -⟩, ⟨x2, -⟩, ⟨x3, -⟩, ⟨x4, -⟩, ⟨x5, -⟩, ⟨x6, -⟩, ⟨x7, -⟩, ⟨x8, -⟩, ⟨x9, -⟩, ⟨x10, -⟩, ⟨x11, -⟩⟩ := HB.out
  go_enter Try.func7, Try.ntmps7
  go_wp2_with fail
  clear x0 x1 x2 x3 x4 x5 x6 x7 x8 x9 x10 x11
  generalize w.alloc (.cells #[v0, v1, .int .i64 S.live.time, .int .i64 S.live.next, v2, v3, u0, u1, .int .i64 S.safe.time, .int .i64 S.safe.next, u2, u3] 31) = W0 at ha HB ⊢
  refine (markWorld_any l1 h1 v0 v1 v2 v3 S.live k0 W0 (HL.out.below ha) hk0 (by have h1 := HE.out; have h2 := HK.out; unfold endSt at h2; omega)).mono ?_
  rintro e w1 ⟨rfl, g1, ht1⟩
  have G1 := hideM g1
  have HT1 := hideM ht1
  have cc := HC.out
  have HB1 := hideM (HB.out.turned ht1 (fun x => by omega))
  have HF1 := hideM ((HF.out.below ha).turned ht1 (fun k hk => by omega))
  clear g1 ht1 HB cc
  obtain ⟨⟨x0, -⟩, ⟨x1, -⟩, ⟨x2, -⟩, ⟨x3, -⟩, ⟨x4, -⟩, ⟨x5, -⟩, ⟨x6, -⟩, ⟨x7, -⟩, ⟨x8, -⟩, ⟨x9, -⟩, ⟨x10, -⟩, ⟨x11, -⟩⟩ := HB1.out
  go_wp2_with fail
  clear x0 x1 x2 x3 x4 x5 x6 x7 x8 x9 x10 x11
  refine (markWorld_any l2 h2 u0 u1 u2 u3 S.safe _ w1 HF1.out (by have := HE.out; omega) HK.out).mono ?_
  rintro e w2 ⟨rfl, g2, ht2⟩
  have G2 := hideM g2
  have HT2 := hideM ht2
  clear g2 ht2
  go_wp2
  go_ret
  have cc := HC.out
  refine ⟨rfl, ⟨l1, h1, l2, h2, G1.out.turned HT2.out (fun k hk => by omega), G2.out, by omega, by omega, by omega, by omega, by omega⟩, ?_⟩
  refine ((Turned.of_below ha).trans (HT1.out.mono ?_)).trans (HT2.out.mono ?_)
  · exact fun k hk => by omega
  · exact fun k hk => by omega

set_option maxRecDepth 20000 in
set_option maxHeartbeats 400000 in
theorem heldStore_any (lo hi : Nat) (v0 v1 v2 v3 u0 u1 u2 u3 : Value) (S : StoreD) (k0 : Int) (w : World) (h : StoreAt w lo hi v0 v1 v2 v3 u0 u1 u2 u3 (markSt S k0)) (hk0 : 0 ≤ k0) (hk1 : endSt S k0 ≤ 1000000000000) :
    Calls Try.prog 8 #[storeV v0 v1 v2 v3 u0 u1 u2 u3 S, .int .i64 k0] w fun e w' => e = .returned (.int .i64 (endSt S k0)) ∧ Below w.heap.size w w' := by
  have H := hideM h
  have HE := hideM (And.intro (endW_mono S.live k0) (endW_mono S.safe (endW S.live k0)))
  have HK := hideM hk1
  clear h hk1
  have ha := below_alloc w (.cells #[v0, v1, .int .i64 S.live.time, .int .i64 S.live.next, v2, v3, u0, u1, .int .i64 S.safe.time, .int .i64 S.safe.next, u2, u3] 31)
  have HB := hideM (Box12.new w v0 v1 (.int .i64 S.live.time) (.int .i64 S.live.next) v2 v3 u0 u1 (.int .i64 S.safe.time) (.int .i64 S.safe.next) u2 u3 31)
  obtain ⟨⟨x0, -⟩, ⟨x1, -⟩, ⟨x2, -⟩, ⟨x3, -⟩, ⟨x4, -⟩, ⟨x5, -⟩, ⟨x6, -⟩, ⟨x7, -⟩, ⟨x8, -⟩, ⟨x9, -⟩, ⟨x10, -⟩, ⟨x11, -⟩⟩ := HB.out
  go_enter Try.func8, Try.ntmps8
  go_wp2_with fail
  clear x0 x1 x2 x3 x4 x5 x6 x7 x8 x9 x10 x11
  generalize w.alloc (.cells #[v0, v1, .int .i64 S.live.time, .int .i64 S.live.next, v2, v3, u0, u1, .int .i64 S.safe.time, .int .i64 S.safe.next, u2, u3] 31) = W0 at ha HB ⊢
  refine (heldWorld_any lo hi v0 v1 v2 v3 S.live k0 W0 (H.out.live.below ha) hk0 (by have h1 := HE.out; have h2 := HK.out; unfold endSt at h2; omega)).mono ?_
  rintro e w1 ⟨rfl, hb1⟩
  have hB1 := below_next ha hb1
  have HB1 := hideM (HB.out.below hb1)
  have n1 : ¬ endW S.live k0 < 0 := by have := HE.out; omega
  clear hb1 ha HB
  obtain ⟨⟨x0, -⟩, ⟨x1, -⟩, ⟨x2, -⟩, ⟨x3, -⟩, ⟨x4, -⟩, ⟨x5, -⟩, ⟨x6, -⟩, ⟨x7, -⟩, ⟨x8, -⟩, ⟨x9, -⟩, ⟨x10, -⟩, ⟨x11, -⟩⟩ := HB1.out
  go_wp2_with fail
  clear x0 x1 x2 x3 x4 x5 x6 x7 x8 x9 x10 x11
  refine (heldWorld_any lo hi u0 u1 u2 u3 S.safe _ w1 (H.out.safe.below hB1) (by have := HE.out; omega) HK.out).mono ?_
  rintro e w2 ⟨rfl, hb2⟩
  have hB2 := below_next hB1 hb2
  have n2 : ¬ endW S.safe (endW S.live k0) < 0 := by have := HE.out; omega
  clear hb2 hB1 HB1
  go_wp2
  go_ret
  exact ⟨rfl, hB2⟩

end Go.Proofs.Ytebegmdbpapfgaa
