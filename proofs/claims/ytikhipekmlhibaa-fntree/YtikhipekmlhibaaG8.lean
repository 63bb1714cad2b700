/- What spec.l01Points, spec.l01Fits and spec.PoolRight answer. -/
import Derived.Test.YtikhipekmlhibaaG2
import Derived.Test.YtikhipekmlhibaaG1
import Derived.Deep.RegionWith
import Derived.Test.YtikhipekmlhibaaG6
import Derived.Test.YtikhipekmlhibaaG7
import Derived.Deep.RegionLawGrows
namespace Go.Proofs.Ytikhipekmlhibaa
open Go.RowKit
set_option linter.unusedVariables false

set_option maxRecDepth 20000 in
set_option maxHeartbeats 1000000 in
theorem l01Points_any (v0 v1 : Value) (lo hi : Nat) (p : PoolD) (xs xb : Int) (w : World) (h1 : PoolAt w lo hi v0 v1 p) :
    Calls Try.prog 58 #[.agg #[v0, v1], .agg #[.int .i64 xs, .int .i64 xb]] w fun e w' => BoolIs (Points p xs xb) e ∧ Below w.heap.size w w' := by
  obtain ⟨⟨m1, a, c, rfl, mc, g1⟩, ⟨_, a', c', rfl, _⟩⟩ := h1
  unfold maxLen at m1
  have G1 : Hid (0 < p.n → ∃ b off, a = some ⟨b, off, none⟩ ∧ lo ≤ b ∧ b < hi ∧ ∀ i, i < p.n → ∃ v0 v1 v2, w.cell? ⟨b, off + i * 3, none⟩ = some v0 ∧ w.cell? ⟨b, off + i * 3 + 1, none⟩ = some v1 ∧ w.cell? ⟨b, off + i * 3 + 2, none⟩ = some v2 ∧ SlotAt w lo hi v0 v1 v2 (p.s i)) := g1
  clear g1
  have hbw := ((Below.refl w.heap.size w).alloc (Nat.le_refl _) (.cells #[.slice a p.n c, .slice a' p.hn c'] 26)).alloc (by simp) (.cells #[.int .i64 xs, .int .i64 xb] 33)
  have Hbw : Hid (Below w.heap.size w ((w.alloc (.cells #[.slice a p.n c, .slice a' p.hn c'] 26)).alloc (.cells #[.int .i64 xs, .int .i64 xb] 33))) := hbw
  clear hbw
  by_cases h1 : 1 ≤ xb
  · by_cases h2 : 0 ≤ xs
    · by_cases h3 : xs < p.n
      · obtain ⟨x, rfl⟩ := Int.eq_ofNat_of_zero_le h2
        have h3n : x < p.n := by omega
        obtain ⟨b, off, rfl, _, _, k1⟩ := G1.out (by omega)
        obtain ⟨x0, x1, x2, c0, c1, c2, hs⟩ := k1 x h3n
        obtain ⟨rfl, _⟩ := hs
        have hlt := lt_of_cell c0
        clear k1 G1 c1 c2
        by_cases h4 : (p.s x).birth = xb
        · have H : Hid (Points p x xb) := ⟨h1, h2, h3, by rw [Int.toNat_natCast]; exact h4⟩
          have e4 : ((p.s x).birth == xb) = true := by simp [h4]
          clear h4
          go_enter Try.func58, Try.ntmps58
          go_wp2_with fail
          go_quiet (fail)
          go_wp2
          go_ret
          exact ⟨BoolIs.yes H.out, below_drewN Hbw.out _⟩
        · have H : Hid (¬ Points p x xb) := fun h => h4 (by have := h.2.2.2; rw [Int.toNat_natCast] at this; exact this)
          have e4 : ((p.s x).birth == xb) = false := by simp [h4]
          clear h4
          go_enter Try.func58, Try.ntmps58
          go_wp2_with fail
          go_quiet (fail)
          go_wp2
          go_ret
          exact ⟨BoolIs.no H.out, below_drewN Hbw.out _⟩
      · have H : Hid (¬ Points p xs xb) := fun h => h3 h.2.2.1
        have e3 : decide (xs < (p.n : Int)) = false := by simpa using h3
        go_enter Try.func58, Try.ntmps58
        go_wp2_with fail
        go_quiet (fail)
        go_wp2
        go_ret
        exact ⟨BoolIs.no H.out, below_drewN Hbw.out _⟩
    · have H : Hid (¬ Points p xs xb) := fun h => h2 h.2.1
      have e3 : decide (0 ≤ xs) = false := by simpa using h2
      go_enter Try.func58, Try.ntmps58
      go_wp2_with fail
      go_quiet (fail)
      go_wp2
      go_ret
      exact ⟨BoolIs.no H.out, below_drewN Hbw.out _⟩
  · have H : Hid (¬ Points p xs xb) := fun h => h1 h.1
    have e3 : decide (1 ≤ xb) = false := by simpa using h1
    go_enter Try.func58, Try.ntmps58
    go_wp2_with fail
    go_quiet (fail)
    go_wp2
    go_ret
    exact ⟨BoolIs.no H.out, below_drewN Hbw.out _⟩

theorem Box2.two (w : World) (v0 v1 : Value) (t : TypeId) (o : Obj) : Box2 ((w.alloc (.cells #[v0, v1] t)).alloc o) w.heap.size v0 v1 := (Box2.new w v0 v1 t).below (below_alloc _ _)
theorem Box3.second (w : World) (v0 v1 v2 : Value) (t : TypeId) (o : Obj) : Box3 ((w.alloc o).alloc (.cells #[v0, v1, v2] t)) (w.heap.size + 1) v0 v1 v2 := by
  have := Box3.new (w.alloc o) v0 v1 v2 t
  rw [World.size_alloc] at this
  exact this

set_option maxRecDepth 20000 in
set_option maxHeartbeats 1000000 in
theorem l01Fits_any (v0 v1 s0 s1 s2 : Value) (lo hi lo' hi' : Nat) (p : PoolD) (s : SlotD) (w : World) (h1 : PoolAt w lo hi v0 v1 p) (h2 : SlotAt w lo' hi' s0 s1 s2 s) :
    Calls Try.prog 47 #[.agg #[v0, v1], .agg #[s0, s1, s2]] w fun e w' => BoolIs (Fits p s) e ∧ Below w.heap.size w w' := by
  have Hp : Hid (PoolAt w lo hi v0 v1 p) := h1
  obtain ⟨⟨m1, a, c, rfl, _⟩, ⟨_, a', c', rfl, _⟩⟩ := h1
  obtain ⟨rfl, hk, rfl, m3⟩ := h2
  obtain ⟨m2, ka, kc, rfl, mkc, g1⟩ := hk
  have G1 : Hid (0 < s.kn → ∃ b off, ka = some ⟨b, off, none⟩ ∧ lo' ≤ b ∧ b < hi' ∧ ∀ i, i < s.kn → w.cell? ⟨b, off + i * 2, none⟩ = some (.int .i64 (s.ks i)) ∧ w.cell? ⟨b, off + i * 2 + 1, none⟩ = some (.int .i64 (s.kb i))) := g1
  clear g1
  unfold maxLen at m1 m2 m3
  have hbw := ((Below.refl w.heap.size w).alloc (Nat.le_refl _) (.cells #[.slice a p.n c, .slice a' p.hn c'] 26)).alloc (by simp) (.cells #[.int .i64 s.birth, .slice ka s.kn kc, .string s.data] 29)
  have Hbw : Hid (Below w.heap.size w ((w.alloc (.cells #[.slice a p.n c, .slice a' p.hn c'] 26)).alloc (.cells #[.int .i64 s.birth, .slice ka s.kn kc, .string s.data] 29))) := hbw
  clear hbw
  by_cases hB : BirthOk s.birth
  · by_cases hk0 : s.kn = 0
    · have e2 : ((s.kn : Int) == 0) = true := by simp [hk0]
      by_cases hd : s.data.size = 16
      · have H : Hid (Fits p s) := ⟨hB, Or.inl ⟨hk0, hd⟩⟩
        have HB : Hid (BirthOk s.birth) := hB
        have e3 : ((s.data.size : Int) == 16) = true := by simp [hd]
        clear hk0 hd hB
        go_enter Try.func47, Try.ntmps47
        go_wp2_with (go_at_call 94; refine (l01Birth_any _ _).mono ?_; rintro e w' ⟨⟨t, rfl, ht⟩, rfl⟩; obtain rfl : t = true := ht.2 HB.out; clear ht)
        go_ret
        exact ⟨BoolIs.yes H.out, Hbw.out⟩
      · have H : Hid (¬ Fits p s) := fun h => by
          rcases h.2 with h | h
          · exact hd h.2
          · omega
        have HB : Hid (BirthOk s.birth) := hB
        have e3 : ((s.data.size : Int) == 16) = false := by simp; omega
        clear hk0 hd hB
        go_enter Try.func47, Try.ntmps47
        go_wp2_with (go_at_call 94; refine (l01Birth_any _ _).mono ?_; rintro e w' ⟨⟨t, rfl, ht⟩, rfl⟩; obtain rfl : t = true := ht.2 HB.out; clear ht)
        go_ret
        exact ⟨BoolIs.no H.out, Hbw.out⟩
    · have e2 : ((s.kn : Int) == 0) = false := by simp; omega
      by_cases hk8 : s.kn = 8
      · by_cases hd : s.data.toList.isEmpty = true
        · have HB : Hid (BirthOk s.birth) := hB
          have e3 : ((s.kn : Int) != 8) = false := by simp; omega
          have H8 : Hid (s.kn = 8) := hk8
          have hk8' : (s.kn : Int) ≤ 8 := by omega
          clear hk8 hB hk0
          have HD : Hid (s.data.toList.isEmpty = true) := hd
          go_enter Try.func47, Try.ntmps47
          go_wp2_with (go_at_call 94; refine (l01Birth_any _ _).mono ?_; rintro e w' ⟨⟨t, rfl, ht⟩, rfl⟩; obtain rfl : t = true := ht.2 HB.out; clear ht)
          go_loopw [5] (fun i wr => ∃ k : Nat, k ≤ s.kn ∧ i = .int .i64 k ∧ (∀ j, j < k → KidOk p s.birth (s.ks j) (s.kb j)) ∧ Box2 wr w.heap.size (.slice a p.n c) (.slice a' p.hn c') ∧ Box3 wr (w.heap.size + 1) (.int .i64 s.birth) (.slice ka s.kn kc) (.string s.data) ∧ Below w.heap.size w wr) (fun i _ => s.kn - (intOf i).toNat)
          case atStart => exact ⟨0, Nat.zero_le _, rfl, fun j hj => absurd hj (Nat.not_lt_zero _), Box2.two _ _ _ _ _, Box3.second _ _ _ _ _ _, Hbw.out⟩
          case round =>
            obtain ⟨k, hk, rfl, hall, hx2, hx3, hb⟩ := hrel
            have Hall : Hid (∀ j, j < k → KidOk p s.birth (s.ks j) (s.kb j)) := hall
            have Hx2 : Hid (Box2 wr w.heap.size (.slice a p.n c) (.slice a' p.hn c')) := hx2
            have Hx3 : Hid (Box3 wr (w.heap.size + 1) (.int .i64 s.birth) (.slice ka s.kn kc) (.string s.data)) := hx3
            clear hall hx2 hx3
            have hz0 : w.heap.size < wr.heap.size := Hx2.out.1.lt
            have hz1 : w.heap.size + 1 < wr.heap.size := Hx3.out.1.lt
            obtain ⟨⟨y0, y1⟩, ⟨y2, y3⟩⟩ := Hx2.out
            obtain ⟨⟨z0, z1⟩, ⟨z2, z3⟩, ⟨z4, z5⟩⟩ := Hx3.out
            by_cases hlt : k < s.kn
            · have hlt' : (k : Int) < (s.kn : Int) := by omega
              obtain ⟨b, off, rfl, _, _, k1⟩ := G1.out (by omega)
              have hc1 := (hb.cell (lt_of_cell (k1 k hlt).1)).trans (k1 k hlt).1
              have hd1 := (hb.cell (lt_of_cell (k1 k hlt).2)).trans (k1 k hlt).2
              clear k1 G1
              go_wp2_with fail
              have hal := below_alloc wr (.cells #[.int .i64 (s.ks k), .int .i64 (s.kb k)] 33)
              refine (l01None_any _ _ _).mono ?_
              rintro e w1 ⟨⟨t, rfl, ht⟩, hb1⟩
              have HX2 : Hid (Box2 w1 w.heap.size (.slice a p.n c) (.slice a' p.hn c')) := (Hx2.out.below hal).below hb1
              have HX3 : Hid (Box3 w1 (w.heap.size + 1) (.int .i64 s.birth) (.slice (some ⟨b, off, none⟩) s.kn kc) (.string s.data)) := (Hx3.out.below hal).below hb1
              have HX4 : Hid (Box2 w1 wr.heap.size (.int .i64 (s.ks k)) (.int .i64 (s.kb k))) := (Box2.new wr _ _ _).below hb1
              have hbN : Below w.heap.size w w1 := below_next (below_next hb hal) hb1
              clear hal hb1 y0 y1 y2 y3 z0 z1 z2 z3 z4 z5 hc1 hd1 Hx2 Hx3
              by_cases hnone : PtrEq (s.ks k) (s.kb k) 0 0
              · obtain rfl : t = true := ht.2 hnone
                have HK : Hid (KidOk p s.birth (s.ks k) (s.kb k)) := Or.inl hnone
                clear ht hnone
                go_wp2
                go_roundw
                case rel => exact ⟨k + 1, by omega, by go_num, relNext hlt Hall.out HK.out, HX2.out, HX3.out, hbN⟩
                case measure => simp [intOf]; omega
              · obtain rfl : t = false := Bool.eq_false_iff.2 (fun h => hnone (ht.1 h))
                have HN : Hid (¬ PtrEq (s.ks k) (s.kb k) 0 0) := hnone
                clear ht hnone
                obtain ⟨⟨y0, y1⟩, ⟨y2, y3⟩⟩ := HX2.out
                obtain ⟨⟨q0, q1⟩, ⟨q2, q3⟩⟩ := HX4.out
                go_wp2_with fail
                refine (l01Points_any _ _ lo hi p _ _ _ (Hp.out.below hbN)).mono ?_
                rintro e w2 ⟨⟨t, rfl, ht⟩, hb2⟩
                have HY2 : Hid (Box2 w2 w.heap.size (.slice a p.n c) (.slice a' p.hn c')) := HX2.out.below hb2
                have HY3 : Hid (Box3 w2 (w.heap.size + 1) (.int .i64 s.birth) (.slice (some ⟨b, off, none⟩) s.kn kc) (.string s.data)) := HX3.out.below hb2
                have HY4 : Hid (Box2 w2 wr.heap.size (.int .i64 (s.ks k)) (.int .i64 (s.kb k))) := HX4.out.below hb2
                have hbM : Below w.heap.size w w2 := below_next hbN hb2
                clear hb2 hbN y0 y1 y2 y3 q0 q1 q2 q3 HX2 HX3 HX4
                by_cases hpo : Points p (s.ks k) (s.kb k)
                · obtain rfl : t = true := ht.2 hpo
                  have HP : Hid (Points p (s.ks k) (s.kb k)) := hpo
                  clear ht hpo
                  obtain ⟨⟨q0, q1⟩, ⟨q2, q3⟩⟩ := HY4.out
                  obtain ⟨⟨z0, z1⟩, ⟨z2, z3⟩, ⟨z4, z5⟩⟩ := HY3.out
                  by_cases hle : s.birth < s.kb k
                  · go_wp2
                    go_ret
                    refine ⟨BoolIs.no fun h => ?_, hbM⟩
                    rcases h.2 with h | h
                    · omega
                    · rcases h.2.2 k hlt with h | h
                      · exact HN.out h
                      · have := h.2; omega
                  · have HK : Hid (KidOk p s.birth (s.ks k) (s.kb k)) := Or.inr ⟨HP.out, by omega⟩
                    go_wp2
                    go_roundw
                    case rel => exact ⟨k + 1, by omega, by go_num, relNext hlt Hall.out HK.out, HY2.out, HY3.out, hbM⟩
                    case measure => simp [intOf]; omega
                · obtain rfl : t = false := Bool.eq_false_iff.2 (fun h => hpo (ht.1 h))
                  have HP : Hid (¬ Points p (s.ks k) (s.kb k)) := hpo
                  clear ht hpo
                  go_wp2
                  go_ret
                  refine ⟨BoolIs.no fun h => ?_, hbM⟩
                  rcases h.2 with h | h
                  · omega
                  · rcases h.2.2 k hlt with h | h
                    · exact HN.out h
                    · exact HP.out h.1
            · go_wp2
              go_ret
              exact ⟨BoolIs.yes ⟨HB.out, Or.inr ⟨H8.out, HD.out, fun i hi => Hall.out i (by omega)⟩⟩, hb⟩
        · have H : Hid (¬ Fits p s) := fun h => by
            rcases h.2 with h | h
            · omega
            · exact hd h.2.1
          have HB : Hid (BirthOk s.birth) := hB
          have e3 : ((s.kn : Int) != 8) = false := by simp; omega
          have e4 : s.data.toList.isEmpty = false := by simpa using hd
          clear hk8 hB hk0 hd
          go_enter Try.func47, Try.ntmps47
          go_wp2_with (go_at_call 94; refine (l01Birth_any _ _).mono ?_; rintro e w' ⟨⟨t, rfl, ht⟩, rfl⟩; obtain rfl : t = true := ht.2 HB.out; clear ht)
          go_ret
          exact ⟨BoolIs.no H.out, Hbw.out⟩
      · have H : Hid (¬ Fits p s) := fun h => by
          rcases h.2 with h | h
          · omega
          · exact hk8 h.1
        have HB : Hid (BirthOk s.birth) := hB
        have e3 : ((s.kn : Int) != 8) = true := by simp; omega
        clear hk8 hB hk0
        go_enter Try.func47, Try.ntmps47
        go_wp2_with (go_at_call 94; refine (l01Birth_any _ _).mono ?_; rintro e w' ⟨⟨t, rfl, ht⟩, rfl⟩; obtain rfl : t = true := ht.2 HB.out; clear ht)
        go_ret
        exact ⟨BoolIs.no H.out, Hbw.out⟩
  · have HB : Hid (¬ BirthOk s.birth) := hB
    clear hB
    go_enter Try.func47, Try.ntmps47
    go_wp2_with (go_at_call 94; refine (l01Birth_any _ _).mono ?_; rintro e w' ⟨⟨t, rfl, ht⟩, rfl⟩; obtain rfl : t = false := Bool.eq_false_iff.2 (fun h => HB.out (ht.1 h)); clear ht)
    go_ret
    exact ⟨BoolIs.no fun h => HB.out h.1, Hbw.out⟩

end Go.Proofs.Ytikhipekmlhibaa

namespace Go.Proofs.Ytikhipekmlhibaa
open Go.RowKit
set_option linter.unusedVariables false

set_option maxRecDepth 20000 in
set_option maxHeartbeats 1000000 in
theorem specPoolRight_any (v0 v1 : Value) (lo hi : Nat) (p : PoolD) (w : World) (h1 : PoolAt w lo hi v0 v1 p) :
    Calls Try.prog 11 #[.agg #[v0, v1]] w fun e w' => BoolIs (Right p) e ∧ Below w.heap.size w w' := by
  have Hp : Hid (PoolAt w lo hi v0 v1 p) := h1
  obtain ⟨⟨m1, a, c, rfl, mc, g1⟩, ⟨m2, a', c', rfl, mc', g2⟩⟩ := h1
  unfold maxLen at m1 m2
  clear g1 g2
  have Hbw : Hid (Below w.heap.size w (w.alloc (.cells #[.slice a p.n c, .slice a' p.hn c'] 26))) := below_alloc _ _
  by_cases hn : (200 : Int) < p.n
  · have H : Hid (¬ Right p) := fun h => by have := h.1; omega
    go_enter Try.func11, Try.ntmps11
    go_wp2
    go_ret
    exact ⟨BoolIs.no H.out, Hbw.out⟩
  · go_enter Try.func11, Try.ntmps11
    go_wp2
    go_loopw [3] (fun i wr => ∃ k : Nat, k ≤ p.n ∧ i = .int .i64 k ∧ (∀ j, j < k → Free (p.s j) ∨ Fits p (p.s j)) ∧ Box2 wr w.heap.size (.slice a p.n c) (.slice a' p.hn c') ∧ Below w.heap.size w wr) (fun i _ => p.n - (intOf i).toNat)
    case atStart => exact ⟨0, Nat.zero_le _, rfl, fun j hj => absurd hj (Nat.not_lt_zero _), Box2.new _ _ _ _, Hbw.out⟩
    case round =>
      obtain ⟨k, hk, rfl, hall, hx, hb⟩ := hrel
      have Hall : Hid (∀ j, j < k → Free (p.s j) ∨ Fits p (p.s j)) := hall
      have Hx : Hid (Box2 wr w.heap.size (.slice a p.n c) (.slice a' p.hn c')) := hx
      clear hall hx
      obtain ⟨⟨y0, y1⟩, ⟨y2, y3⟩⟩ := Hx.out
      by_cases hlt : k < p.n
      · have hlt' : (k : Int) < (p.n : Int) := by omega
        obtain ⟨b, off, ka, kc, rfl, hs⟩ := (Hp.out.1.below hb).cells hlt
        have Hs : Hid (SlotCells wr b (off + k * 3) lo hi ka kc (p.s k)) := hs
        obtain ⟨q0, q1, q2, _⟩ := hs
        by_cases hf : Free (p.s k)
        · have HF : Hid (Free (p.s k)) := hf
          clear hf
          go_wp2_with fail
          first
            | (go_region_with (first | (go_at_call 46; refine (l01Free_any _ _ _ lo hi (p.s k) _ ?_).mono ?_; (exact Hs.out.slot.below ((Below.refl _ _).drew)); rintro e w1 ⟨⟨t, rfl, hx⟩, hb1⟩; obtain rfl : t = true := hx.2 HF.out; clear hx; have hbb := below_undrew hb1; have rr0 := (Hx.out.below hbb).1.1; have rr1 := (Hx.out.below hbb).2.1; have rr2 := (Hs.out.below hbb).c0; have rr3 := (Hs.out.below hbb).c1; have rr4 := (Hs.out.below hbb).c2)))
            | fail
          all_goals
            have hbn := below_next hb hbb
            have HX : Hid (Box2 w1 w.heap.size (.slice (some ⟨b, off, none⟩) p.n c) (.slice a' p.hn c')) := Hx.out.below hbb
            clear hb1 hbb rr0 rr1 rr2 rr3 rr4 q0 q1 q2 y0 y1 y2 y3 Hs Hx
            go_wp2
            go_roundw
            case rel => exact ⟨k + 1, by omega, by go_num, relNext hlt Hall.out (Or.inl HF.out), HX.out, hbn⟩
            case measure => simp [intOf]; omega
        · have HF : Hid (¬ Free (p.s k)) := hf
          clear hf
          by_cases hft : Fits p (p.s k)
          · have HT : Hid (Fits p (p.s k)) := hft
            clear hft
            go_wp2_with fail
            go_region_held3 (fun w' => w'.cell? ⟨w.heap.size, 0, none⟩ = some (.slice (some ⟨b, off, none⟩) p.n c) ∧ w'.cell? ⟨w.heap.size, 1, none⟩ = some (.slice a' p.hn c') ∧ w'.cell? ⟨b, off + k * 3, none⟩ = some (.int .i64 (p.s k).birth) ∧ w'.cell? ⟨b, off + k * 3 + 1, none⟩ = some (.slice ka (p.s k).kn kc) ∧ w'.cell? ⟨b, off + k * 3 + 2, none⟩ = some (.string (p.s k).data)) (go_keep)
              (first
                | (go_at_call 46; refine (l01Free_any _ _ _ lo hi (p.s k) _ ?_).mono ?_; (exact Hs.out.slot.below ((Below.refl _ _).drew)); rintro e w1 ⟨⟨t, rfl, hx⟩, hb1⟩; obtain rfl : t = false := bool_no hx HF.out; clear hx; have hbb := below_undrew hb1; have rr0 := (Hx.out.below hbb).1.1; have rr1 := (Hx.out.below hbb).2.1; have rr2 := (Hs.out.below hbb).c0; have rr3 := (Hs.out.below hbb).c1; have rr4 := (Hs.out.below hbb).c2)
                | (go_at_call 47; refine (l01Fits_any _ _ _ _ _ lo hi lo hi p (p.s k) _ ?_ ?_).mono ?_; (exact Hp.out.below (below_next hb hbb)); (exact Hs.out.slot.below hbb); rintro e w2 ⟨⟨t2, rfl, hx2⟩, hb2⟩; obtain rfl : t2 = true := hx2.2 HT.out; clear hx2; have hbb2 := below_next hbb hb2; have rr0' := (Hx.out.below hbb2).1.1; have rr1' := (Hx.out.below hbb2).2.1; have rr2' := (Hs.out.below hbb2).c0; have rr3' := (Hs.out.below hbb2).c1; have rr4' := (Hs.out.below hbb2).c2))
            have hbn := below_next hb hbb2
            have HX : Hid (Box2 w2 w.heap.size (.slice (some ⟨b, off, none⟩) p.n c) (.slice a' p.hn c')) := Hx.out.below hbb2
            clear hb1 hbb rr0 rr1 rr2 rr3 rr4 q0 q1 q2 y0 y1 y2 y3 Hs Hx rr0' rr1' rr2' rr3' rr4' hb2 hbb2
            go_wp2
            go_roundw
            case rel => exact ⟨k + 1, by omega, by go_num, relNext hlt Hall.out (Or.inr HT.out), HX.out, hbn⟩
            case measure => simp [intOf]; omega
          · have HT : Hid (¬ Fits p (p.s k)) := hft
            clear hft
            go_wp2_with fail
            go_region_held3 (fun w' => w'.cell? ⟨w.heap.size, 0, none⟩ = some (.slice (some ⟨b, off, none⟩) p.n c) ∧ w'.cell? ⟨w.heap.size, 1, none⟩ = some (.slice a' p.hn c') ∧ w'.cell? ⟨b, off + k * 3, none⟩ = some (.int .i64 (p.s k).birth) ∧ w'.cell? ⟨b, off + k * 3 + 1, none⟩ = some (.slice ka (p.s k).kn kc) ∧ w'.cell? ⟨b, off + k * 3 + 2, none⟩ = some (.string (p.s k).data)) (go_keep)
              (first
                | (go_at_call 46; refine (l01Free_any _ _ _ lo hi (p.s k) _ ?_).mono ?_; (exact Hs.out.slot.below ((Below.refl _ _).drew)); rintro e w1 ⟨⟨t, rfl, hx⟩, hb1⟩; obtain rfl : t = false := bool_no hx HF.out; clear hx; have hbb := below_undrew hb1; have rr0 := (Hx.out.below hbb).1.1; have rr1 := (Hx.out.below hbb).2.1; have rr2 := (Hs.out.below hbb).c0; have rr3 := (Hs.out.below hbb).c1; have rr4 := (Hs.out.below hbb).c2)
                | (go_at_call 47; refine (l01Fits_any _ _ _ _ _ lo hi lo hi p (p.s k) _ ?_ ?_).mono ?_; (exact Hp.out.below (below_next hb hbb)); (exact Hs.out.slot.below hbb); rintro e w2 ⟨⟨t2, rfl, hx2⟩, hb2⟩; obtain rfl : t2 = false := bool_no hx2 HT.out; clear hx2; have hbb2 := below_next hbb hb2; have rr0' := (Hx.out.below hbb2).1.1; have rr1' := (Hx.out.below hbb2).2.1; have rr2' := (Hs.out.below hbb2).c0; have rr3' := (Hs.out.below hbb2).c1; have rr4' := (Hs.out.below hbb2).c2))
            have hbn := below_next hb hbb2
            clear hb1 hbb rr0 rr1 rr2 rr3 rr4 q0 q1 q2 y0 y1 y2 y3 Hs Hx rr0' rr1' rr2' rr3' rr4' hb2 hbb2
            go_wp2
            go_ret
            refine ⟨BoolIs.no fun h => ?_, hbn⟩
            rcases h.2.1 k hlt with h | h
            · exact HF.out h
            · exact HT.out h
      · obtain rfl : k = p.n := by omega
        have hns : p.n ≤ 200 := by omega
        have HX : Hid (Box2 wr w.heap.size (.slice a p.n c) (.slice a' p.hn c')) := Hx.out
        have HB : Hid (Below w.heap.size w wr) := hb
        have HA : Hid (∀ j, j < p.n → Free (p.s j) ∨ Fits p (p.s j)) := Hall.out
        clear Hx hb Hall
        go_wp2
        obtain ⟨wo, hwo⟩ : ∃ wo : World, wo = wr := ⟨_, rfl⟩
        rw [← hwo] at HX HB ⊢
        clear hwo y0 y1 y2 y3
        go_loopw [4] (fun i wr => ∃ k : Nat, k ≤ p.hn ∧ i = .int .i64 k ∧ (∀ j, j < k → HeldOk p j) ∧ Box2 wr w.heap.size (.slice a p.n c) (.slice a' p.hn c') ∧ Below w.heap.size w wr) (fun i _ => p.hn - (intOf i).toNat)
        case atStart => exact ⟨0, Nat.zero_le _, rfl, fun j hj => absurd hj (Nat.not_lt_zero _), HX.out, HB.out⟩
        case round =>
          obtain ⟨k, hk, rfl, hall, hx, hb⟩ := hrel
          have Hall : Hid (∀ j, j < k → HeldOk p j) := hall
          have Hx : Hid (Box2 wr w.heap.size (.slice a p.n c) (.slice a' p.hn c')) := hx
          clear hall hx
          obtain ⟨⟨y0, y1⟩, ⟨y2, y3⟩⟩ := Hx.out
          by_cases hlt : k < p.hn
          · have hlt' : (k : Int) < (p.hn : Int) := by omega
            have hint := Hp.out.2.below hb
            have Hint : Hid (IntsAt wr lo hi (.slice a' p.hn c') p.hn p.h) := hint
            obtain ⟨_, a2, cap2, hv2, _, hx2⟩ := hint
            simp only [Value.slice.injEq, true_and] at hv2
            obtain ⟨rfl, rfl⟩ := hv2
            obtain ⟨b, off, rfl, _, _, k1⟩ := hx2 (by omega)
            have hc1 := k1 k hlt
            clear k1 hx2
            by_cases h1 : p.h k < 0
            · go_wp2
              go_ret
              exact ⟨BoolIs.no fun h => by have := (h.2.2 k hlt).1; omega, hb⟩
            · by_cases h2 : (p.n : Int) ≤ p.h k
              · go_wp2
                go_ret
                exact ⟨BoolIs.no fun h => by have := (h.2.2 k hlt).2.1; omega, hb⟩
              · obtain ⟨x, hx⟩ := Int.eq_ofNat_of_zero_le (show 0 ≤ p.h k by omega)
                rw [hx] at hc1 h1 h2
                have HX1 : Hid (p.h k = x) := hx
                have hxn : x < p.n := by omega
                have hxl : (x : Int) < (p.n : Int) := by omega
                clear hx
                obtain ⟨bs, offs, ka, kc, rfl, hs⟩ := (Hp.out.1.below hb).cells hxn
                have Hs : Hid (SlotCells wr bs (offs + x * 3) lo hi ka kc (p.s x)) := hs
                obtain ⟨q0, q1, q2, _⟩ := hs
                by_cases hf : Free (p.s x)
                · have HF : Hid (Free (p.s x)) := hf
                  clear hf
                  go_wp2_with fail
                  refine (l01Free_any _ _ _ lo hi (p.s x) _ Hs.out.slot).mono ?_
                  rintro e w1 ⟨⟨t, rfl, hx⟩, hb1⟩
                  obtain rfl : t = true := hx.2 HF.out
                  clear hx
                  have hbn := below_next hb hb1
                  clear hb1 q0 q1 q2 y0 y1 y2 y3
                  go_wp2
                  go_ret
                  refine ⟨BoolIs.no fun h => ?_, hbn⟩
                  have := (h.2.2 k hlt).2.2.1
                  rw [HX1.out, Int.toNat_natCast] at this
                  exact this HF.out
                · have HF : Hid (¬ Free (p.s x)) := hf
                  clear hf
                  go_wp2_with fail
                  refine (l01Free_any _ _ _ lo hi (p.s x) _ Hs.out.slot).mono ?_
                  rintro e w1 ⟨⟨t, rfl, hx⟩, hb1⟩
                  obtain rfl : t = false := bool_no hx HF.out
                  clear hx
                  have hbn := below_next hb hb1
                  have HX3 : Hid (Box2 w1 w.heap.size (.slice (some ⟨bs, offs, none⟩) p.n c) (.slice (some ⟨b, off, none⟩) p.hn c')) := Hx.out.below hb1
                  have HI : Hid (IntsAt w1 lo hi (.slice (some ⟨b, off, none⟩) k c') k p.h) := (Hint.out.below hb1).take (by omega) (by omega)
                  clear hb1 q0 q1 q2 y0 y1 y2 y3
                  obtain ⟨⟨y0, y1⟩, ⟨y2, y3⟩⟩ := HX3.out
                  have hkc : k ≤ c' := by omega
                  go_wp2_with fail
                  refine (l01Has_any _ k lo hi p.h _ _ HI.out).mono ?_
                  rintro e w2 ⟨⟨t, rfl, hx⟩, rfl⟩
                  clear y0 y1 y2 y3
                  by_cases hh : Has k p.h (x : Int)
                  · obtain rfl : t = true := hx.2 hh
                    have HH : Hid (Has k p.h (x : Int)) := hh
                    clear hx hh
                    go_wp2
                    go_ret
                    refine ⟨BoolIs.no fun h => ?_, hbn⟩
                    have := (h.2.2 k hlt).2.2.2
                    rw [HX1.out] at this
                    exact this HH.out
                  · obtain rfl : t = false := bool_no hx hh
                    have HH : Hid (HeldOk p k) := by
                      refine ⟨by rw [HX1.out]; exact Int.natCast_nonneg _, by rw [HX1.out]; exact hxl, by rw [HX1.out, Int.toNat_natCast]; exact HF.out, by rw [HX1.out]; exact hh⟩
                    clear hx hh
                    go_wp2
                    go_roundw
                    case rel => exact ⟨k + 1, by omega, by go_num, relNext hlt Hall.out HH.out, HX3.out, hbn⟩
                    case measure => simp [intOf]; omega
          · obtain rfl : k = p.hn := by omega
            go_wp2
            go_ret
            exact ⟨BoolIs.yes ⟨hns, HA.out, Hall.out⟩, hb⟩

end Go.Proofs.Ytikhipekmlhibaa

namespace Go.Proofs.Ytikhipekmlhibaa
open Go.RowKit
set_option linter.unusedVariables false

/-- One more is held. -/
def holdD (p : PoolD) (xs : Int) : PoolD := { n := p.n, s := p.s, hn := p.hn + 1, h := fun i => if i = p.hn then xs else p.h i }
open Classical in
noncomputable def holdP (p : PoolD) (xs xb : Int) : OutD := if Right p then (if Points p xs xb ∧ ¬ Has p.hn p.h xs then ⟨holdD p xs, 0, 0, 0⟩ else ⟨newP 0, 0, 0, 4⟩) else ⟨newP 0, 0, 0, 1⟩
theorem hold_form {p : PoolD} {xs xb : Int} (h : ¬ Right p) : holdP p xs xb = ⟨newP 0, 0, 0, 1⟩ := if_neg h
theorem hold_none {p : PoolD} {xs xb : Int} (h : Right p) (h' : ¬ (Points p xs xb ∧ ¬ Has p.hn p.h xs)) : holdP p xs xb = ⟨newP 0, 0, 0, 4⟩ := (if_pos h).trans (if_neg h')
theorem hold_ok {p : PoolD} {xs xb : Int} (h : Right p) (h' : Points p xs xb) (h'' : ¬ Has p.hn p.h xs) : holdP p xs xb = ⟨holdD p xs, 0, 0, 0⟩ := (if_pos h).trans (if_pos ⟨h', h''⟩)

theorem ic_congr {f g : Nat → Int} {n : Nat} (h : ∀ i, i < n → f i = g i) : ic f n = ic g n := by
  induction n with
  | zero => rfl
  | succ n ih =>
    unfold ic
    rw [ih (fun i hi => h i (by omega)), h n (by omega)]
theorem ic_hold (p : PoolD) (xs : Int) : ic (holdD p xs).h (p.hn + 1) = ic p.h p.hn ++ [.int .i64 xs] := by
  show ic (holdD p xs).h p.hn ++ [.int .i64 ((holdD p xs).h p.hn)] = _
  rw [ic_congr (f := (holdD p xs).h) (g := p.h) (fun i hi => if_neg (by omega)), show (holdD p xs).h p.hn = xs from if_pos rfl]

/-- The three variables with which the calls begin. -/
theorem start3 (w : World) (a0 a1 x0 x1 : Value) (t1 t2 t3 : TypeId) :
    Box2 (((w.alloc (.cells #[a0, a1] t1)).alloc (.cells #[x0, x1] t2)).alloc (.cells #[.slice none 0 0, .slice none 0 0, .int .i64 0, .int .i64 0, .int .i64 0] t3)) w.heap.size a0 a1 ∧
    Box2 (((w.alloc (.cells #[a0, a1] t1)).alloc (.cells #[x0, x1] t2)).alloc (.cells #[.slice none 0 0, .slice none 0 0, .int .i64 0, .int .i64 0, .int .i64 0] t3)) (w.heap.size + 1) x0 x1 ∧
    Box5 (((w.alloc (.cells #[a0, a1] t1)).alloc (.cells #[x0, x1] t2)).alloc (.cells #[.slice none 0 0, .slice none 0 0, .int .i64 0, .int .i64 0, .int .i64 0] t3)) (w.heap.size + 1 + 1) (.slice none 0 0) (.slice none 0 0) (.int .i64 0) (.int .i64 0) (.int .i64 0) ∧
    Below w.heap.size w (((w.alloc (.cells #[a0, a1] t1)).alloc (.cells #[x0, x1] t2)).alloc (.cells #[.slice none 0 0, .slice none 0 0, .int .i64 0, .int .i64 0, .int .i64 0] t3)) ∧
    (((w.alloc (.cells #[a0, a1] t1)).alloc (.cells #[x0, x1] t2)).alloc (.cells #[.slice none 0 0, .slice none 0 0, .int .i64 0, .int .i64 0, .int .i64 0] t3)).heap.size = w.heap.size + 3 := by
  refine ⟨((Box2.new w a0 a1 t1).below (below_alloc _ _)).below (below_alloc _ _), ?_, ?_, below_next (below_next (below_alloc _ _) (below_alloc _ _)) (below_alloc _ _), by simp⟩
  · have := (Box2.new (w.alloc (.cells #[a0, a1] t1)) x0 x1 t2).below (below_alloc _ (.cells #[.slice none 0 0, .slice none 0 0, .int .i64 0, .int .i64 0, .int .i64 0] t3))
    rw [World.size_alloc] at this
    exact this
  · have := Box5.new ((w.alloc (.cells #[a0, a1] t1)).alloc (.cells #[x0, x1] t2)) (.slice none 0 0) (.slice none 0 0) (.int .i64 0) (.int .i64 0) (.int .i64 0) t3
    rw [World.size_alloc, World.size_alloc] at this
    exact this

/-- An answer is laid into the variable of the result. -/
theorem out_ret {w wr : World} {lo hi R : Nat} {s0 s1 u2 u3 u4 : Value} {p : PoolD} (ho : PoolOwn wr lo hi s0 s1 p) (hR1 : R < lo) (hlo : w.heap.size ≤ R) (hhi : hi ≤ wr.heap.size) (hb : Below w.heap.size w wr) :
    PoolOwn (put5 wr R s0 s1 u2 u3 u4) w.heap.size (put5 wr R s0 s1 u2 u3 u4).heap.size s0 s1 p ∧ Below w.heap.size w (put5 wr R s0 s1 u2 u3 u4) := by
  have t := Turned.put5 wr R s0 s1 u2 u3 u4
  have hz := t.size
  exact ⟨(ho.turned t (fun k hk => by omega)).wide (by omega) (by omega), hb.trans (t.below (by have := hb.size; omega) (fun k hk => by omega))⟩
theorem none_ret {w wr : World} {R : Nat} {u2 u3 u4 : Value} (hlo : w.heap.size ≤ R) (hb : Below w.heap.size w wr) :
    PoolOwn (put5 wr R (.slice none 0 0) (.slice none 0 0) u2 u3 u4) w.heap.size (put5 wr R (.slice none 0 0) (.slice none 0 0) u2 u3 u4).heap.size (.slice none 0 0) (.slice none 0 0) (newP 0) ∧ Below w.heap.size w (put5 wr R (.slice none 0 0) (.slice none 0 0) u2 u3 u4) := by
  have t := Turned.put5 wr R (.slice none 0 0) (.slice none 0 0) u2 u3 u4
  exact ⟨none_own, hb.trans (t.below (by have := hb.size; omega) (fun k hk => by omega))⟩

theorem grown_of_turned {b : Nat} {w w' : World} (t : Turned (fun k => k = b) w w') : w.grownBy w' (some b) := ⟨t.os, t.tape, t.output, t.size, fun k hk hne => t.block k hk (fun e => hne (by rw [e]))⟩

theorem news1 (w : World) (x : Value) (t : TypeId) : ∀ j u, [x][j]? = some u → (w.alloc (.cells #[x] t)).cell? ((⟨w.heap.size, 0, none⟩ : Addr).add j) = some u := by
  intro j u hj
  match j, hj with
  | 0, hj => simp at hj; subst hj; simp [Addr.add]
  | (j + 1), hj => simp at hj
theorem one1 (x : Int) : ∀ u ∈ [Value.int .i64 x], u.oneCell' = true := by
  intro u hu
  simp only [List.mem_cons, List.not_mem_nil, or_false] at hu
  rw [hu]; rfl

theorem olds_at {w : World} {lo hi : Nat} {f : Nat → Int} {n c : Nat} {a : Option Addr} (h : IntsAt w lo hi (.slice a n c) n f) {w' : World} (hb : Below w.heap.size w w') : ∀ b, a = some b → ∀ j u, (ic f n)[j]? = some u → w'.cell? (b.add j) = some u := by
  intro b hab j u hj
  have hlt : j < n := by
    have := (List.getElem?_eq_some_iff.1 hj).1
    rw [ic_len] at this
    omega
  obtain ⟨b0, off, ha, hc⟩ := news_at h rfl hb (by omega)
  rw [ha] at hab
  simp only [Option.some.injEq] at hab
  subst hab
  rw [add_lit]
  exact hc j u hj
theorem none_len {w : World} {lo hi : Nat} {f : Nat → Int} {n c : Nat} {a : Option Addr} (h : IntsAt w lo hi (.slice a n c) n f) : a = none → n = 0 ∧ n = 0 := fun e => by
  obtain ⟨_, a2, c2, hv, _, hx⟩ := h
  simp only [Value.slice.injEq, true_and] at hv
  obtain ⟨rfl, rfl⟩ := hv
  by_cases h0 : 0 < n
  · obtain ⟨b, off, ha, _⟩ := hx h0
    rw [ha] at e
    cases e
  · omega
theorem below_of_grown {w w' : World} (h : w.grownBy w' none) : Below w.heap.size w w' := ⟨h.os, h.tape, h.output, h.size, fun k hk => h.block k hk (by simp)⟩
theorem news1_of {w : World} {b : Nat} {x : Value} (h : w.cell? ⟨b, 0, none⟩ = some x) : ∀ j u, [x][j]? = some u → w.cell? ((⟨b, 0, none⟩ : Addr).add j) = some u := by
  intro j u hj
  match j, hj with
  | 0, hj => simp at hj; subst hj; rw [add_lit]; exact h
  | (j + 1), hj => simp at hj

end Go.Proofs.Ytikhipekmlhibaa

namespace Go.Proofs.Ytikhipekmlhibaa
open Go.RowKit
set_option linter.unusedVariables false

set_option maxRecDepth 20000 in
set_option maxHeartbeats 2000000 in
theorem specPoolHold_any (v0 v1 : Value) (lo hi : Nat) (p : PoolD) (xs xb : Int) (w : World) (h1 : PoolAt w lo hi v0 v1 p) (hn : poolN p ≤ 1048576) :
    Calls Try.prog 17 #[.agg #[v0, v1], .agg #[.int .i64 xs, .int .i64 xb]] w (NewOut (holdP p xs xb) w) := by
  have Hp := hide h1
  obtain ⟨a, c, a', c', rfl, rfl⟩ := h1.form
  have Hn := hide hn
  have hm2 : p.hn ≤ 1048576 := by unfold poolN at hn; omega
  have hst := start3 w (.slice a p.n c) (.slice a' p.hn c') (.int .i64 xs) (.int .i64 xb) 26 33 35
  obtain ⟨i0, hi0, hzz⟩ := Option.map_eq_some_iff.1 infoInt64
  simp only [Prod.mk.injEq] at hzz
  have HI := hide (And.intro hi0 hzz)
  clear h1 hn hi0 hzz
  go_enter Try.func17, Try.ntmps17
  go_wp2_with fail
  generalize ((w.alloc (.cells #[.slice a p.n c, .slice a' p.hn c'] 26)).alloc (.cells #[.int .i64 xs, .int .i64 xb] 33)).alloc (.cells #[.slice none 0 0, .slice none 0 0, .int .i64 0, .int .i64 0, .int .i64 0] 35) = W at hst ⊢
  obtain ⟨hB, hX, hR, hba, hz⟩ := hst
  refine (specPoolRight_any _ _ lo hi p _ (Hp.out.below hba)).mono ?_
  rintro e w1 ⟨⟨t, rfl, ht⟩, hb1⟩
  have HB1 := hide (hB.below hb1)
  have HX1 := hide (hX.below hb1)
  have HR1 := hide (hR.below hb1)
  have hB1 := below_next hba hb1
  have hz1 : w.heap.size + 3 ≤ w1.heap.size := by have := hb1.size; omega
  clear hB hX hR hba hb1 hz
  by_cases hRt : Right p
  · have HRt := hide hRt
    obtain rfl : t = true := ht.2 hRt
    clear ht hRt
    obtain ⟨⟨x0, x1⟩, ⟨x2, x3⟩⟩ := HB1.out
    obtain ⟨⟨y0, y1⟩, ⟨y2, y3⟩⟩ := HX1.out
    go_wp2_with fail
    refine (l01Points_any _ _ lo hi p xs xb _ (Hp.out.below hB1)).mono ?_
    rintro e w2 ⟨⟨t, rfl, ht⟩, hb2⟩
    have HB2 := hide (HB1.out.below hb2)
    have HX2 := hide (HX1.out.below hb2)
    have HR2 := hide (HR1.out.below hb2)
    have hB2 := below_next hB1 hb2
    have hz2 : w.heap.size + 3 ≤ w2.heap.size := by have := hb2.size; omega
    clear hb2 hB1 HB1 HX1 HR1 hz1 x0 x1 x2 x3 y0 y1 y2 y3
    by_cases hP : Points p xs xb
    · have HP := hide hP
      obtain rfl : t = true := ht.2 hP
      clear ht hP
      obtain ⟨⟨x0, x1⟩, ⟨x2, x3⟩⟩ := HB2.out
      obtain ⟨⟨y0, y1⟩, ⟨y2, y3⟩⟩ := HX2.out
      go_wp2_with fail
      refine (l01Has_any _ p.hn lo hi p.h _ _ (Hp.out.2.below hB2)).mono ?_
      rintro e w3 ⟨⟨t, rfl, ht⟩, rfl⟩
      by_cases hH : Has p.hn p.h xs
      · have HH := hide hH
        obtain rfl : t = true := ht.2 hH
        clear ht hH
        obtain ⟨⟨u0, u1⟩, ⟨u2, u3⟩, ⟨u4, u5⟩, ⟨u6, u7⟩, ⟨u8, u9⟩⟩ := HR2.out
        go_wp2
        have HR6 := HR2.out.put (.slice none 0 0) (.slice none 0 0) (.int .i64 0) (.int .i64 0) (.int .i64 4)
        have hpr := none_ret (R := w.heap.size + 1 + 1) (u2 := .int .i64 0) (u3 := .int .i64 0) (u4 := .int .i64 4) (by omega) hB2
        rw [hold_none HRt.out (fun h => h.2 HH.out)]
        exact bodyPost_ret (v := .agg #[.slice none 0 0, .slice none 0 0, .int .i64 0, .int .i64 0, .int .i64 4]) (by simp [results, Try.results17, go_sem, HR6.1.1, HR6.2.1.1, HR6.2.2.1.1, HR6.2.2.2.1.1, HR6.2.2.2.2.1]) rfl ⟨_, _, rfl, hpr.1, hpr.2⟩
      · have HH := hide hH
        obtain rfl : t = false := bool_no ht hH
        clear ht hH
        go_wp2_with fail
        refine (l01Copy_parts _ _ lo hi p _ (Hp.out.below hB2) Hn.out).mono ?_
        rintro e w4 ⟨s0, s1, M, bs, kb, kv, rfl, g1, g2, g3, g4, g5, g6, g7, g8, _⟩
        obtain ⟨a4, c4, rfl⟩ : ∃ a4 c4, s0 = .slice a4 p.n c4 := by obtain ⟨_, a4, c4, h, _⟩ := g1; exact ⟨a4, c4, h⟩
        obtain ⟨a5, c5, rfl, _⟩ := owns_form g4
        have HG := hide (And.intro g1 (And.intro g2 (And.intro g3 (And.intro g4 (And.intro g5 (And.intro g6 g7))))))
        have HX4 := hide (HX2.out.below g8)
        have HR4 := hide (HR2.out.below g8)
        have hB4 := below_next hB2 g8
        have hz4 := g8.size
        clear g1 g2 g3 g4 g5 g6 g7 g8 HB2 HX2 HR2 hB2 x0 x1 x2 x3 y0 y1 y2 y3
        have ha1 := below_alloc w4 (.cells #[.slice a4 p.n c4, .slice a5 p.hn c5] 26)
        have ha2 := below_next ha1 (below_alloc _ (.cells #[.int .i64 xs] 2))
        obtain ⟨⟨y0, y1⟩, _⟩ := HX4.out.below ha1
        go_wp2_with (first
          | (at_builtin; refine wpList_append_lies _ rfl _ _ 24 rfl w3.heap.size 2 i0 (.int .i64 0) 1 8 (by kernel_rfl) HI.out.1 HI.out.2.1 HI.out.2.2.1 HI.out.2.2.2 rfl (by decide) (.slice a5 p.hn c5) p.hn (ic p.h p.hn) rfl ?c0 ⟨w4.heap.size + 1, 0, none⟩ 1 1 [.int .i64 xs] rfl rfl ?c1 (one1 _) (by decide) ?c3 ?c4 ?c5 _ rfl ?_))
        case c0 => exact (HG.out.2.2.2.1.alloc _).alloc _
        case c1 =>
          have := news1 (w4.alloc (.cells #[.slice a4 p.n c4, .slice a5 p.hn c5] 26)) (.int .i64 xs) 2
          rw [World.size_alloc] at this
          exact this
        case c3 => unfold maxLen; omega
        case c4 => omega
        case c5 => simp; omega
        intro g cap w5 hown5 hgrow5 hat5 hlt5
        obtain ⟨g1, g2, g3, g4, g5, g6, g7⟩ := HG.out
        have t5 := turned_of_grown hgrow5
        have hzs : w4.heap.size + 2 ≤ w5.heap.size := by have := t5.size; rw [World.size_alloc, World.size_alloc] at this; omega
        have hO5 : Box2 w5 w4.heap.size (.slice a4 p.n c4) (.slice a5 p.hn c5) := ((Box2.new w4 _ _ _).below (below_alloc _ _)).turned t5 (fun e => by have := g5 _ e; omega)
        have HR5 := hide ((HR4.out.below ha2).turned t5 (fun e => by have := g5 _ e; omega))
        have hB5 : Below w.heap.size w w5 := (below_next hB4 ha2).trans (t5.below (by have := ha2.size; omega) (fun k e => by have := g5 _ e; omega))
        have g1' : SlotsOwn w5 bs kb kv (.slice a4 p.n c4) p.n p.s := (g1.below ha2).turned t5 (fun h0 e => by have := g5 _ e; have := g3 bs (Or.inl ⟨h0, rfl⟩); omega) (fun i hi h0 e => by have := g5 _ e; have := g3 _ (Or.inr ⟨i, hi, h0, rfl⟩); omega)
        have hg5 : g ≠ w4.heap.size ∧ w3.heap.size ≤ g ∧ (g < M ∨ w4.heap.size < g) := by
          rcases hat5 with h | h
          · have := g5 _ h; omega
          · have : g = w4.heap.size + 1 + 1 := by simpa using h
            omega
        have t6 := Turned.put w5 w4.heap.size 1 (.slice (some ⟨g, 0, none⟩) (p.hn + 1) cap)
        have g4' : (w5.setCell ⟨w4.heap.size, 1, none⟩ (.slice (some ⟨g, 0, none⟩) (p.hn + 1) cap)).ownsRow w3.heap.size 2 1 (.slice (some ⟨g, 0, none⟩) (p.hn + 1) cap) (p.hn + 1) (ic (holdD p xs).h (p.hn + 1)) := by
          rw [ic_hold]
          exact hown5.kept (grown_of_turned t6) (Or.inr (by simp [Value.ownBlock]; exact hg5.1))
        have g1'' := g1'.turned t6 (fun h0 e => by have := g3 bs (Or.inl ⟨h0, rfl⟩); omega) (fun i hi h0 e => by have := g3 _ (Or.inr ⟨i, hi, h0, rfl⟩); omega)
        have hz6 : w5.heap.size = (w5.setCell ⟨w4.heap.size, 1, none⟩ (.slice (some ⟨g, 0, none⟩) (p.hn + 1) cap)).heap.size := by rw [World.size_setCell]
        have Hpo := hide (parts_own (p := holdD p xs) (B := w3.heap.size) (M := M) g1'' g2 (fun k hk => by have := g3 k hk; omega) (by show p.hn + 1 ≤ maxLen; unfold maxLen; omega) g4' (fun k e => by
          have e' : g = k := by simpa [Value.ownBlock] using e
          subst e'
          refine ⟨hg5.2.1, ?_⟩
          rcases hg5.2.2 with h | h
          · exact Or.inl h
          · exact Or.inr (Or.inr ⟨by omega, fun hx => by have := g3 _ hx; omega⟩)) g6 (fun e => absurd e (Nat.succ_ne_zero _)))
        have HO5 : Hid (Box2 (w5.setCell ⟨w4.heap.size, 1, none⟩ (.slice (some ⟨g, 0, none⟩) (p.hn + 1) cap)) w4.heap.size (.slice a4 p.n c4) (.slice (some ⟨g, 0, none⟩) (p.hn + 1) cap)) := ⟨hO5.1.other _ (Or.inr (by omega)), hO5.2.set _⟩
        have HR6 := hide (HR5.out.turned t6 (by omega))
        have hB6 := hB5.trans (t6.below (by have := hB5.size; omega) (fun k e => by omega))
        obtain ⟨⟨x0, x1⟩, ⟨x2, x3⟩⟩ := hO5
        clear g1 g2 g3 g4 g5 g6 g7 t5 t6 g1' g4' g1'' hown5 hgrow5 hat5 hlt5 hg5 HG HR5 HR4 HX4 hB4 hB5 y0 y1 ha1 ha2
        obtain ⟨⟨u0, u1⟩, ⟨u2, u3⟩, ⟨u4, u5⟩, ⟨u6, u7⟩, ⟨u8, u9⟩⟩ := HR6.out
        obtain ⟨⟨y0, y1⟩, ⟨y2, y3⟩⟩ := HO5.out
        go_wp2
        have HR7 := HR6.out.put (.slice a4 p.n c4) (.slice (some ⟨g, 0, none⟩) (p.hn + 1) cap) (.int .i64 0) (.int .i64 0) (.int .i64 0)
        have hpr := out_ret (R := w.heap.size + 1 + 1) (u2 := .int .i64 0) (u3 := .int .i64 0) (u4 := .int .i64 0) Hpo.out (by omega) (by omega) (Nat.le_refl _) hB6
        rw [hold_ok HRt.out HP.out HH.out]
        exact bodyPost_ret (v := .agg #[.slice a4 p.n c4, .slice (some ⟨g, 0, none⟩) (p.hn + 1) cap, .int .i64 0, .int .i64 0, .int .i64 0]) (by simp [results, Try.results17, go_sem, HR7.1.1, HR7.2.1.1, HR7.2.2.1.1, HR7.2.2.2.1.1, HR7.2.2.2.2.1]) rfl ⟨_, _, rfl, hpr.1, hpr.2⟩
    · have HP := hide hP
      obtain rfl : t = false := bool_no ht hP
      clear ht hP
      obtain ⟨⟨u0, u1⟩, ⟨u2, u3⟩, ⟨u4, u5⟩, ⟨u6, u7⟩, ⟨u8, u9⟩⟩ := HR2.out
      go_wp2
      have HR6 := HR2.out.put (.slice none 0 0) (.slice none 0 0) (.int .i64 0) (.int .i64 0) (.int .i64 4)
      have hpr := none_ret (R := w.heap.size + 1 + 1) (u2 := .int .i64 0) (u3 := .int .i64 0) (u4 := .int .i64 4) (by omega) hB2
      rw [hold_none HRt.out (fun h => HP.out h.1)]
      exact bodyPost_ret (v := .agg #[.slice none 0 0, .slice none 0 0, .int .i64 0, .int .i64 0, .int .i64 4]) (by simp [results, Try.results17, go_sem, HR6.1.1, HR6.2.1.1, HR6.2.2.1.1, HR6.2.2.2.1.1, HR6.2.2.2.2.1]) rfl ⟨_, _, rfl, hpr.1, hpr.2⟩
  · have HRt := hide hRt
    obtain rfl : t = false := bool_no ht hRt
    clear ht hRt
    obtain ⟨⟨u0, u1⟩, ⟨u2, u3⟩, ⟨u4, u5⟩, ⟨u6, u7⟩, ⟨u8, u9⟩⟩ := HR1.out
    go_wp2
    have HR6 := HR1.out.put (.slice none 0 0) (.slice none 0 0) (.int .i64 0) (.int .i64 0) (.int .i64 1)
    have hpr := none_ret (R := w.heap.size + 1 + 1) (u2 := .int .i64 0) (u3 := .int .i64 0) (u4 := .int .i64 1) (by omega) hB1
    rw [hold_form HRt.out]
    exact bodyPost_ret (v := .agg #[.slice none 0 0, .slice none 0 0, .int .i64 0, .int .i64 0, .int .i64 1]) (by simp [results, Try.results17, go_sem, HR6.1.1, HR6.2.1.1, HR6.2.2.1.1, HR6.2.2.2.1.1, HR6.2.2.2.2.1]) rfl ⟨_, _, rfl, hpr.1, hpr.2⟩

end Go.Proofs.Ytikhipekmlhibaa
