/- What spec.PoolRight answers: true just where the pool is right. -/
import Derived.Test.YtiijnmpenljniadSpecRight2
import Derived.Deep.RegionWith
namespace Go.Proofs.Ytiijnmpenljniad
open Go.RowKit
set_option linter.unusedVariables false

set_option maxRecDepth 20000 in
set_option maxHeartbeats 1000000 in
theorem specPoolRight_any (v0 v1 : Value) (lo hi : Nat) (p : PoolD) (w : World) (h1 : PoolAt w lo hi v0 v1 p) :
    Calls Try.prog 37 #[.agg #[v0, v1]] w fun e w' => BoolIs (Right p) e ∧ Below w.heap.size w w' := by
  have Hp : Hid (PoolAt w lo hi v0 v1 p) := h1
  obtain ⟨⟨m1, a, c, rfl, mc, g1⟩, ⟨m2, a', c', rfl, mc', g2⟩⟩ := h1
  unfold maxLen at m1 m2
  clear g1 g2
  have Hbw : Hid (Below w.heap.size w (w.alloc (.cells #[.slice a p.n c, .slice a' p.hn c'] 33))) := below_alloc _ _
  by_cases hn : (200 : Int) < p.n
  · have H : Hid (¬ Right p) := fun h => by have := h.1; omega
    go_enter Try.func37, Try.ntmps37
    go_wp2
    go_ret
    exact ⟨BoolIs.no H.out, Hbw.out⟩
  · go_enter Try.func37, Try.ntmps37
    go_wp2
    go_loopw [3] (fun i wr => ∃ k : Nat, k ≤ p.n ∧ i = .int .i64 k ∧ (∀ j, j < k → Free (p.s j) ∨ Fits p (p.s j)) ∧ Box2 wr w.heap.size (.slice a p.n c) (.slice a' p.hn c') ∧ Below w.heap.size w wr) (fun i _ => p.n - (intOf i).toNat)
    case atStart => exact ⟨0, Nat.zero_le _, rfl, fun j hj => absurd hj (Nat.not_lt_zero _), Box2.new _ _ _ _, Hbw.out⟩
    case round =>
      obtain ⟨k, hk, rfl, hall, hx, hb⟩ := hrel
      have Hall : Hid (∀ j, j < k → Free (p.s j) ∨ Fits p (p.s j)) := hall
      have Hx : Hid (Box2 wr w.heap.size (.slice a p.n c) (.slice a' p.hn c')) := hx
      clear hall hx
      obtain ⟨⟨y0, y1⟩, ⟨y2, y3⟩⟩ := Hx.out
      by_cases hlt : k < p.n
      · have hlt' : (k : Int) < (p.n : Int) := by omega
        obtain ⟨b, off, ka, kc, rfl, hs⟩ := (Hp.out.1.below hb).cells hlt
        have Hs : Hid (SlotCells wr b (off + k * 3) lo hi ka kc (p.s k)) := hs
        obtain ⟨q0, q1, q2, _⟩ := hs
        by_cases hf : Free (p.s k)
        · have HF : Hid (Free (p.s k)) := hf
          clear hf
          go_wp2_with fail
          first
            | (go_region_with (first | (go_at_call 38; refine (l01Free_any _ _ _ lo hi (p.s k) _ ?_).mono ?_; (exact Hs.out.slot.below ((Below.refl _ _).drew)); rintro e w1 ⟨⟨t, rfl, hx⟩, hb1⟩; obtain rfl : t = true := hx.2 HF.out; clear hx; have hbb := below_undrew hb1; have rr0 := (Hx.out.below hbb).1.1; have rr1 := (Hx.out.below hbb).2.1; have rr2 := (Hs.out.below hbb).c0; have rr3 := (Hs.out.below hbb).c1; have rr4 := (Hs.out.below hbb).c2)))
            | fail
          all_goals
            have hbn := below_next hb hbb
            have HX : Hid (Box2 w1 w.heap.size (.slice (some ⟨b, off, none⟩) p.n c) (.slice a' p.hn c')) := Hx.out.below hbb
            clear hb1 hbb rr0 rr1 rr2 rr3 rr4 q0 q1 q2 y0 y1 y2 y3 Hs Hx
            go_wp2
            go_roundw
            case rel => exact ⟨k + 1, by omega, by go_num, relNext hlt Hall.out (Or.inl HF.out), HX.out, hbn⟩
            case measure => simp [intOf]; omega
        · have HF : Hid (¬ Free (p.s k)) := hf
          clear hf
          by_cases hft : Fits p (p.s k)
          · have HT : Hid (Fits p (p.s k)) := hft
            clear hft
            go_wp2_with fail
            go_region_held3 (fun w' => w'.cell? ⟨w.heap.size, 0, none⟩ = some (.slice (some ⟨b, off, none⟩) p.n c) ∧ w'.cell? ⟨w.heap.size, 1, none⟩ = some (.slice a' p.hn c') ∧ w'.cell? ⟨b, off + k * 3, none⟩ = some (.int .i64 (p.s k).birth) ∧ w'.cell? ⟨b, off + k * 3 + 1, none⟩ = some (.slice ka (p.s k).kn kc) ∧ w'.cell? ⟨b, off + k * 3 + 2, none⟩ = some (.string (p.s k).data)) (go_keep)
              (first
                | (go_at_call 38; refine (l01Free_any _ _ _ lo hi (p.s k) _ ?_).mono ?_; (exact Hs.out.slot.below ((Below.refl _ _).drew)); rintro e w1 ⟨⟨t, rfl, hx⟩, hb1⟩; obtain rfl : t = false := bool_no hx HF.out; clear hx; have hbb := below_undrew hb1; have rr0 := (Hx.out.below hbb).1.1; have rr1 := (Hx.out.below hbb).2.1; have rr2 := (Hs.out.below hbb).c0; have rr3 := (Hs.out.below hbb).c1; have rr4 := (Hs.out.below hbb).c2)
                | (go_at_call 39; refine (l01Fits_any _ _ _ _ _ lo hi lo hi p (p.s k) _ ?_ ?_).mono ?_; (exact Hp.out.below (below_next hb hbb)); (exact Hs.out.slot.below hbb); rintro e w2 ⟨⟨t2, rfl, hx2⟩, hb2⟩; obtain rfl : t2 = true := hx2.2 HT.out; clear hx2; have hbb2 := below_next hbb hb2; have rr0' := (Hx.out.below hbb2).1.1; have rr1' := (Hx.out.below hbb2).2.1; have rr2' := (Hs.out.below hbb2).c0; have rr3' := (Hs.out.below hbb2).c1; have rr4' := (Hs.out.below hbb2).c2))
            have hbn := below_next hb hbb2
            have HX : Hid (Box2 w2 w.heap.size (.slice (some ⟨b, off, none⟩) p.n c) (.slice a' p.hn c')) := Hx.out.below hbb2
            clear hb1 hbb rr0 rr1 rr2 rr3 rr4 q0 q1 q2 y0 y1 y2 y3 Hs Hx rr0' rr1' rr2' rr3' rr4' hb2 hbb2
            go_wp2
            go_roundw
            case rel => exact ⟨k + 1, by omega, by go_num, relNext hlt Hall.out (Or.inr HT.out), HX.out, hbn⟩
            case measure => simp [intOf]; omega
          · have HT : Hid (¬ Fits p (p.s k)) := hft
            clear hft
            go_wp2_with fail
            go_region_held3 (fun w' => w'.cell? ⟨w.heap.size, 0, none⟩ = some (.slice (some ⟨b, off, none⟩) p.n c) ∧ w'.cell? ⟨w.heap.size, 1, none⟩ = some (.slice a' p.hn c') ∧ w'.cell? ⟨b, off + k * 3, none⟩ = some (.int .i64 (p.s k).birth) ∧ w'.cell? ⟨b, off + k * 3 + 1, none⟩ = some (.slice ka (p.s k).kn kc) ∧ w'.cell? ⟨b, off + k * 3 + 2, none⟩ = some (.string (p.s k).data)) (go_keep)
              (first
                | (go_at_call 38; refine (l01Free_any _ _ _ lo hi (p.s k) _ ?_).mono ?_; (exact Hs.out.slot.below ((Below.refl _ _).drew)); rintro e w1 ⟨⟨t, rfl, hx⟩, hb1⟩; obtain rfl : t = false := bool_no hx HF.out; clear hx; have hbb := below_undrew hb1; have rr0 := (Hx.out.below hbb).1.1; have rr1 := (Hx.out.below hbb).2.1; have rr2 := (Hs.out.below hbb).c0; have rr3 := (Hs.out.below hbb).c1; have rr4 := (Hs.out.below hbb).c2)
                | (go_at_call 39; refine (l01Fits_any _ _ _ _ _ lo hi lo hi p (p.s k) _ ?_ ?_).mono ?_; (exact Hp.out.below (below_next hb hbb)); (exact Hs.out.slot.below hbb); rintro e w2 ⟨⟨t2, rfl, hx2⟩, hb2⟩; obtain rfl : t2 = false := bool_no hx2 HT.out; clear hx2; have hbb2 := below_next hbb hb2; have rr0' := (Hx.out.below hbb2).1.1; have rr1' := (Hx.out.below hbb2).2.1; have rr2' := (Hs.out.below hbb2).c0; have rr3' := (Hs.out.below hbb2).c1; have rr4' := (Hs.out.below hbb2).c2))
            have hbn := below_next hb hbb2
            clear hb1 hbb rr0 rr1 rr2 rr3 rr4 q0 q1 q2 y0 y1 y2 y3 Hs Hx rr0' rr1' rr2' rr3' rr4' hb2 hbb2
            go_wp2
            go_ret
            refine ⟨BoolIs.no fun h => ?_, hbn⟩
            rcases h.2.1 k hlt with h | h
            · exact HF.out h
            · exact HT.out h
      · obtain rfl : k = p.n := by omega
        have hns : p.n ≤ 200 := by omega
        have HX : Hid (Box2 wr w.heap.size (.slice a p.n c) (.slice a' p.hn c')) := Hx.out
        have HB : Hid (Below w.heap.size w wr) := hb
        have HA : Hid (∀ j, j < p.n → Free (p.s j) ∨ Fits p (p.s j)) := Hall.out
        clear Hx hb Hall
        go_wp2
        obtain ⟨wo, hwo⟩ : ∃ wo : World, wo = wr := ⟨_, rfl⟩
        rw [← hwo] at HX HB ⊢
        clear hwo y0 y1 y2 y3
        go_loopw [4] (fun i wr => ∃ k : Nat, k ≤ p.hn ∧ i = .int .i64 k ∧ (∀ j, j < k → HeldOk p j) ∧ Box2 wr w.heap.size (.slice a p.n c) (.slice a' p.hn c') ∧ Below w.heap.size w wr) (fun i _ => p.hn - (intOf i).toNat)
        case atStart => exact ⟨0, Nat.zero_le _, rfl, fun j hj => absurd hj (Nat.not_lt_zero _), HX.out, HB.out⟩
        case round =>
          obtain ⟨k, hk, rfl, hall, hx, hb⟩ := hrel
          have Hall : Hid (∀ j, j < k → HeldOk p j) := hall
          have Hx : Hid (Box2 wr w.heap.size (.slice a p.n c) (.slice a' p.hn c')) := hx
          clear hall hx
          obtain ⟨⟨y0, y1⟩, ⟨y2, y3⟩⟩ := Hx.out
          by_cases hlt : k < p.hn
          · have hlt' : (k : Int) < (p.hn : Int) := by omega
            have hint := Hp.out.2.below hb
            have Hint : Hid (IntsAt wr lo hi (.slice a' p.hn c') p.hn p.h) := hint
            obtain ⟨_, a2, cap2, hv2, _, hx2⟩ := hint
            simp only [Value.slice.injEq, true_and] at hv2
            obtain ⟨rfl, rfl⟩ := hv2
            obtain ⟨b, off, rfl, _, _, k1⟩ := hx2 (by omega)
            have hc1 := k1 k hlt
            clear k1 hx2
            by_cases h1 : p.h k < 0
            · go_wp2
              go_ret
              exact ⟨BoolIs.no fun h => by have := (h.2.2 k hlt).1; omega, hb⟩
            · by_cases h2 : (p.n : Int) ≤ p.h k
              · go_wp2
                go_ret
                exact ⟨BoolIs.no fun h => by have := (h.2.2 k hlt).2.1; omega, hb⟩
              · obtain ⟨x, hx⟩ := Int.eq_ofNat_of_zero_le (show 0 ≤ p.h k by omega)
                rw [hx] at hc1 h1 h2
                have HX1 : Hid (p.h k = x) := hx
                have hxn : x < p.n := by omega
                have hxl : (x : Int) < (p.n : Int) := by omega
                clear hx
                obtain ⟨bs, offs, ka, kc, rfl, hs⟩ := (Hp.out.1.below hb).cells hxn
                have Hs : Hid (SlotCells wr bs (offs + x * 3) lo hi ka kc (p.s x)) := hs
                obtain ⟨q0, q1, q2, _⟩ := hs
                by_cases hf : Free (p.s x)
                · have HF : Hid (Free (p.s x)) := hf
                  clear hf
                  go_wp2_with fail
                  refine (l01Free_any _ _ _ lo hi (p.s x) _ Hs.out.slot).mono ?_
                  rintro e w1 ⟨⟨t, rfl, hx⟩, hb1⟩
                  obtain rfl : t = true := hx.2 HF.out
                  clear hx
                  have hbn := below_next hb hb1
                  clear hb1 q0 q1 q2 y0 y1 y2 y3
                  go_wp2
                  go_ret
                  refine ⟨BoolIs.no fun h => ?_, hbn⟩
                  have := (h.2.2 k hlt).2.2.1
                  rw [HX1.out, Int.toNat_natCast] at this
                  exact this HF.out
                · have HF : Hid (¬ Free (p.s x)) := hf
                  clear hf
                  go_wp2_with fail
                  refine (l01Free_any _ _ _ lo hi (p.s x) _ Hs.out.slot).mono ?_
                  rintro e w1 ⟨⟨t, rfl, hx⟩, hb1⟩
                  obtain rfl : t = false := bool_no hx HF.out
                  clear hx
                  have hbn := below_next hb hb1
                  have HX3 : Hid (Box2 w1 w.heap.size (.slice (some ⟨bs, offs, none⟩) p.n c) (.slice (some ⟨b, off, none⟩) p.hn c')) := Hx.out.below hb1
                  have HI : Hid (IntsAt w1 lo hi (.slice (some ⟨b, off, none⟩) k c') k p.h) := (Hint.out.below hb1).take (by omega) (by omega)
                  clear hb1 q0 q1 q2 y0 y1 y2 y3
                  obtain ⟨⟨y0, y1⟩, ⟨y2, y3⟩⟩ := HX3.out
                  have hkc : k ≤ c' := by omega
                  go_wp2_with fail
                  refine (l01Has_any _ k lo hi p.h _ _ HI.out).mono ?_
                  rintro e w2 ⟨⟨t, rfl, hx⟩, rfl⟩
                  clear y0 y1 y2 y3
                  by_cases hh : Has k p.h (x : Int)
                  · obtain rfl : t = true := hx.2 hh
                    have HH : Hid (Has k p.h (x : Int)) := hh
                    clear hx hh
                    go_wp2
                    go_ret
                    refine ⟨BoolIs.no fun h => ?_, hbn⟩
                    have := (h.2.2 k hlt).2.2.2
                    rw [HX1.out] at this
                    exact this HH.out
                  · obtain rfl : t = false := bool_no hx hh
                    have HH : Hid (HeldOk p k) := by
                      refine ⟨by rw [HX1.out]; exact Int.natCast_nonneg _, by rw [HX1.out]; exact hxl, by rw [HX1.out, Int.toNat_natCast]; exact HF.out, by rw [HX1.out]; exact hh⟩
                    clear hx hh
                    go_wp2
                    go_roundw
                    case rel => exact ⟨k + 1, by omega, by go_num, relNext hlt Hall.out HH.out, HX3.out, hbn⟩
                    case measure => simp [intOf]; omega
          · obtain rfl : k = p.hn := by omega
            go_wp2
            go_ret
            exact ⟨BoolIs.yes ⟨hns, HA.out, Hall.out⟩, hb⟩

end Go.Proofs.Ytiijnmpenljniad
