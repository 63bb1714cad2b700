/- What impl.PoolTake answers. -/
import Derived.Test.YtjbcjlednedboaaTakeC
namespace Go.Proofs.Ytjbcjlednedboaa
open Go.RowKit
set_option linter.unusedVariables false

set_option maxRecDepth 20000 in
set_option maxHeartbeats 2000000 in
theorem implPoolTake_any (v0 v1 kv : Value) (lo hi lo' hi' : Nat) (p : PoolD) (s : SlotD) (w : World) (h1 : PoolAt w lo hi v0 v1 p) (h2 : SlotAt w lo' hi' (.int .i64 s.birth) kv (.string s.data) s) (hn : poolN p + slotN s ≤ 1048576) :
    Calls Try.prog 6 #[.agg #[v0, v1], .agg #[.int .i64 s.birth, kv, .string s.data]] w (NewOut (takeP p s) w) := by
  have Hp := hide h1
  have Hs := hide h2
  have Hn := hide hn
  obtain ⟨a, c, a', c', rfl, rfl⟩ := h1.form
  obtain ⟨ka, kc, rfl⟩ := h2.form
  have hkn : s.kn ≤ 1048576 := by unfold slotN at hn; omega
  have hm1 : p.n ≤ 1048576 := by unfold poolN at hn; omega
  have hst := start53 w (.slice a p.n c) (.slice a' p.hn c') (.int .i64 s.birth) (.slice ka s.kn kc) (.string s.data) 26 29 35
  clear h1 h2 hn
  go_enter Try.func6, Try.ntmps6
  go_wp2_with fail
  generalize ((w.alloc (.cells #[.slice a p.n c, .slice a' p.hn c'] 26)).alloc (.cells #[.int .i64 s.birth, .slice ka s.kn kc, .string s.data] 29)).alloc (.cells #[.slice none 0 0, .slice none 0 0, .int .i64 0, .int .i64 0, .int .i64 0] 35) = W at hst ⊢
  obtain ⟨hB, hX, hR, hba, hz⟩ := hst
  refine (implPoolRight_any _ _ lo hi p _ (Hp.out.below hba)).mono ?_
  rintro e w1 ⟨⟨t, rfl, ht⟩, hb1⟩
  have HB1 := hide (hB.below hb1)
  have HX1 := hide (hX.below hb1)
  have HR1 := hide (hR.below hb1)
  have hB1 := below_next hba hb1
  have hz1 : w.heap.size + 3 ≤ w1.heap.size := by have := hb1.size; omega
  clear hB hX hR hba hb1 hz
  by_cases hRt : Right p
  · have HRt := hide hRt
    obtain rfl : t = true := ht.2 hRt
    clear ht hRt
    obtain ⟨⟨y0, y1⟩, ⟨y2, y3⟩, ⟨y4, y5⟩⟩ := HX1.out
    go_wp2_with fail
    refine (isFree_any _ _ _ lo' hi' s _ (Hs.out.below hB1)).mono ?_
    rintro e w2 ⟨⟨t, rfl, ht⟩, hb2⟩
    have HB2 := hide (HB1.out.below hb2)
    have HX2 := hide (HX1.out.below hb2)
    have HR2 := hide (HR1.out.below hb2)
    have hB2 := below_next hB1 hb2
    have hz2 : w.heap.size + 3 ≤ w2.heap.size := by have := hb2.size; omega
    clear hb2 hB1 HB1 HX1 HR1 hz1 y0 y1 y2 y3 y4 y5
    by_cases hF : Free s
    · have HF := hide hF
      obtain rfl : t = true := ht.2 hF
      clear ht hF
      obtain ⟨⟨u0, u1⟩, ⟨u2, u3⟩, ⟨u4, u5⟩, ⟨u6, u7⟩, ⟨u8, u9⟩⟩ := HR2.out
      go_wp2
      have HR6 := HR2.out.put (.slice none 0 0) (.slice none 0 0) (.int .i64 0) (.int .i64 0) (.int .i64 1)
      have hpr := none_ret (R := w.heap.size + 1 + 1) (u2 := .int .i64 0) (u3 := .int .i64 0) (u4 := .int .i64 1) (by omega) hB2
      rw [take_form (fun h => h.2.1 HF.out)]
      exact bodyPost_ret (v := .agg #[.slice none 0 0, .slice none 0 0, .int .i64 0, .int .i64 0, .int .i64 1]) (by simp [results, Try.results6, go_sem, HR6.1.1, HR6.2.1.1, HR6.2.2.1.1, HR6.2.2.2.1.1, HR6.2.2.2.2.1]) rfl ⟨_, _, rfl, hpr.1, hpr.2⟩
    · have HF := hide hF
      obtain rfl : t = false := bool_no ht hF
      clear ht hF
      obtain ⟨⟨x0, x1⟩, ⟨x2, x3⟩⟩ := HB2.out
      obtain ⟨⟨y0, y1⟩, ⟨y2, y3⟩, ⟨y4, y5⟩⟩ := HX2.out
      go_wp2_with fail
      refine (slotRight_any _ _ _ _ p.n lo hi lo' hi' p.s s _ (Hp.out.1.below hB2) (Hs.out.below hB2)).mono ?_
      rintro e w3 ⟨⟨t, rfl, ht⟩, hb3⟩
      rw [slotRight_iff HRt.out HF.out] at ht
      have HB3 := hide (HB2.out.below hb3)
      have HX3 := hide (HX2.out.below hb3)
      have HR3 := hide (HR2.out.below hb3)
      have hB3 := below_next hB2 hb3
      have hz3 : w.heap.size + 3 ≤ w3.heap.size := by have := hb3.size; omega
      clear hb3 hB2 HB2 HX2 HR2 hz2 x0 x1 x2 x3 y0 y1 y2 y3 y4 y5
      by_cases hT : Fits p s
      · have HT := hide (And.intro HRt.out (And.intro HF.out hT))
        obtain rfl : t = true := ht.2 hT
        clear ht hT
        obtain ⟨⟨x0, x1⟩, ⟨x2, x3⟩⟩ := HB3.out
        go_wp2_with fail
        refine (indexFree_any _ p.n lo hi p.s _ (Hp.out.1.below hB3)).mono ?_
        rintro e w4 ⟨⟨i, hi4, rfl⟩ | ⟨hno, rfl⟩, hb4⟩
        · have HB4 := hide (HB3.out.below hb4)
          have HX4 := hide (HX3.out.below hb4)
          have HR4 := hide (HR3.out.below hb4)
          have hB4 := below_next hB3 hb4
          have hz4 : w.heap.size + 3 ≤ w4.heap.size := by have := hb4.size; omega
          have Hi := hide hi4
          have hi0 : ¬ (i : Int) < 0 := by omega
          clear hb4 HB3 HX3 HR3 hB3 x0 x1 x2 x3 hz3 hi4
          obtain ⟨⟨x0, x1⟩, ⟨x2, x3⟩⟩ := HB4.out
          obtain ⟨⟨y0, y1⟩, ⟨y2, y3⟩, ⟨y4, y5⟩⟩ := HX4.out
          obtain ⟨⟨u0, u1⟩, ⟨u2, u3⟩, ⟨u4, u5⟩, ⟨u6, u7⟩, ⟨u8, u9⟩⟩ := HR4.out
          have n0 : w.heap.size + 1 + 1 ≠ w.heap.size := by omega
          have n1 : w.heap.size + 1 + 1 ≠ w.heap.size + 1 := by omega
          go_wp2_with fail
          go_region_held3 (fun w' => w'.cell? ⟨w.heap.size, 0, none⟩ = some (.slice a p.n c) ∧ w'.cell? ⟨w.heap.size, 1, none⟩ = some (.slice a' p.hn c') ∧ w'.cell? ⟨w.heap.size + 1, 0, none⟩ = some (.int .i64 s.birth) ∧ w'.cell? ⟨w.heap.size + 1, 1, none⟩ = some (.slice ka s.kn kc) ∧ w'.cell? ⟨w.heap.size + 1, 2, none⟩ = some (.string s.data)) (go_keep)
            (first
              | (go_at_call 37; refine (withSlot_any _ _ _ lo hi lo' hi' i p s _ ?_ ?_ Hi.out.1 Hn.out).mono ?_; (exact Hp.out.below hB4.drew); (exact Hs.out.below hB4.drew); rintro e w5 ⟨s0, s1, rfl, ho5, hb5⟩; obtain ⟨a5, c5, a6, c6, rfl, rfl⟩ := ho5.form; have hb5' := below_undrew hb5; obtain ⟨⟨p0, p1⟩, ⟨p2, p3⟩⟩ := HB4.out.below hb5'; obtain ⟨⟨p4, p5⟩, ⟨p6, p7⟩, ⟨p8, p9⟩⟩ := HX4.out.below hb5'; obtain ⟨⟨r0, r1⟩, ⟨r2, r3⟩, ⟨r4, r5⟩, ⟨r6, r7⟩, ⟨r8, r9⟩⟩ := HR4.out.below hb5'))
          have Ho5 : Hid (PoolOwn w5 w4.heap.size w5.heap.size (.slice a5 (setS p i s).n c5) (.slice a6 (setS p i s).hn c6) (setS p i s)) := ho5
          have HR5 := hide (HR4.out.below hb5')
          have hB5 := below_next hB4 hb5'
          clear ho5 hb5 hb5'
          go_wp2
          have HR8 := HR5.out.put (.slice a5 (setS p i s).n c5) (.slice a6 (setS p i s).hn c6) (.int .i64 (i : Int)) (.int .i64 s.birth) (.int .i64 0)
          have hpr := out_ret (R := w.heap.size + 1 + 1) (u2 := .int .i64 (i : Int)) (u3 := .int .i64 s.birth) (u4 := .int .i64 0) Ho5.out (by omega) (by omega) (Nat.le_refl _) hB5
          rw [take_ok HT.out Hi.out]
          exact bodyPost_ret (v := .agg #[.slice a5 (setS p i s).n c5, .slice a6 (setS p i s).hn c6, .int .i64 (i : Int), .int .i64 s.birth, .int .i64 0]) (by simp [results, Try.results6, go_sem, HR8.1.1, HR8.2.1.1, HR8.2.2.1.1, HR8.2.2.2.1.1, HR8.2.2.2.2.1]) rfl ⟨_, _, rfl, hpr.1, hpr.2⟩
        · have HR4 := hide (HR3.out.below hb4)
          have hB4 := below_next hB3 hb4
          clear hb4 HB3 HX3 HR3 hB3 x0 x1 x2 x3
          obtain ⟨⟨u0, u1⟩, ⟨u2, u3⟩, ⟨u4, u5⟩, ⟨u6, u7⟩, ⟨u8, u9⟩⟩ := HR4.out
          go_wp2
          have HR6 := HR4.out.put (.slice none 0 0) (.slice none 0 0) (.int .i64 0) (.int .i64 0) (.int .i64 6)
          have hpr := none_ret (R := w.heap.size + 1 + 1) (u2 := .int .i64 0) (u3 := .int .i64 0) (u4 := .int .i64 6) (by omega) hB4
          rw [take_full HT.out hno]
          exact bodyPost_ret (v := .agg #[.slice none 0 0, .slice none 0 0, .int .i64 0, .int .i64 0, .int .i64 6]) (by simp [results, Try.results6, go_sem, HR6.1.1, HR6.2.1.1, HR6.2.2.1.1, HR6.2.2.2.1.1, HR6.2.2.2.2.1]) rfl ⟨_, _, rfl, hpr.1, hpr.2⟩
      · have HT := hide hT
        obtain rfl : t = false := bool_no ht hT
        clear ht hT
        obtain ⟨⟨u0, u1⟩, ⟨u2, u3⟩, ⟨u4, u5⟩, ⟨u6, u7⟩, ⟨u8, u9⟩⟩ := HR3.out
        go_wp2
        have HR6 := HR3.out.put (.slice none 0 0) (.slice none 0 0) (.int .i64 0) (.int .i64 0) (.int .i64 1)
        have hpr := none_ret (R := w.heap.size + 1 + 1) (u2 := .int .i64 0) (u3 := .int .i64 0) (u4 := .int .i64 1) (by omega) hB3
        rw [take_form (fun h => HT.out h.2.2)]
        exact bodyPost_ret (v := .agg #[.slice none 0 0, .slice none 0 0, .int .i64 0, .int .i64 0, .int .i64 1]) (by simp [results, Try.results6, go_sem, HR6.1.1, HR6.2.1.1, HR6.2.2.1.1, HR6.2.2.2.1.1, HR6.2.2.2.2.1]) rfl ⟨_, _, rfl, hpr.1, hpr.2⟩
  · have HRt := hide hRt
    obtain rfl : t = false := bool_no ht hRt
    clear ht hRt
    obtain ⟨⟨u0, u1⟩, ⟨u2, u3⟩, ⟨u4, u5⟩, ⟨u6, u7⟩, ⟨u8, u9⟩⟩ := HR1.out
    go_wp2
    have HR6 := HR1.out.put (.slice none 0 0) (.slice none 0 0) (.int .i64 0) (.int .i64 0) (.int .i64 1)
    have hpr := none_ret (R := w.heap.size + 1 + 1) (u2 := .int .i64 0) (u3 := .int .i64 0) (u4 := .int .i64 1) (by omega) hB1
    rw [take_form (fun h => HRt.out h.1)]
    exact bodyPost_ret (v := .agg #[.slice none 0 0, .slice none 0 0, .int .i64 0, .int .i64 0, .int .i64 1]) (by simp [results, Try.results6, go_sem, HR6.1.1, HR6.2.1.1, HR6.2.2.1.1, HR6.2.2.2.1.1, HR6.2.2.2.2.1]) rfl ⟨_, _, rfl, hpr.1, hpr.2⟩

end Go.Proofs.Ytjbcjlednedboaa
