/- What spec.PoolTake and impl.PoolTake answer. -/
import Derived.Test.YtjbcjlednedboaaTakeB
namespace Go.Proofs.Ytjbcjlednedboaa
open Go.RowKit
set_option linter.unusedVariables false

/-- The three variables with which the calls begin. -/
theorem start53 (w : World) (a0 a1 x0 x1 x2 : Value) (t1 t2 t3 : TypeId) :
    Box2 (((w.alloc (.cells #[a0, a1] t1)).alloc (.cells #[x0, x1, x2] t2)).alloc (.cells #[.slice none 0 0, .slice none 0 0, .int .i64 0, .int .i64 0, .int .i64 0] t3)) w.heap.size a0 a1 ∧
    Box3 (((w.alloc (.cells #[a0, a1] t1)).alloc (.cells #[x0, x1, x2] t2)).alloc (.cells #[.slice none 0 0, .slice none 0 0, .int .i64 0, .int .i64 0, .int .i64 0] t3)) (w.heap.size + 1) x0 x1 x2 ∧
    Box5 (((w.alloc (.cells #[a0, a1] t1)).alloc (.cells #[x0, x1, x2] t2)).alloc (.cells #[.slice none 0 0, .slice none 0 0, .int .i64 0, .int .i64 0, .int .i64 0] t3)) (w.heap.size + 1 + 1) (.slice none 0 0) (.slice none 0 0) (.int .i64 0) (.int .i64 0) (.int .i64 0) ∧
    Below w.heap.size w (((w.alloc (.cells #[a0, a1] t1)).alloc (.cells #[x0, x1, x2] t2)).alloc (.cells #[.slice none 0 0, .slice none 0 0, .int .i64 0, .int .i64 0, .int .i64 0] t3)) ∧
    (((w.alloc (.cells #[a0, a1] t1)).alloc (.cells #[x0, x1, x2] t2)).alloc (.cells #[.slice none 0 0, .slice none 0 0, .int .i64 0, .int .i64 0, .int .i64 0] t3)).heap.size = w.heap.size + 3 := by
  refine ⟨((Box2.new w a0 a1 t1).below (below_alloc _ _)).below (below_alloc _ _), ?_, ?_, below_next (below_next (below_alloc _ _) (below_alloc _ _)) (below_alloc _ _), by simp⟩
  · have := (Box3.new (w.alloc (.cells #[a0, a1] t1)) x0 x1 x2 t2).below (below_alloc _ (.cells #[.slice none 0 0, .slice none 0 0, .int .i64 0, .int .i64 0, .int .i64 0] t3))
    rw [World.size_alloc] at this
    exact this
  · have := Box5.new ((w.alloc (.cells #[a0, a1] t1)).alloc (.cells #[x0, x1, x2] t2)) (.slice none 0 0) (.slice none 0 0) (.int .i64 0) (.int .i64 0) (.int .i64 0) t3
    rw [World.size_alloc, World.size_alloc] at this
    exact this

set_option maxRecDepth 20000 in
set_option maxHeartbeats 2000000 in
theorem specPoolTake_any (v0 v1 kv : Value) (lo hi lo' hi' : Nat) (p : PoolD) (s : SlotD) (w : World) (h1 : PoolAt w lo hi v0 v1 p) (h2 : SlotAt w lo' hi' (.int .i64 s.birth) kv (.string s.data) s) (hn : poolN p + slotN s ≤ 1048576) :
    Calls Try.prog 7 #[.agg #[v0, v1], .agg #[.int .i64 s.birth, kv, .string s.data]] w (NewOut (takeP p s) w) := by
  have Hp := hide h1
  have Hs := hide h2
  have Hn := hide hn
  obtain ⟨a, c, a', c', rfl, rfl⟩ := h1.form
  obtain ⟨ka, kc, rfl⟩ := h2.form
  have hkn : s.kn ≤ 1048576 := by unfold slotN at hn; omega
  have hm1 : p.n ≤ 1048576 := by unfold poolN at hn; omega
  have hst := start53 w (.slice a p.n c) (.slice a' p.hn c') (.int .i64 s.birth) (.slice ka s.kn kc) (.string s.data) 26 29 35
  clear h1 h2 hn
  go_enter Try.func7, Try.ntmps7
  go_wp2_with fail
  generalize ((w.alloc (.cells #[.slice a p.n c, .slice a' p.hn c'] 26)).alloc (.cells #[.int .i64 s.birth, .slice ka s.kn kc, .string s.data] 29)).alloc (.cells #[.slice none 0 0, .slice none 0 0, .int .i64 0, .int .i64 0, .int .i64 0] 35) = W at hst ⊢
  obtain ⟨hB, hX, hR, hba, hz⟩ := hst
  refine (specPoolRight_any _ _ lo hi p _ (Hp.out.below hba)).mono ?_
  rintro e w1 ⟨⟨t, rfl, ht⟩, hb1⟩
  have HB1 := hide (hB.below hb1)
  have HX1 := hide (hX.below hb1)
  have HR1 := hide (hR.below hb1)
  have hB1 := below_next hba hb1
  have hz1 : w.heap.size + 3 ≤ w1.heap.size := by have := hb1.size; omega
  clear hB hX hR hba hb1 hz
  by_cases hRt : Right p
  · have HRt := hide hRt
    obtain rfl : t = true := ht.2 hRt
    clear ht hRt
    obtain ⟨⟨y0, y1⟩, ⟨y2, y3⟩, ⟨y4, y5⟩⟩ := HX1.out
    go_wp2_with fail
    refine (l01Free_any _ _ _ lo' hi' s _ (Hs.out.below hB1)).mono ?_
    rintro e w2 ⟨⟨t, rfl, ht⟩, hb2⟩
    have HB2 := hide (HB1.out.below hb2)
    have HX2 := hide (HX1.out.below hb2)
    have HR2 := hide (HR1.out.below hb2)
    have hB2 := below_next hB1 hb2
    have hz2 : w.heap.size + 3 ≤ w2.heap.size := by have := hb2.size; omega
    clear hb2 hB1 HB1 HX1 HR1 hz1 y0 y1 y2 y3 y4 y5
    by_cases hF : Free s
    · have HF := hide hF
      obtain rfl : t = true := ht.2 hF
      clear ht hF
      obtain ⟨⟨u0, u1⟩, ⟨u2, u3⟩, ⟨u4, u5⟩, ⟨u6, u7⟩, ⟨u8, u9⟩⟩ := HR2.out
      go_wp2
      have HR6 := HR2.out.put (.slice none 0 0) (.slice none 0 0) (.int .i64 0) (.int .i64 0) (.int .i64 1)
      have hpr := none_ret (R := w.heap.size + 1 + 1) (u2 := .int .i64 0) (u3 := .int .i64 0) (u4 := .int .i64 1) (by omega) hB2
      rw [take_form (fun h => h.2.1 HF.out)]
      exact bodyPost_ret (v := .agg #[.slice none 0 0, .slice none 0 0, .int .i64 0, .int .i64 0, .int .i64 1]) (by simp [results, Try.results7, go_sem, HR6.1.1, HR6.2.1.1, HR6.2.2.1.1, HR6.2.2.2.1.1, HR6.2.2.2.2.1]) rfl ⟨_, _, rfl, hpr.1, hpr.2⟩
    · have HF := hide hF
      obtain rfl : t = false := bool_no ht hF
      clear ht hF
      obtain ⟨⟨x0, x1⟩, ⟨x2, x3⟩⟩ := HB2.out
      obtain ⟨⟨y0, y1⟩, ⟨y2, y3⟩, ⟨y4, y5⟩⟩ := HX2.out
      go_wp2_with fail
      refine (l01Fits_any _ _ _ _ _ lo hi lo' hi' p s _ (Hp.out.below hB2) (Hs.out.below hB2)).mono ?_
      rintro e w3 ⟨⟨t, rfl, ht⟩, hb3⟩
      have HB3 := hide (HB2.out.below hb3)
      have HX3 := hide (HX2.out.below hb3)
      have HR3 := hide (HR2.out.below hb3)
      have hB3 := below_next hB2 hb3
      have hz3 : w.heap.size + 3 ≤ w3.heap.size := by have := hb3.size; omega
      clear hb3 hB2 HB2 HX2 HR2 hz2 x0 x1 x2 x3 y0 y1 y2 y3 y4 y5
      by_cases hT : Fits p s
      · have HT := hide (And.intro HRt.out (And.intro HF.out hT))
        obtain rfl : t = true := ht.2 hT
        clear ht hT
        obtain ⟨⟨x0, x1⟩, ⟨x2, x3⟩⟩ := HB3.out
        go_wp2_with fail
        refine (l01Copy_any _ _ lo hi p _ (Hp.out.below hB3) (by have := Hn.out; omega)).mono ?_
        rintro e w4 ⟨s0, s1, rfl, ho4, hb4⟩
        obtain ⟨a4, c4, a5, c5, rfl, rfl⟩ := ho4.form
        have mc4 : p.n ≤ c4 := by obtain ⟨⟨_, _, _, e, h, _⟩, _⟩ := ho4.at; simp only [Value.slice.injEq, true_and] at e; omega
        have hnv := poolVar_new (t := 26) ho4 hb4
        have HX4 := hide (HX3.out.below hnv.2.2.2)
        have HR4 := hide (HR3.out.below hnv.2.2.2)
        have hB4 := below_next hB3 hnv.2.2.2
        clear ho4 hb4 x0 x1 x2 x3 HB3 HX3 HR3 hB3
        obtain ⟨⟨y0, y1⟩, ⟨y2, y3⟩, ⟨y4, y5⟩⟩ := HX4.out
        go_wp2_with fail
        clear y0 y1 y2 y3 y4 y5
        generalize w4.alloc (.cells #[.slice a4 p.n c4, .slice a5 p.hn c5] 26) = wO at hnv HX4 HR4 hB4 ⊢
        generalize w4.heap.size = OUT at hnv ⊢
        obtain ⟨hO, hO1, hO2, hO3⟩ := hnv
        have HO := hide hO
        clear hO
        refine (l01Slot_any _ _ _ lo' hi' s _ (Hs.out.below hB4) hkn).mono ?_
        rintro e w5 ⟨nv, nb, rfl, hp5, hpl5, hb5⟩
        obtain ⟨_, na, nc, rfl, _⟩ := id hp5
        have HO5 := hide (HO.out.below hb5)
        have HR5 := hide (HR4.out.below hb5)
        have hB5 := below_next hB4 hb5
        have hz5 := hb5.size
        have Hp5 := hide hp5
        have Hpl5 := hide hpl5
        clear hp5 hpl5 hb5 HX4 HR4 hB4 HO
        go_wp2_with fail
        refine (l01Take_any OUT w3.heap.size OUT nb a4 c4 (.slice a5 p.hn c5) (.slice na s.kn nc) p s _ HO5.out.box (Nat.le_refl _) mc4 HO5.out.own Hp5.out (fun h0 => by have := Hpl5.out h0; omega) Hs.out.2.2.2 hO1).mono ?_
        rintro e w6 (⟨i, hi6, rfl, hbx6, ho6, ht6⟩ | ⟨hno, rfl, hb6⟩)
        · have HR6 := hide (HR5.out.turned ht6 (by omega))
          have hB6 : Below w.heap.size w w6 := hB5.trans (ht6.below (by have := hB5.size; omega) (fun k hk => by omega))
          have hal := below_alloc w6 (.cells #[.int .i64 (i : Int), .int .i64 s.birth] 33)
          have hB7 := below_next hB6 hal
          have HR7 := hide (HR6.out.below hal)
          have Ho7 := hide (ho6.below hal)
          have Hbx7 := hide (hbx6.below hal)
          have hP7 := Box2.new w6 (.int .i64 (i : Int)) (.int .i64 s.birth) 33
          have hz7 := hal.size
          clear hbx6 ho6 ht6 HR6 HR5 hB5 hB6 hal HO5 Hp5 Hpl5
          obtain ⟨⟨x0, x1⟩, ⟨x2, x3⟩⟩ := Hbx7.out
          obtain ⟨⟨y0, y1⟩, ⟨y2, y3⟩⟩ := hP7
          obtain ⟨⟨u0, u1⟩, ⟨u2, u3⟩, ⟨u4, u5⟩, ⟨u6, u7⟩, ⟨u8, u9⟩⟩ := HR7.out
          go_wp2
          have HR8 := HR7.out.put (.slice a4 p.n c4) (.slice a5 p.hn c5) (.int .i64 (i : Int)) (.int .i64 s.birth) (.int .i64 0)
          have hpr := out_ret (R := w.heap.size + 1 + 1) (u2 := .int .i64 (i : Int)) (u3 := .int .i64 s.birth) (u4 := .int .i64 0) Ho7.out (by omega) (by omega) hz7 hB7
          rw [take_ok HT.out hi6]
          exact bodyPost_ret (v := .agg #[.slice a4 p.n c4, .slice a5 p.hn c5, .int .i64 (i : Int), .int .i64 s.birth, .int .i64 0]) (by simp [results, Try.results7, go_sem, HR8.1.1, HR8.2.1.1, HR8.2.2.1.1, HR8.2.2.2.1.1, HR8.2.2.2.2.1]) rfl ⟨_, _, rfl, hpr.1, hpr.2⟩
        · have hal := below_next hb6 (below_alloc w6 (.cells #[.int .i64 0, .int .i64 0] 33))
          have HR7 := hide (HR5.out.below hal)
          have hB7 := below_next hB5 hal
          clear HO5 Hp5 Hpl5 HR5 hB5 hb6
          obtain ⟨⟨u0, u1⟩, ⟨u2, u3⟩, ⟨u4, u5⟩, ⟨u6, u7⟩, ⟨u8, u9⟩⟩ := HR7.out
          go_wp2
          have HR6 := HR7.out.put (.slice none 0 0) (.slice none 0 0) (.int .i64 0) (.int .i64 0) (.int .i64 6)
          have hpr := none_ret (R := w.heap.size + 1 + 1) (u2 := .int .i64 0) (u3 := .int .i64 0) (u4 := .int .i64 6) (by omega) hB7
          rw [take_full HT.out hno]
          exact bodyPost_ret (v := .agg #[.slice none 0 0, .slice none 0 0, .int .i64 0, .int .i64 0, .int .i64 6]) (by simp [results, Try.results7, go_sem, HR6.1.1, HR6.2.1.1, HR6.2.2.1.1, HR6.2.2.2.1.1, HR6.2.2.2.2.1]) rfl ⟨_, _, rfl, hpr.1, hpr.2⟩
      · have HT := hide hT
        obtain rfl : t = false := bool_no ht hT
        clear ht hT
        obtain ⟨⟨u0, u1⟩, ⟨u2, u3⟩, ⟨u4, u5⟩, ⟨u6, u7⟩, ⟨u8, u9⟩⟩ := HR3.out
        go_wp2
        have HR6 := HR3.out.put (.slice none 0 0) (.slice none 0 0) (.int .i64 0) (.int .i64 0) (.int .i64 1)
        have hpr := none_ret (R := w.heap.size + 1 + 1) (u2 := .int .i64 0) (u3 := .int .i64 0) (u4 := .int .i64 1) (by omega) hB3
        rw [take_form (fun h => HT.out h.2.2)]
        exact bodyPost_ret (v := .agg #[.slice none 0 0, .slice none 0 0, .int .i64 0, .int .i64 0, .int .i64 1]) (by simp [results, Try.results7, go_sem, HR6.1.1, HR6.2.1.1, HR6.2.2.1.1, HR6.2.2.2.1.1, HR6.2.2.2.2.1]) rfl ⟨_, _, rfl, hpr.1, hpr.2⟩
  · have HRt := hide hRt
    obtain rfl : t = false := bool_no ht hRt
    clear ht hRt
    obtain ⟨⟨u0, u1⟩, ⟨u2, u3⟩, ⟨u4, u5⟩, ⟨u6, u7⟩, ⟨u8, u9⟩⟩ := HR1.out
    go_wp2
    have HR6 := HR1.out.put (.slice none 0 0) (.slice none 0 0) (.int .i64 0) (.int .i64 0) (.int .i64 1)
    have hpr := none_ret (R := w.heap.size + 1 + 1) (u2 := .int .i64 0) (u3 := .int .i64 0) (u4 := .int .i64 1) (by omega) hB1
    rw [take_form (fun h => HRt.out h.1)]
    exact bodyPost_ret (v := .agg #[.slice none 0 0, .slice none 0 0, .int .i64 0, .int .i64 0, .int .i64 1]) (by simp [results, Try.results7, go_sem, HR6.1.1, HR6.2.1.1, HR6.2.2.1.1, HR6.2.2.2.1.1, HR6.2.2.2.2.1]) rfl ⟨_, _, rfl, hpr.1, hpr.2⟩

end Go.Proofs.Ytjbcjlednedboaa
