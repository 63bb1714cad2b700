/- What impl.PoolHold answers. -/
import Derived.Test.YtjbcjlednedboaaHoldA
namespace Go.Proofs.Ytjbcjlednedboaa
open Go.RowKit
set_option linter.unusedVariables false

theorem olds_at {w : World} {lo hi : Nat} {f : Nat → Int} {n c : Nat} {a : Option Addr} (h : IntsAt w lo hi (.slice a n c) n f) {w' : World} (hb : Below w.heap.size w w') : ∀ b, a = some b → ∀ j u, (ic f n)[j]? = some u → w'.cell? (b.add j) = some u := by
  intro b hab j u hj
  have hlt : j < n := by
    have := (List.getElem?_eq_some_iff.1 hj).1
    rw [ic_len] at this
    omega
  obtain ⟨b0, off, ha, hc⟩ := news_at h rfl hb (by omega)
  rw [ha] at hab
  simp only [Option.some.injEq] at hab
  subst hab
  rw [add_lit]
  exact hc j u hj
theorem none_len {w : World} {lo hi : Nat} {f : Nat → Int} {n c : Nat} {a : Option Addr} (h : IntsAt w lo hi (.slice a n c) n f) : a = none → n = 0 ∧ n = 0 := fun e => by
  obtain ⟨_, a2, c2, hv, _, hx⟩ := h
  simp only [Value.slice.injEq, true_and] at hv
  obtain ⟨rfl, rfl⟩ := hv
  by_cases h0 : 0 < n
  · obtain ⟨b, off, ha, _⟩ := hx h0
    rw [ha] at e
    cases e
  · omega
theorem below_of_grown {w w' : World} (h : w.grownBy w' none) : Below w.heap.size w w' := ⟨h.os, h.tape, h.output, h.size, fun k hk => h.block k hk (by simp)⟩
theorem news1_of {w : World} {b : Nat} {x : Value} (h : w.cell? ⟨b, 0, none⟩ = some x) : ∀ j u, [x][j]? = some u → w.cell? ((⟨b, 0, none⟩ : Addr).add j) = some u := by
  intro j u hj
  match j, hj with
  | 0, hj => simp at hj; subst hj; rw [add_lit]; exact h
  | (j + 1), hj => simp at hj

set_option maxRecDepth 20000 in
set_option maxHeartbeats 2000000 in
theorem implPoolHold_any (v0 v1 : Value) (lo hi : Nat) (p : PoolD) (xs xb : Int) (w : World) (h1 : PoolAt w lo hi v0 v1 p) (hn : poolN p ≤ 1048576) :
    Calls Try.prog 15 #[.agg #[v0, v1], .agg #[.int .i64 xs, .int .i64 xb]] w (NewOut (holdP p xs xb) w) := by
  have Hp := hide h1
  obtain ⟨a, c, a', c', rfl, rfl⟩ := h1.form
  have Hn := hide hn
  have hm2 : p.hn ≤ 1048576 := by unfold poolN at hn; omega
  have hm1 : p.n ≤ 1048576 := by unfold poolN at hn; omega
  have Hkn : Hid (∀ j, j < p.n → (p.s j).kn ≤ 1048576) := fun j hj => by have h2 := slotN_le p.s hj; unfold slotN at h2; unfold poolN at hn; omega
  have mc' : p.hn ≤ c' := by obtain ⟨_, ⟨_, _, _, e, h, _⟩⟩ := h1; simp only [Value.slice.injEq, true_and] at e; omega
  have hst := start3 w (.slice a p.n c) (.slice a' p.hn c') (.int .i64 xs) (.int .i64 xb) 26 33 35
  obtain ⟨i0, hi0, hzz⟩ := Option.map_eq_some_iff.1 infoInt64
  simp only [Prod.mk.injEq] at hzz
  have HI := hide (And.intro hi0 hzz)
  clear h1 hn hi0 hzz
  go_enter Try.func15, Try.ntmps15
  go_wp2_with fail
  generalize ((w.alloc (.cells #[.slice a p.n c, .slice a' p.hn c'] 26)).alloc (.cells #[.int .i64 xs, .int .i64 xb] 33)).alloc (.cells #[.slice none 0 0, .slice none 0 0, .int .i64 0, .int .i64 0, .int .i64 0] 35) = W at hst ⊢
  obtain ⟨hB, hX, hR, hba, hz⟩ := hst
  refine (implPoolRight_any _ _ lo hi p _ (Hp.out.below hba)).mono ?_
  rintro e w1 ⟨⟨t, rfl, ht⟩, hb1⟩
  have HB1 := hide (hB.below hb1)
  have HX1 := hide (hX.below hb1)
  have HR1 := hide (hR.below hb1)
  have hB1 := below_next hba hb1
  have hz1 : w.heap.size + 3 ≤ w1.heap.size := by have := hb1.size; omega
  clear hB hX hR hba hb1 hz
  by_cases hRt : Right p
  · have HRt := hide hRt
    obtain rfl : t = true := ht.2 hRt
    clear ht hRt
    obtain ⟨⟨x0, x1⟩, ⟨x2, x3⟩⟩ := HB1.out
    obtain ⟨⟨y0, y1⟩, ⟨y2, y3⟩⟩ := HX1.out
    go_wp2_with fail
    refine (isPtr_any _ p.n lo hi p.s _ _ _ (Hp.out.1.below hB1)).mono ?_
    rintro e w2 ⟨⟨t, rfl, ht⟩, hb2⟩
    rw [isPtr_iff HRt.out] at ht
    have HB2 := hide (HB1.out.below hb2)
    have HX2 := hide (HX1.out.below hb2)
    have HR2 := hide (HR1.out.below hb2)
    have hB2 := below_next hB1 hb2
    have hz2 : w.heap.size + 3 ≤ w2.heap.size := by have := hb2.size; omega
    clear hb2 hB1 HB1 HX1 HR1 hz1 x0 x1 x2 x3 y0 y1 y2 y3
    by_cases hP : Points p xs xb
    · have HP := hide hP
      obtain rfl : t = true := ht.2 hP
      clear ht hP
      obtain ⟨⟨x0, x1⟩, ⟨x2, x3⟩⟩ := HB2.out
      obtain ⟨⟨y0, y1⟩, ⟨y2, y3⟩⟩ := HX2.out
      go_wp2_with fail
      refine (contains_any _ p.hn lo hi p.h _ _ (Hp.out.2.below hB2)).mono ?_
      rintro e w3 ⟨⟨t, rfl, ht⟩, hw3⟩
      subst hw3
      by_cases hH : Has p.hn p.h xs
      · have HH := hide hH
        obtain rfl : t = true := ht.2 hH
        clear ht hH
        obtain ⟨⟨u0, u1⟩, ⟨u2, u3⟩, ⟨u4, u5⟩, ⟨u6, u7⟩, ⟨u8, u9⟩⟩ := HR2.out
        go_wp2
        have HR6 := HR2.out.put (.slice none 0 0) (.slice none 0 0) (.int .i64 0) (.int .i64 0) (.int .i64 4)
        have hpr := none_ret (R := w.heap.size + 1 + 1) (u2 := .int .i64 0) (u3 := .int .i64 0) (u4 := .int .i64 4) (by omega) hB2
        rw [hold_none HRt.out (fun h => h.2 HH.out)]
        exact bodyPost_ret (v := .agg #[.slice none 0 0, .slice none 0 0, .int .i64 0, .int .i64 0, .int .i64 4]) (by simp [results, Try.results15, go_sem, HR6.1.1, HR6.2.1.1, HR6.2.2.1.1, HR6.2.2.2.1.1, HR6.2.2.2.2.1]) rfl ⟨_, _, rfl, hpr.1, hpr.2⟩
      · have HH := hide hH
        obtain rfl : t = false := bool_no ht hH
        clear ht hH
        obtain ⟨⟨u0, u1⟩, ⟨u2, u3⟩, ⟨u4, u5⟩, ⟨u6, u7⟩, ⟨u8, u9⟩⟩ := HR2.out
        have hm2' : (p.hn : Int) ≤ (c' : Int) := by omega
        have n0 : w.heap.size + 1 + 1 ≠ w.heap.size := by omega
        have n1 : w.heap.size + 1 + 1 ≠ w.heap.size + 1 := by omega
        go_wp2_with fail
        go_region_held3 (fun w' => w'.cell? ⟨w.heap.size, 0, none⟩ = some (.slice a p.n c) ∧ w'.cell? ⟨w.heap.size, 1, none⟩ = some (.slice a' p.hn c') ∧ w'.cell? ⟨w.heap.size + 1, 0, none⟩ = some (.int .i64 xs)) (go_keep)
          (first
            | (go_at_call 49; refine (cloneSlots_any _ p.n lo hi p.s _ ?_ hm1 Hkn.out).mono ?_; (first | exact Hp.out.1.below hB2.drew | exact Hp.out.1.below (below_next hB2 (below_alloc _ _)).drew); rintro e w5 ⟨v5, bs, kb, kv, rfl, ho5, hap5, hpl5, hb5⟩; obtain ⟨_, sa, sc5, rfl, _⟩ := id ho5; (first | (have hnc : w5.cell? ⟨w3.heap.size, 0, none⟩ = some (.int .i64 xs) := ((cell_of_block (i := 0) (v := .int .i64 xs) (heap_alloc_new w3 (.cells #[.int .i64 xs] 2)) rfl).below (below_undrew hb5)).1) | skip); have hb5' : Below w3.heap.size w3 w5 := (by first | exact below_undrew hb5 | exact below_next (below_alloc _ _) (below_undrew hb5)); have hpl5' : ∀ k, SlotsB bs kb p.n p.s k → w3.heap.size ≤ k ∧ k < w5.heap.size := (by first | exact hpl5 | exact fun k hk => (by have := hpl5 k hk; simp at this; omega)); have z0 := (HB2.out.below hb5').1.1; have z1 := (HB2.out.below hb5').2.1; have z2 := (HX2.out.below hb5').1.1)
            | (refine step_append_grows rfl (.tmp 33) (.tmp 36) 24 rfl 2 i0 (.int .i64 0) 1 8 (by kernel_rfl) HI.out.1 HI.out.2.1 HI.out.2.2.1 HI.out.2.2.2 rfl (by decide) a' p.hn p.hn (ic p.h p.hn) (by simp [Act.eval]) (none_len Hp.out.2) (ic_len _ _) (olds_at Hp.out.2 (below_next hB2 (below_next hb5' (below_alloc w5 _)))) ⟨w5.heap.size, 0, none⟩ 1 1 [.int .i64 xs] (by simp [Act.eval]) rfl (news1 _ _ _) (one1 _) (by omega) (by unfold maxLen; omega) (by omega) ?_
               intro v6 w6 hown6 hgrow6
               obtain ⟨a6, c6, rfl, _⟩ := owns_form hown6
               have hb6 : Below w5.heap.size w5 w6 := below_next (below_alloc w5 _) (below_of_grown hgrow6)
               have hrow6 : w6.ownsRow w5.heap.size 2 1 (.slice a6 (p.hn + 1) c6) (p.hn + 1) (ic p.h p.hn ++ [.int .i64 xs]) := own_base hown6 (by simp)
               have hb6' := below_next hb5' hb6
               obtain ⟨⟨p0, p1⟩, ⟨p2, p3⟩⟩ := HB2.out.below hb6'
               obtain ⟨⟨p4, p5⟩, ⟨p6, p7⟩⟩ := HX2.out.below hb6'
               obtain ⟨⟨p8, p9⟩, ⟨p10, p11⟩, ⟨p12, p13⟩, ⟨p14, p15⟩, ⟨p16, p17⟩⟩ := HR2.out.below hb6'
               clear hown6 hgrow6)
            | (refine step_append_grows rfl (.tmp 33) (.tmp 36) 24 rfl 2 i0 (.int .i64 0) 1 8 (by kernel_rfl) HI.out.1 HI.out.2.1 HI.out.2.2.1 HI.out.2.2.2 rfl (by decide) a' p.hn p.hn (ic p.h p.hn) (by simp [Act.eval]) (none_len Hp.out.2) (ic_len _ _) (olds_at Hp.out.2 (below_next hB2 hb5')) ⟨w3.heap.size, 0, none⟩ 1 1 [.int .i64 xs] (by simp [Act.eval]) rfl (news1_of hnc) (one1 _) (by omega) (by unfold maxLen; omega) (by omega) ?_
               intro v6 w6 hown6 hgrow6
               obtain ⟨a6, c6, rfl, _⟩ := owns_form hown6
               have hb6 : Below w5.heap.size w5 w6 := below_of_grown hgrow6
               have hrow6 : w6.ownsRow w5.heap.size 2 1 (.slice a6 (p.hn + 1) c6) (p.hn + 1) (ic p.h p.hn ++ [.int .i64 xs]) := own_base hown6 (by simp)
               have hb6' := below_next hb5' hb6
               obtain ⟨⟨p0, p1⟩, ⟨p2, p3⟩⟩ := HB2.out.below hb6'
               obtain ⟨⟨p4, p5⟩, ⟨p6, p7⟩⟩ := HX2.out.below hb6'
               obtain ⟨⟨p8, p9⟩, ⟨p10, p11⟩, ⟨p12, p13⟩, ⟨p14, p15⟩, ⟨p16, p17⟩⟩ := HR2.out.below hb6'
               clear hown6 hgrow6))
        all_goals
          have Hpo := hide (parts_own (p := holdD p xs) (B := w3.heap.size) (M := w3.heap.size) (ho5.below hb6) hap5 (fun k hk => by have := hpl5' k hk; have := hb6.size; omega) (by show p.hn + 1 ≤ maxLen; unfold maxLen; omega) (by rw [← ic_hold] at hrow6; exact hrow6) (fun k e => by
            have h1 := hrow6.lt k e
            refine ⟨by have := hb5'.size; omega, Or.inr (Or.inr ⟨h1.2, fun hx => ?_⟩)⟩
            have := hpl5' k hx
            omega) (Nat.le_refl _) (fun e => absurd e (Nat.succ_ne_zero _)))
          have HR7 := hide (HR2.out.below hb6')
          have hB7 := below_next hB2 hb6'
          clear ho5 hap5 hpl5 hpl5' hb5 hb5' hb6 hb6' hrow6
          go_wp2
          have HR8 := HR7.out.put (.slice sa p.n sc5) (.slice a6 (p.hn + 1) c6) (.int .i64 0) (.int .i64 0) (.int .i64 0)
          have hpr := out_ret (R := w.heap.size + 1 + 1) (u2 := .int .i64 0) (u3 := .int .i64 0) (u4 := .int .i64 0) Hpo.out (by omega) (by omega) (Nat.le_refl _) hB7
          rw [hold_ok HRt.out HP.out HH.out]
          exact bodyPost_ret (v := .agg #[.slice sa p.n sc5, .slice a6 (p.hn + 1) c6, .int .i64 0, .int .i64 0, .int .i64 0]) (by simp [results, Try.results15, go_sem, HR8.1.1, HR8.2.1.1, HR8.2.2.1.1, HR8.2.2.2.1.1, HR8.2.2.2.2.1]) rfl ⟨_, _, rfl, hpr.1, hpr.2⟩
    · have HP := hide hP
      obtain rfl : t = false := bool_no ht hP
      clear ht hP
      obtain ⟨⟨u0, u1⟩, ⟨u2, u3⟩, ⟨u4, u5⟩, ⟨u6, u7⟩, ⟨u8, u9⟩⟩ := HR2.out
      go_wp2
      have HR6 := HR2.out.put (.slice none 0 0) (.slice none 0 0) (.int .i64 0) (.int .i64 0) (.int .i64 4)
      have hpr := none_ret (R := w.heap.size + 1 + 1) (u2 := .int .i64 0) (u3 := .int .i64 0) (u4 := .int .i64 4) (by omega) hB2
      rw [hold_none HRt.out (fun h => HP.out h.1)]
      exact bodyPost_ret (v := .agg #[.slice none 0 0, .slice none 0 0, .int .i64 0, .int .i64 0, .int .i64 4]) (by simp [results, Try.results15, go_sem, HR6.1.1, HR6.2.1.1, HR6.2.2.1.1, HR6.2.2.2.1.1, HR6.2.2.2.2.1]) rfl ⟨_, _, rfl, hpr.1, hpr.2⟩
  · have HRt := hide hRt
    obtain rfl : t = false := bool_no ht hRt
    clear ht hRt
    obtain ⟨⟨u0, u1⟩, ⟨u2, u3⟩, ⟨u4, u5⟩, ⟨u6, u7⟩, ⟨u8, u9⟩⟩ := HR1.out
    go_wp2
    have HR6 := HR1.out.put (.slice none 0 0) (.slice none 0 0) (.int .i64 0) (.int .i64 0) (.int .i64 1)
    have hpr := none_ret (R := w.heap.size + 1 + 1) (u2 := .int .i64 0) (u3 := .int .i64 0) (u4 := .int .i64 1) (by omega) hB1
    rw [hold_form HRt.out]
    exact bodyPost_ret (v := .agg #[.slice none 0 0, .slice none 0 0, .int .i64 0, .int .i64 0, .int .i64 1]) (by simp [results, Try.results15, go_sem, HR6.1.1, HR6.2.1.1, HR6.2.2.1.1, HR6.2.2.2.1.1, HR6.2.2.2.2.1]) rfl ⟨_, _, rfl, hpr.1, hpr.2⟩

end Go.Proofs.Ytjbcjlednedboaa
