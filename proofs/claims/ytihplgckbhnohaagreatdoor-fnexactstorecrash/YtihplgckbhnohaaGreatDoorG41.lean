/- What spec.StoreCrash answers. -/
import Derived.Test.YtihplgckbhnohaaGreatDoorG24
import Derived.Test.YtihplgckbhnohaaGreatDoorG26
import Derived.Test.YtihplgckbhnohaaGreatDoorG39
import Derived.Test.YtihplgckbhnohaaGreatDoorG4
import Derived.Test.YtihplgckbhnohaaGreatDoorG5
import Derived.Test.YtihplgckbhnohaaGreatDoorG1
import Derived.Test.YtihplgckbhnohaaGreatDoorG3
import Derived.Deep.RegionHeld3
namespace Go.Proofs.YtihplgckbhnohaaGreatDoor
open Go.RowKit
set_option linter.unusedVariables false
set_option maxRecDepth 20000 in
set_option maxHeartbeats 1000000 in
theorem specStoreCrash_any (v0 v1 v2 v3 u0 u1 u2 u3 : Value) (lo hi : Nat) (S : StoreD) (w : World) (h : StoreAt w lo hi v0 v1 v2 v3 u0 u1 u2 u3 S) (b1 : poolN S.safe.pool ≤ 1048576) (b2 : S.safe.sn ≤ 1048576) (b3 : S.safe.pn ≤ 1048576) (b4 : DeadsN S.safe) :
    Calls Tryz.prog 15 #[storeV v0 v1 v2 v3 u0 u1 u2 u3 S] w fun e w' => ∃ o : SOutD, ((¬ StoreOk S ∧ o = refuseS 1) ∨ (StoreOk S ∧ ¬ True ∧ o = refuseS (errC 4)) ∨ (StoreOk S ∧ True ∧ o = ⟨⟨S.safe, S.safe⟩, 0⟩)) ∧ NewSOut o w e w' := by
  obtain ⟨a0, ac0, a1, ac1, a2, ac2, a3, ac3, rfl, rfl, rfl, rfl⟩ := h.live.form
  obtain ⟨c0, cc0, c1, cc1, c2, cc2, c3, cc3, rfl, rfl, rfl, rfl⟩ := h.safe.form
  have Hp := hideW h
  have hm : S.safe.pool.n ≤ maxLen := h.safe.pool.1.1
  have hm2 : S.live.pool.n ≤ maxLen := h.live.pool.1.1
  unfold maxLen at hm hm2
  clear h
  have ha := below_alloc w (.cells #[.slice a0 S.live.pool.n ac0, .slice a1 S.live.pool.hn ac1, .int .i64 S.live.time, .int .i64 S.live.next, .slice a2 S.live.sn ac2, .slice a3 S.live.pn ac3, .slice c0 S.safe.pool.n cc0, .slice c1 S.safe.pool.hn cc1, .int .i64 S.safe.time, .int .i64 S.safe.next, .slice c2 S.safe.sn cc2, .slice c3 S.safe.pn cc3] 41)
  have hb2 := below_alloc (w.alloc (.cells #[.slice a0 S.live.pool.n ac0, .slice a1 S.live.pool.hn ac1, .int .i64 S.live.time, .int .i64 S.live.next, .slice a2 S.live.sn ac2, .slice a3 S.live.pn ac3, .slice c0 S.safe.pool.n cc0, .slice c1 S.safe.pool.hn cc1, .int .i64 S.safe.time, .int .i64 S.safe.next, .slice c2 S.safe.sn cc2, .slice c3 S.safe.pn cc3] 41)) (.cells #[.slice none 0 0, .slice none 0 0, .int .i64 0, .int .i64 0, .slice none 0 0, .slice none 0 0, .slice none 0 0, .slice none 0 0, .int .i64 0, .int .i64 0, .slice none 0 0, .slice none 0 0, .int .i64 0] 43)
  have hb := below_next ha hb2
  have HSn := (Box12.new w (.slice a0 S.live.pool.n ac0) (.slice a1 S.live.pool.hn ac1) (.int .i64 S.live.time) (.int .i64 S.live.next) (.slice a2 S.live.sn ac2) (.slice a3 S.live.pn ac3) (.slice c0 S.safe.pool.n cc0) (.slice c1 S.safe.pool.hn cc1) (.int .i64 S.safe.time) (.int .i64 S.safe.next) (.slice c2 S.safe.sn cc2) (.slice c3 S.safe.pn cc3) 41).below hb2
  obtain ⟨⟨y0, -⟩, ⟨y1, -⟩, ⟨y2, -⟩, ⟨y3, -⟩, ⟨y4, -⟩, ⟨y5, -⟩, ⟨y6, -⟩, ⟨y7, -⟩, ⟨y8, -⟩, ⟨y9, -⟩, ⟨y10, -⟩, ⟨y11, -⟩⟩ := id HSn
  have HR := Box13.new (w.alloc (.cells #[.slice a0 S.live.pool.n ac0, .slice a1 S.live.pool.hn ac1, .int .i64 S.live.time, .int .i64 S.live.next, .slice a2 S.live.sn ac2, .slice a3 S.live.pn ac3, .slice c0 S.safe.pool.n cc0, .slice c1 S.safe.pool.hn cc1, .int .i64 S.safe.time, .int .i64 S.safe.next, .slice c2 S.safe.sn cc2, .slice c3 S.safe.pn cc3] 41)) (.slice none 0 0) (.slice none 0 0) (.int .i64 0) (.int .i64 0) (.slice none 0 0) (.slice none 0 0) (.slice none 0 0) (.slice none 0 0) (.int .i64 0) (.int .i64 0) (.slice none 0 0) (.slice none 0 0) (.int .i64 0) 43
  rw [World.size_alloc] at HR
  have hz : w.heap.size + 2 ≤ ((w.alloc (.cells #[.slice a0 S.live.pool.n ac0, .slice a1 S.live.pool.hn ac1, .int .i64 S.live.time, .int .i64 S.live.next, .slice a2 S.live.sn ac2, .slice a3 S.live.pn ac3, .slice c0 S.safe.pool.n cc0, .slice c1 S.safe.pool.hn cc1, .int .i64 S.safe.time, .int .i64 S.safe.next, .slice c2 S.safe.sn cc2, .slice c3 S.safe.pn cc3] 41)).alloc (.cells #[.slice none 0 0, .slice none 0 0, .int .i64 0, .int .i64 0, .slice none 0 0, .slice none 0 0, .slice none 0 0, .slice none 0 0, .int .i64 0, .int .i64 0, .slice none 0 0, .slice none 0 0, .int .i64 0] 43)).heap.size := by rw [World.size_alloc, World.size_alloc]; omega
  go_enter Tryz.func15, Tryz.ntmps15
  go_wp2_with fail
  clear y0 y1 y2 y3 y4 y5 y6 y7 y8 y9 y10 y11
  generalize ((w.alloc (.cells #[.slice a0 S.live.pool.n ac0, .slice a1 S.live.pool.hn ac1, .int .i64 S.live.time, .int .i64 S.live.next, .slice a2 S.live.sn ac2, .slice a3 S.live.pn ac3, .slice c0 S.safe.pool.n cc0, .slice c1 S.safe.pool.hn cc1, .int .i64 S.safe.time, .int .i64 S.safe.next, .slice c2 S.safe.sn cc2, .slice c3 S.safe.pn cc3] 41)).alloc (.cells #[.slice none 0 0, .slice none 0 0, .int .i64 0, .int .i64 0, .slice none 0 0, .slice none 0 0, .slice none 0 0, .slice none 0 0, .int .i64 0, .int .i64 0, .slice none 0 0, .slice none 0 0, .int .i64 0] 43)) = W2 at hb HR hz HSn ⊢
  clear ha hb2
  refine (specStoreRight_any _ _ _ _ _ _ _ _ lo hi S W2 (Hp.out.below hb)).mono ?_
  rintro e w5 ⟨⟨t, rfl, ht⟩, hb5⟩
  have hbC := below_next hb hb5
  have HS5 := HSn.below hb5
  have HR3 := HR.below hb5
  have hz5 := hb5.size
  clear HSn HR
  cases t
  · have Hn := hideW (show ¬ StoreOk S from fun hA => absurd (ht.2 hA) (by simp))
    clear ht HS5
    have HR4 := hideW HR3
    obtain ⟨⟨r0, g0⟩, ⟨r1, g1⟩, ⟨r2, g2⟩, ⟨r3, g3⟩, ⟨r4, g4⟩, ⟨r5, g5⟩, ⟨r6, g6⟩, ⟨r7, g7⟩, ⟨r8, g8⟩, ⟨r9, g9⟩, ⟨r10, g10⟩, ⟨r11, g11⟩, ⟨r12, g12⟩⟩ := HR3
    go_wp2_with fail
    have HRz : Box13 (((((((((((((w5.setCell ⟨w.heap.size + 1, 0, none⟩ (.slice none 0 0)).setCell ⟨w.heap.size + 1, 1, none⟩ (.slice none 0 0)).setCell ⟨w.heap.size + 1, 2, none⟩ (.int .i64 0)).setCell ⟨w.heap.size + 1, 3, none⟩ (.int .i64 0)).setCell ⟨w.heap.size + 1, 4, none⟩ (.slice none 0 0)).setCell ⟨w.heap.size + 1, 5, none⟩ (.slice none 0 0)).setCell ⟨w.heap.size + 1, 6, none⟩ (.slice none 0 0)).setCell ⟨w.heap.size + 1, 7, none⟩ (.slice none 0 0)).setCell ⟨w.heap.size + 1, 8, none⟩ (.int .i64 0)).setCell ⟨w.heap.size + 1, 9, none⟩ (.int .i64 0)).setCell ⟨w.heap.size + 1, 10, none⟩ (.slice none 0 0)).setCell ⟨w.heap.size + 1, 11, none⟩ (.slice none 0 0)).setCell ⟨w.heap.size + 1, 12, none⟩ (.int .i64 1)) (w.heap.size + 1) (.slice none 0 0) (.slice none 0 0) (.int .i64 0) (.int .i64 0) (.slice none 0 0) (.slice none 0 0) (.slice none 0 0) (.slice none 0 0) (.int .i64 0) (.int .i64 0) (.slice none 0 0) (.slice none 0 0) (.int .i64 1) := HR4.out.put (.slice none 0 0) (.slice none 0 0) (.int .i64 0) (.int .i64 0) (.slice none 0 0) (.slice none 0 0) (.slice none 0 0) (.slice none 0 0) (.int .i64 0) (.int .i64 0) (.slice none 0 0) (.slice none 0 0) (.int .i64 1)
    have hT : Turned (fun k => k = w.heap.size + 1) w5 (((((((((((((w5.setCell ⟨w.heap.size + 1, 0, none⟩ (.slice none 0 0)).setCell ⟨w.heap.size + 1, 1, none⟩ (.slice none 0 0)).setCell ⟨w.heap.size + 1, 2, none⟩ (.int .i64 0)).setCell ⟨w.heap.size + 1, 3, none⟩ (.int .i64 0)).setCell ⟨w.heap.size + 1, 4, none⟩ (.slice none 0 0)).setCell ⟨w.heap.size + 1, 5, none⟩ (.slice none 0 0)).setCell ⟨w.heap.size + 1, 6, none⟩ (.slice none 0 0)).setCell ⟨w.heap.size + 1, 7, none⟩ (.slice none 0 0)).setCell ⟨w.heap.size + 1, 8, none⟩ (.int .i64 0)).setCell ⟨w.heap.size + 1, 9, none⟩ (.int .i64 0)).setCell ⟨w.heap.size + 1, 10, none⟩ (.slice none 0 0)).setCell ⟨w.heap.size + 1, 11, none⟩ (.slice none 0 0)).setCell ⟨w.heap.size + 1, 12, none⟩ (.int .i64 1)) := Turned.put13 w5 (w.heap.size + 1) (.slice none 0 0) (.slice none 0 0) (.int .i64 0) (.int .i64 0) (.slice none 0 0) (.slice none 0 0) (.slice none 0 0) (.slice none 0 0) (.int .i64 0) (.int .i64 0) (.slice none 0 0) (.slice none 0 0) (.int .i64 1)
    generalize (((((((((((((w5.setCell ⟨w.heap.size + 1, 0, none⟩ (.slice none 0 0)).setCell ⟨w.heap.size + 1, 1, none⟩ (.slice none 0 0)).setCell ⟨w.heap.size + 1, 2, none⟩ (.int .i64 0)).setCell ⟨w.heap.size + 1, 3, none⟩ (.int .i64 0)).setCell ⟨w.heap.size + 1, 4, none⟩ (.slice none 0 0)).setCell ⟨w.heap.size + 1, 5, none⟩ (.slice none 0 0)).setCell ⟨w.heap.size + 1, 6, none⟩ (.slice none 0 0)).setCell ⟨w.heap.size + 1, 7, none⟩ (.slice none 0 0)).setCell ⟨w.heap.size + 1, 8, none⟩ (.int .i64 0)).setCell ⟨w.heap.size + 1, 9, none⟩ (.int .i64 0)).setCell ⟨w.heap.size + 1, 10, none⟩ (.slice none 0 0)).setCell ⟨w.heap.size + 1, 11, none⟩ (.slice none 0 0)).setCell ⟨w.heap.size + 1, 12, none⟩ (.int .i64 1)) = Wz at HRz hT ⊢
    have hbz := (hbC).size
    refine bodyPost_ret (v := .agg #[.slice none 0 0, .slice none 0 0, .int .i64 0, .int .i64 0, .slice none 0 0, .slice none 0 0, .slice none 0 0, .slice none 0 0, .int .i64 0, .int .i64 0, .slice none 0 0, .slice none 0 0, .int .i64 1]) (by simp [results, Tryz.results15, go_sem, HRz.1.1, HRz.2.1.1, HRz.2.2.1.1, HRz.2.2.2.1.1, HRz.2.2.2.2.1.1, HRz.2.2.2.2.2.1.1, HRz.2.2.2.2.2.2.1.1, HRz.2.2.2.2.2.2.2.1.1, HRz.2.2.2.2.2.2.2.2.1.1, HRz.2.2.2.2.2.2.2.2.2.1.1, HRz.2.2.2.2.2.2.2.2.2.2.1.1, HRz.2.2.2.2.2.2.2.2.2.2.2.1.1, HRz.2.2.2.2.2.2.2.2.2.2.2.2.1]) rfl (⟨_, Or.inl ⟨Hn.out, rfl⟩, _, _, _, _, _, _, _, _, rfl, no_store (Nat.le_trans hbz hT.size), ?_⟩)
    exact (hbC).trans (hT.below (B := w.heap.size) hbz (fun k e => by omega))
  have Hs := hideW (ht.1 rfl)
  clear ht
  obtain ⟨⟨y0, -⟩, ⟨y1, -⟩, ⟨y2, -⟩, ⟨y3, -⟩, ⟨y4, -⟩, ⟨y5, -⟩, ⟨y6, -⟩, ⟨y7, -⟩, ⟨y8, -⟩, ⟨y9, -⟩, ⟨y10, -⟩, ⟨y11, -⟩⟩ := id HS5
  go_wp2_with fail
  clear y0 y1 y2 y3 y4 y5 y6 y7 y8 y9 y10 y11
  refine (l04Copy_any _ _ _ _ lo hi S.safe w5 (Hp.out.safe.below hbC) b1 b2 b3 b4).mono ?_
  rintro e w6 ⟨q0, q1, q2, q3, rfl, ho, hb6⟩
  obtain ⟨l0, lc0, l1, lc1, l2, lc2, l3, lc3, rfl, rfl, rfl, rfl⟩ := ho.form
  have hal := below_alloc w6 (.cells #[.slice l0 S.safe.pool.n lc0, .slice l1 S.safe.pool.hn lc1, .int .i64 S.safe.time, .int .i64 S.safe.next, .slice l2 S.safe.sn lc2, .slice l3 S.safe.pn lc3] 39)
  have HV := Box6.new w6 (.slice l0 S.safe.pool.n lc0) (.slice l1 S.safe.pool.hn lc1) (.int .i64 S.safe.time) (.int .i64 S.safe.next) (.slice l2 S.safe.sn lc2) (.slice l3 S.safe.pn lc3) 39
  have hbA := below_next hb6 hal
  have HRa := hideW (HR3.below hbA)
  have HPa := hideW (HS5.below hbA)
  have Ho := hideW (ho.below hal)
  have hz6 : w5.heap.size ≤ w6.heap.size ∧ w6.heap.size < (w6.alloc (.cells #[.slice l0 S.safe.pool.n lc0, .slice l1 S.safe.pool.hn lc1, .int .i64 S.safe.time, .int .i64 S.safe.next, .slice l2 S.safe.sn lc2, .slice l3 S.safe.pn lc3] 39)).heap.size := ⟨hb6.size, by rw [World.size_alloc]; omega⟩
  have hbB := below_next hbC hbA
  have HVh := hideW HV
  clear ho HR3 HS5
  obtain ⟨⟨x0, -⟩, ⟨x1, -⟩, ⟨x2, -⟩, ⟨x3, -⟩, ⟨x4, -⟩, ⟨x5, -⟩⟩ := HV
  go_wp2_with fail
  clear x0 x1 x2 x3 x4 x5
  generalize w6.alloc (.cells #[.slice l0 S.safe.pool.n lc0, .slice l1 S.safe.pool.hn lc1, .int .i64 S.safe.time, .int .i64 S.safe.next, .slice l2 S.safe.sn lc2, .slice l3 S.safe.pn lc3] 39) = W4 at HVh HRa HPa Ho hz6 hbB ⊢
  clear hal hbA hb6
  generalize hVe : w6.heap.size = V at HVh Ho hz6 ⊢
  clear hVe
  go_loopw [4] (fun i wr => ∃ (k : Nat) (P Q R : Nat → Prop), k ≤ S.safe.pool.n ∧ i = .int .i64 k ∧ WorldIn wr P Q R (.slice l0 S.safe.pool.n lc0) (.slice l1 S.safe.pool.hn lc1) (.slice l2 S.safe.sn lc2) (.slice l3 S.safe.pn lc3) S.safe ∧ (∀ j, P j ∨ Q j ∨ R j → w5.heap.size ≤ j ∧ j < wr.heap.size ∧ j ≠ V) ∧ Box6 wr V (.slice l0 S.safe.pool.n lc0) (.slice l1 S.safe.pool.hn lc1) (.int .i64 S.safe.time) (.int .i64 S.safe.next) (.slice l2 S.safe.sn lc2) (.slice l3 S.safe.pn lc3) ∧ Box13 wr (w.heap.size + 1) (.slice none 0 0) (.slice none 0 0) (.int .i64 0) (.int .i64 0) (.slice none 0 0) (.slice none 0 0) (.slice none 0 0) (.slice none 0 0) (.int .i64 0) (.int .i64 0) (.slice none 0 0) (.slice none 0 0) (.int .i64 0) ∧ Box12 wr w.heap.size (.slice a0 S.live.pool.n ac0) (.slice a1 S.live.pool.hn ac1) (.int .i64 S.live.time) (.int .i64 S.live.next) (.slice a2 S.live.sn ac2) (.slice a3 S.live.pn ac3) (.slice c0 S.safe.pool.n cc0) (.slice c1 S.safe.pool.hn cc1) (.int .i64 S.safe.time) (.int .i64 S.safe.next) (.slice c2 S.safe.sn cc2) (.slice c3 S.safe.pn cc3) ∧ Below w.heap.size w wr ∧ W4.heap.size ≤ wr.heap.size) (fun i _ => S.safe.pool.n - (intOf i).toNat)
  case atStart =>
    obtain ⟨P, Q, R, hin, hl⟩ := Ho.out
    exact ⟨0, P, Q, R, Nat.zero_le _, rfl, hin, fun j hj => by have := hl j hj; omega, HVh.out, HRa.out, HPa.out, hbB, Nat.le_refl _⟩
  case round =>
    obtain ⟨k, P, Q, R, hk, rfl, hin, hl, hV, hR, hP, hb8, hz8⟩ := hrel
    have Hin := hideW hin
    have Hl := hideW hl
    have HV5 := hideW hV
    have HR5 := hideW hR
    have HP5 := hideW hP
    clear hin hl hV hR hP Ho HVh HRa HPa
    by_cases hlt : k < S.safe.pool.n
    · have hlt' : (k : Int) < (S.safe.pool.n : Int) := by omega
      have hlt2 : k < S.live.pool.n := by have := Hs.out.many; omega
      have hlt3 : (k : Int) < (S.live.pool.n : Int) := by omega
      obtain ⟨bs, off, ka, kc, rfl, hPb, ⟨⟨q0, r0⟩, ⟨q1, r1⟩, ⟨q2, r2⟩⟩, hsl, hre⟩ := Hin.out.pool.reset hlt
      have Hre := hideW hre
      have Hcl0 := hideW (And.intro (show Cell wr bs (off + k * 3) _ from ⟨q0, r0⟩) (And.intro (show Cell wr bs (off + k * 3 + 1) _ from ⟨q1, r1⟩) (show Cell wr bs (off + k * 3 + 2) _ from ⟨q2, r2⟩)))
      have hbs := Hl.out bs (Or.inl hPb)
      have hbl := lt_of_cell q0
      have Hsl := hideW hsl
      clear hsl hre
      obtain ⟨⟨x0, -⟩, -⟩ := HV5.out
      go_wp2_with fail
      clear q0 q1 q2 r0 r1 r2 x0
      refine (l01Free_any _ _ _ _ _ (S.safe.pool.s k) wr Hsl.out).mono ?_
      rintro e w7 ⟨⟨t, rfl, ht⟩, hb7⟩
      have Ht := hideW ht
      have hB7 := below_next hb8 hb7
      have Hal7 := hideW hb7
      have hz7 := hb7.size
      clear ht
      cases t
      rotate_left
      · go_wp2
        go_roundw
        case rel => exact ⟨k + 1, P, Q, R, by omega, by go_num, Hin.out.below Hal7.out, fun j hj => by have := Hl.out j hj; have := Hal7.out.size; omega, HV5.out.below Hal7.out, HR5.out.below Hal7.out, HP5.out.below Hal7.out, hB7, by omega⟩
        case measure => simp [intOf]; omega
      · have Hq := hideW (Hs.out.slots k hlt (fun h => absurd (Ht.out.2 h) (by simp)))
        obtain ⟨b', off', pa, pc, rfl, hs'⟩ := Hp.out.live.pool.1.cells hlt2
        obtain ⟨s0, s1, s2, hsl'⟩ := hs'
        have hbw' := lt_of_cell s0
        have Hsl' := hideW (hsl'.below hB7)
        have S0 := (hB7.cell (lt_of_cell s0)).trans s0
        have S1 := (hB7.cell (lt_of_cell s1)).trans s1
        have S2 := (hB7.cell (lt_of_cell s2)).trans s2
        have Hcl := hideW (And.intro (Hcl0.out.1.below Hal7.out) (And.intro (Hcl0.out.2.1.below Hal7.out) (Hcl0.out.2.2.below Hal7.out)))
        have HV7 := hideW (HV5.out.below Hal7.out)
        have HP7 := hideW (HP5.out.below Hal7.out)
        have Hc7 := hideW (Hin.out.below Hal7.out)
        have hkn : (S.live.pool.s k).kn ≤ 1048576 := by have h2 := slotN_le S.safe.pool.s hlt; have h3 := Hq.out.2.1.1; unfold slotN at h2; unfold poolN at b1; omega
        clear hsl' s0 s1 s2
        obtain ⟨⟨x0, -⟩, -⟩ := HV7.out
        obtain ⟨⟨y0, -⟩, -⟩ := HP7.out
        have e1 : bs ≠ V := hbs.2.2
        have e1' : V ≠ bs := fun h => e1 h.symm
        have e2 : bs ≠ w.heap.size := by omega
        have e2' : w.heap.size ≠ bs := by omega
        have e3 : bs ≠ b' := by omega
        have e3' : b' ≠ bs := by omega
        go_wp2_with fail
        go_region_held3 (fun w' => w'.cell? ⟨V, 0, none⟩ = some (.slice (some ⟨bs, off, none⟩) S.safe.pool.n lc0) ∧ w'.cell? ⟨w.heap.size, 0, none⟩ = some (.slice (some ⟨b', off', none⟩) S.live.pool.n ac0) ∧ w'.cell? ⟨b', off' + k * 3, none⟩ = some (.int .i64 (S.live.pool.s k).birth) ∧ w'.cell? ⟨b', off' + k * 3 + 1, none⟩ = some (.slice pa (S.live.pool.s k).kn pc) ∧ w'.cell? ⟨b', off' + k * 3 + 2, none⟩ = some (.string (S.live.pool.s k).data)) (go_keep)
          (first | (go_at_call 29; refine (l01Slot_any _ _ _ lo hi (S.live.pool.s k) _ ?_ hkn).mono ?_; (exact Hsl'.out.below (Below.refl _ _).drew); rintro e w8 ⟨nv, nb, rfl, hp8, hpl8, hb8⟩; have hb8' := below_undrew hb8; obtain ⟨_, na, nc, rfl, _⟩ := id hp8; obtain ⟨⟨x8, -⟩, -⟩ := HV7.out.below hb8'; obtain ⟨⟨y8, -⟩, -⟩ := HP7.out.below hb8'; have T0 := (hb8'.cell (lt_of_cell S0)).trans S0; have T1 := (hb8'.cell (lt_of_cell S1)).trans S1; have T2 := (hb8'.cell (lt_of_cell S2)).trans S2; obtain ⟨q0, q1, q2⟩ := Hcl.out; obtain ⟨q0, r0⟩ := q0.below hb8'; obtain ⟨q1, r1⟩ := q1.below hb8'; obtain ⟨q2, r2⟩ := q2.below hb8'))
        have hbx := below_next Hal7.out hb8'
        have hz8 := hb8'.size
        have Hp8 := hideW hp8
        have Hpl8 := hideW (show 0 < (S.live.pool.s k).kn → w7.heap.size ≤ nb ∧ nb < w8.heap.size from hpl8)
        have hB8 := below_next hB7 hb8'
        clear x0 y0 S0 S1 S2 x8 y8 T0 T1 T2 q0 q1 q2 r0 r1 r2 hp8 hpl8 hb8
        go_wp2_with fail
        go_roundw
        case rel =>
          have hT : Turned (fun j => j = bs) w8 (((w8.setCell ⟨bs, off + k * 3, none⟩ (.int .i64 (S.live.pool.s k).birth)).setCell ⟨bs, off + k * 3 + 1, none⟩ (.slice na (S.live.pool.s k).kn nc)).setCell ⟨bs, off + k * 3 + 2, none⟩ (.string (S.live.pool.s k).data)) := ((Turned.put w8 bs _ _).trans (Turned.put _ bs _ _)).trans (Turned.put _ bs _ _)
          have hnew := Hre.out w8 nb (.slice na (S.live.pool.s k).kn nc) hbx (Hp8.out.congrE Hq.out.symm.2.1) (fun h0 hx => by have := Hl.out nb (Or.inl hx); have := Hpl8.out (by have := Hq.out.2.1.1; omega); have := Hal7.out.size; omega)
          rw [Hq.out.1, Hq.out.2.2] at hnew
          have hin8 := Hin.out.below hbx
          have hsz := hT.size
          refine ⟨k + 1, _, Q, R, by omega, by go_num, ⟨hnew, hin8.sets.turned hT (fun j hj e => Hin.out.pq bs hPb (e ▸ hj)), hin8.snaps.turned hT (fun j hj e => Hin.out.pr bs hPb (e ▸ hj)), ?_, ?_, hin8.qr⟩, ?_, ((HV5.out.below hbx).turned hT e1'), ((HR5.out.below hbx).turned hT (by omega)), ((HP5.out.below hbx).turned hT e2'), hB8.trans (hT.below (B := w.heap.size) hB8.size (fun j e => by omega)), by omega⟩
          · rintro j (hj | ⟨h0, rfl⟩) hq
            · exact Hin.out.pq j hj hq
            · have := Hl.out _ (Or.inr (Or.inl hq)); have := Hpl8.out (by have := Hq.out.2.1.1; omega); have := Hal7.out.size; omega
          · rintro j (hj | ⟨h0, rfl⟩) hq
            · exact Hin.out.pr j hj hq
            · have := Hl.out _ (Or.inr (Or.inr hq)); have := Hpl8.out (by have := Hq.out.2.1.1; omega); have := Hal7.out.size; omega
          · rintro j ((hj | ⟨h0, rfl⟩) | hj | hj)
            · have := Hl.out j (Or.inl hj); have := hbx.size; omega
            · have := Hpl8.out (by have := Hq.out.2.1.1; omega); have := Hal7.out.size; omega
            · have := Hl.out j (Or.inr (Or.inl hj)); have := hbx.size; omega
            · have := Hl.out j (Or.inr (Or.inr hj)); have := hbx.size; omega
        case measure => simp [intOf]; omega
    · obtain rfl : k = S.safe.pool.n := by omega
      have hneV : V ≠ w.heap.size + 1 := by omega
      have hneR : w.heap.size + 1 ≠ V := by omega
      have hneW : w.heap.size + 1 ≠ w.heap.size := by omega
      have hneX : w.heap.size ≠ w.heap.size + 1 := by omega
      obtain ⟨⟨x0, -⟩, ⟨x1, -⟩, ⟨x2, -⟩, ⟨x3, -⟩, ⟨x4, -⟩, ⟨x5, -⟩⟩ := HV5.out
      obtain ⟨-, -, -, -, -, -, ⟨y6, -⟩, ⟨y7, -⟩, ⟨y8, -⟩, ⟨y9, -⟩, ⟨y10, -⟩, ⟨y11, -⟩⟩ := HP5.out
      go_wp2_with fail
      go_region_held3 (fun w' => w'.cell? ⟨V, 0, none⟩ = some (.slice l0 S.safe.pool.n lc0) ∧ w'.cell? ⟨V, 1, none⟩ = some (.slice l1 S.safe.pool.hn lc1) ∧ w'.cell? ⟨V, 2, none⟩ = some (.int .i64 S.safe.time) ∧ w'.cell? ⟨V, 3, none⟩ = some (.int .i64 S.safe.next) ∧ w'.cell? ⟨V, 4, none⟩ = some (.slice l2 S.safe.sn lc2) ∧ w'.cell? ⟨V, 5, none⟩ = some (.slice l3 S.safe.pn lc3) ∧ w'.cell? ⟨w.heap.size, 6, none⟩ = some (.slice c0 S.safe.pool.n cc0) ∧ w'.cell? ⟨w.heap.size, 7, none⟩ = some (.slice c1 S.safe.pool.hn cc1) ∧ w'.cell? ⟨w.heap.size, 8, none⟩ = some (.int .i64 S.safe.time) ∧ w'.cell? ⟨w.heap.size, 9, none⟩ = some (.int .i64 S.safe.next) ∧ w'.cell? ⟨w.heap.size, 10, none⟩ = some (.slice c2 S.safe.sn cc2) ∧ w'.cell? ⟨w.heap.size, 11, none⟩ = some (.slice c3 S.safe.pn cc3)) (go_keep)
        (first | (go_at_call 24; refine (l04Copy_any _ _ _ _ lo hi S.safe _ ?_ b1 b2 b3 b4).mono ?_; (exact Hp.out.safe.below hb8.drew); rintro e w9 ⟨q0, q1, q2, q3, rfl, hof, hb9⟩; obtain ⟨f0, fc0, f1, fc1, f2, fc2, f3, fc3, rfl, rfl, rfl, rfl⟩ := hof.form; have hb9' := below_undrew hb9; have Hof := hideW hof; have HR9 := hideW (HR5.out.below hb9'); obtain ⟨⟨m0, -⟩, ⟨m1, -⟩, ⟨m2, -⟩, ⟨m3, -⟩, ⟨m4, -⟩, ⟨m5, -⟩⟩ := HV5.out.below hb9'; obtain ⟨-, -, -, -, -, -, ⟨n6, -⟩, ⟨n7, -⟩, ⟨n8, -⟩, ⟨n9, -⟩, ⟨n10, -⟩, ⟨n11, -⟩⟩ := HP5.out.below hb9'; obtain ⟨⟨r0, g0⟩, ⟨r1, g1⟩, ⟨r2, g2⟩, ⟨r3, g3⟩, ⟨r4, g4⟩, ⟨r5, g5⟩, ⟨r6, g6⟩, ⟨r7, g7⟩, ⟨r8, g8⟩, ⟨r9, g9⟩, ⟨r10, g10⟩, ⟨r11, g11⟩, ⟨r12, g12⟩⟩ := HR5.out.below hb9'))
      clear x0 x1 x2 x3 x4 x5 y6 y7 y8 y9 y10 y11 m0 m1 m2 m3 m4 m5 n6 n7 n8 n9 n10 n11 r0 r1 r2 r3 r4 r5 r6 r7 r8 r9 r10 r11 r12 g0 g1 g2 g3 g4 g5 g6 g7 g8 g9 g10 g11 g12 hof
      have hbz := below_next hb8 hb9'
      have hs1 := hb9'.size
      have HRz := HR9.out.put (.slice l0 S.safe.pool.n lc0) (.slice l1 S.safe.pool.hn lc1) (.int .i64 S.safe.time) (.int .i64 S.safe.next) (.slice l2 S.safe.sn lc2) (.slice l3 S.safe.pn lc3) (.slice f0 S.safe.pool.n fc0) (.slice f1 S.safe.pool.hn fc1) (.int .i64 S.safe.time) (.int .i64 S.safe.next) (.slice f2 S.safe.sn fc2) (.slice f3 S.safe.pn fc3) (.int .i64 0)
      have hT := Turned.put13 w9 (w.heap.size + 1) (.slice l0 S.safe.pool.n lc0) (.slice l1 S.safe.pool.hn lc1) (.int .i64 S.safe.time) (.int .i64 S.safe.next) (.slice l2 S.safe.sn lc2) (.slice l3 S.safe.pn lc3) (.slice f0 S.safe.pool.n fc0) (.slice f1 S.safe.pool.hn fc1) (.int .i64 S.safe.time) (.int .i64 S.safe.next) (.slice f2 S.safe.sn fc2) (.slice f3 S.safe.pn fc3) (.int .i64 0)
      go_wp2_with fail
      have hs2 := hT.size
      have hs3 := hb8.size
      refine bodyPost_ret (v := .agg #[.slice l0 S.safe.pool.n lc0, .slice l1 S.safe.pool.hn lc1, .int .i64 S.safe.time, .int .i64 S.safe.next, .slice l2 S.safe.sn lc2, .slice l3 S.safe.pn lc3, .slice f0 S.safe.pool.n fc0, .slice f1 S.safe.pool.hn fc1, .int .i64 S.safe.time, .int .i64 S.safe.next, .slice f2 S.safe.sn fc2, .slice f3 S.safe.pn fc3, .int .i64 0]) (by simp [results, Tryz.results15, go_sem, HRz.1.1, HRz.2.1.1, HRz.2.2.1.1, HRz.2.2.2.1.1, HRz.2.2.2.2.1.1, HRz.2.2.2.2.2.1.1, HRz.2.2.2.2.2.2.1.1, HRz.2.2.2.2.2.2.2.1.1, HRz.2.2.2.2.2.2.2.2.1.1, HRz.2.2.2.2.2.2.2.2.2.1.1, HRz.2.2.2.2.2.2.2.2.2.2.1.1, HRz.2.2.2.2.2.2.2.2.2.2.2.1.1, HRz.2.2.2.2.2.2.2.2.2.2.2.2.1]) rfl ⟨⟨⟨S.safe, S.safe⟩, 0⟩, Or.inr (Or.inr ⟨Hs.out, trivial, rfl⟩), _, _, _, _, _, _, _, _, rfl, ?_, ?_⟩
      · refine two_worlds (mid := wr.heap.size) ?_ ?_ (by omega) (Nat.le_trans hs1 hs2)
        · refine ⟨P, Q, R, (Hin.out.below hb9').turned hT (fun j hj e => by have := Hl.out j hj; omega), fun j hj => ?_⟩
          have := Hl.out j hj
          exact ⟨by omega, this.2.1⟩
        · exact (Hof.out.turned hT (fun k e => by have : k < wr.drew.heap.size := by (show k < wr.heap.size); omega
                                                  omega)).wide (Nat.le_refl _) hs2
      · exact hbz.trans (hT.below (B := w.heap.size) hbz.size (fun k e => by omega))
end Go.Proofs.YtihplgckbhnohaaGreatDoor
