/- What impl.SnapOf and impl.SetOf answer. -/
import Derived.Test.YtnonjdkligkepaaGreatG30
import Derived.Test.YtnonjdkligkepaaGreatG24
import Derived.Test.YtnonjdkligkepaaGreatG27
import Derived.Test.YtnonjdkligkepaaGreatRows
import Derived.Test.YtnonjdkligkepaaGreatG6
import Derived.Deep.RegionHeld3
import Derived.Deep.QuietTactic
import Derived.BigQuiet
namespace Go.Proofs.YtnonjdkligkepaaGreat
open Go.RowKit Go.Maps
set_option linter.unusedVariables false

set_option maxRecDepth 20000 in
set_option maxHeartbeats 1000000 in
theorem implSnapOf_any (v0 v1 v2 v3 : Value) (lo hi : Nat) (W : WorldD) (x : Int) (w : World) (h : WorldAt w lo hi v0 v1 v2 v3 W) (hwf : PrevsWf W) (hN : DeadsN W) (hx : (Lit.int .i64 x).wf = true) : Calls Tryz.prog 13 #[worldV v0 v1 v2 v3 W, .int .i64 x] w (NewSnap (snapAns W x) w) := by
  have Hp := hideW h
  have HN := hideW hN
  have Hwf := hideW hwf
  have Hkey := hideW (keyN_of hx)
  clear h hN hwf hx
  have hst : ∀ Wa Wb : World, Wa = w.alloc (.cells #[v0, v1, .int .i64 W.time, .int .i64 W.next, v2, v3] 38) → Wb = Wa.alloc (.cells #[.int .i64 0, .string ⟨#[]⟩, .string ⟨#[]⟩, .int .i64 0, .int .i64 0, .int .i64 0, .int .i64 0, .slice none 0 0] 46) → Box6 Wb w.heap.size v0 v1 (.int .i64 W.time) (.int .i64 W.next) v2 v3 ∧ Row8 Wb (w.heap.size + 1) (.int .i64 0) (.string ⟨#[]⟩) (.string ⟨#[]⟩) (.int .i64 0) (.int .i64 0) (.int .i64 0) (.int .i64 0) (.slice none 0 0) ∧ Below w.heap.size w Wb ∧ Wb.heap.size = w.heap.size + 1 + 1 := by
    rintro Wa Wb ea eb
    have ha := below_alloc w (.cells #[v0, v1, .int .i64 W.time, .int .i64 W.next, v2, v3] 38)
    have h1 := Box6.new w v0 v1 (.int .i64 W.time) (.int .i64 W.next) v2 v3 38
    have z1 : Wa.heap.size = w.heap.size + 1 := by rw [ea]; exact World.size_alloc _ _
    rw [← ea] at ha h1
    have hb := below_alloc Wa (.cells #[.int .i64 0, .string ⟨#[]⟩, .string ⟨#[]⟩, .int .i64 0, .int .i64 0, .int .i64 0, .int .i64 0, .slice none 0 0] 46)
    have h2 := Row8.new Wa (.int .i64 0) (.string ⟨#[]⟩) (.string ⟨#[]⟩) (.int .i64 0) (.int .i64 0) (.int .i64 0) (.int .i64 0) (.slice none 0 0) 46
    have z2 : Wb.heap.size = w.heap.size + 1 + 1 := by rw [eb, World.size_alloc, z1]
    rw [← eb, z1] at h2
    rw [← eb] at hb
    exact ⟨h1.below hb, h2, below_next ha hb, z2⟩
  obtain ⟨hX, hY, hbw, hsz⟩ := hst _ _ rfl rfl
  have HX := hideW hX
  have HY := hideW hY
  have HS := hideW hsz
  obtain ⟨⟨x0, -⟩, ⟨x1, -⟩, ⟨x2, -⟩, ⟨x3, -⟩, ⟨x4, -⟩, ⟨x5, -⟩⟩ := HX.out
  clear hst hX hY hsz
  go_enter Tryz.func13, Tryz.ntmps13
  go_wp2_with fail
  generalize (w.alloc (.cells #[v0, v1, .int .i64 W.time, .int .i64 W.next, v2, v3] 38)).alloc (.cells #[.int .i64 0, .string ⟨#[]⟩, .string ⟨#[]⟩, .int .i64 0, .int .i64 0, .int .i64 0, .int .i64 0, .slice none 0 0] 46) = W0 at HX HY HS hbw x0 x1 x2 x3 x4 x5 ⊢
  refine (implWorldRight_any v0 v1 v2 v3 lo hi W W0 (Hp.out.below hbw) Hwf.out).mono ?_
  rintro e w1 ⟨⟨t, rfl, ht⟩, hb1⟩
  have Ht := hideW (ht.trans (world_iff W))
  have hB1 := below_next hbw hb1
  have HX1 := hideW (HX.out.below hb1)
  have HY1 := hideW (HY.out.below hb1)
  have HS1 := hideW (show w.heap.size + 1 + 1 ≤ w1.heap.size by have := HS.out; have := hb1.size; omega)
  clear x0 x1 x2 x3 x4 x5 hb1 hbw HX HY HS ht
  cases t
  · have HA := hideW (show snapAns W x = zeroSnap from snapAns_no (fun h => absurd (Ht.out.2 h) (by simp)))
    obtain ⟨⟨y0, y0'⟩, ⟨y1, y1'⟩, ⟨y2, y2'⟩, ⟨y3, y3'⟩, ⟨y4, y4'⟩, ⟨y5, y5'⟩, ⟨y6, y6'⟩, ⟨y7, y7'⟩⟩ := HY1.out
    go_wp2
    have HR := HY1.out.put (.int .i64 0) (.string ⟨#[]⟩) (.string ⟨#[]⟩) (.int .i64 0) (.int .i64 0) (.int .i64 0) (.int .i64 0) (.slice none 0 0)
    refine bodyPost_ret (v := .agg #[.int .i64 0, .string ⟨#[]⟩, .string ⟨#[]⟩, .int .i64 0, .int .i64 0, .int .i64 0, .int .i64 0, .slice none 0 0]) (by simp [results, Tryz.results13, go_sem, HR.1.1, HR.2.1.1, HR.2.2.1.1, HR.2.2.2.1.1, HR.2.2.2.2.1.1, HR.2.2.2.2.2.1.1, HR.2.2.2.2.2.2.1.1, HR.2.2.2.2.2.2.2.1]) rfl ?_
    rw [HA.out]
    exact newSnap_zero ((hB1.trans ((Turned.putR8 w1 (w.heap.size + 1) (.int .i64 0) (.string ⟨#[]⟩) (.string ⟨#[]⟩) (.int .i64 0) (.int .i64 0) (.int .i64 0) (.int .i64 0) (.slice none 0 0)).below (B := w.heap.size) (by have := HS1.out; omega) (fun k e => by omega))))
  · have HW := hideW (Ht.out.1 rfl)
    have HA := hideW (show snapAns W x = aheadOf W x from snapAns_yes HW.out)
    have HD := hideW (show (aheadOf W x).dn ≤ 1048576 from aheadOf_dn HN.out x)
    obtain ⟨⟨x0, -⟩, ⟨x1, -⟩, ⟨x2, -⟩, ⟨x3, -⟩, ⟨x4, -⟩, ⟨x5, -⟩⟩ := HX1.out
    go_wp2_with fail
    refine (snapsById_any v0 v1 v2 v3 lo hi W w1 (Hp.out.below hB1) HW.out.names.2.2.2.1 ((world_iff W).2 HW.out).names.idsWf).mono ?_
    rintro e w2 ⟨vd, rfl, hm, hd, hb2⟩
    obtain ⟨a, c, hat, hp⟩ := snaps_look ((world_iff W).2 HW.out).names.dist hd x
    have Hat := hideW hat
    have HP := hideW (hp.below hb2)
    have HM := hideW hm
    have hB2 := below_next hB1 hb2
    have HX2 := hideW (HX1.out.below hb2)
    have HY2 := hideW (HY1.out.below hb2)
    have HS2 := hideW (show w.heap.size + 1 + 1 ≤ w2.heap.size by have := HS1.out; have := hb2.size; omega)
    clear hat hp hm hd x0 x1 x2 x3 x4 x5 hb2 hB1 HX1 HY1 HS1
    unfold snapV at Hat
    generalize aheadOf W x = S at *
    have ha3 := below_alloc w2 (.cells #[.int .i64 S.id, .string S.name, .string S.set, .int .i64 S.prev, .int .i64 S.time, .int .i64 S.rs, .int .i64 S.rb, .slice a S.dn c] 46)
    have hZ := Row8.new w2 (.int .i64 S.id) (.string S.name) (.string S.set) (.int .i64 S.prev) (.int .i64 S.time) (.int .i64 S.rs) (.int .i64 S.rb) (.slice a S.dn c) 46
    have HZ := hideW hZ
    have HB3 := hideW (below_next hB2 ha3)
    have HY3 := hideW (HY2.out.below ha3)
    have HP3 := hideW (HP.out.below ha3)
    have HS3 := hideW (show (w2.alloc (.cells #[.int .i64 S.id, .string S.name, .string S.set, .int .i64 S.prev, .int .i64 S.time, .int .i64 S.rs, .int .i64 S.rb, .slice a S.dn c] 46)).heap.size = w2.heap.size + 1 from World.size_alloc _ _)
    clear ha3 hZ
    obtain ⟨⟨z0, z0'⟩, ⟨z1, z1'⟩, ⟨z2, z2'⟩, ⟨z3, z3'⟩, ⟨z4, z4'⟩, ⟨z5, z5'⟩, ⟨z6, z6'⟩, ⟨z7, z7'⟩⟩ := HZ.out
    go_wp2_with (first
      | (at_lookup; refine wpList_lookup_raw _ rfl _ _ 83 rfl 2 46 lawI snapsT (zeroSnapV _) (w1.heap.size + 1) W.pn _ rfl HM.out _ _ rfl Hkey.out _ Hat.out ?_)
      | fail)
    clear z0 z0' z1 z1' z2 z2' z3 z3' z4 z4' z5 z5' z6 z6' z7 z7'
    generalize w2.alloc (.cells #[.int .i64 S.id, .string S.name, .string S.set, .int .i64 S.prev, .int .i64 S.time, .int .i64 S.rs, .int .i64 S.rb, .slice a S.dn c] 46) = W3 at HZ HB3 HY3 HP3 HS3 ⊢
    clear HY2 HX2 HP HM Hat Hkey hB2
    generalize w2.heap.size = V at HZ HS2 HS3 ⊢
    have hV : V ≠ w.heap.size + 1 := by have := HS2.out; omega
    have hV' : w.heap.size + 1 ≠ V := by have := HS2.out; omega
    refine (clonePtrs_any _ S.dn lo hi S.ds S.db W3 HP3.out HD.out).mono ?_
    rintro e w4 ⟨⟨v', kb, rfl, ho, hk⟩, hb4⟩
    obtain ⟨-, a', c', rfl, -⟩ := id ho
    have HO := hideW ho
    have HK := hideW hk
    have HB4 := hideW (below_next HB3.out hb4)
    have HZ4 := hideW (HZ.out.below hb4)
    have HY4 := hideW (HY3.out.below hb4)
    have HS4 := hideW (show V + 1 ≤ w4.heap.size by have := hb4.size; have := HS3.out; omega)
    clear ho hk hb4 HB3 HZ HY3
    obtain ⟨⟨z0, z0'⟩, ⟨z1, z1'⟩, ⟨z2, z2'⟩, ⟨z3, z3'⟩, ⟨z4, z4'⟩, ⟨z5, z5'⟩, ⟨z6, z6'⟩, ⟨z7, z7'⟩⟩ := HZ4.out
    obtain ⟨⟨y0, y0'⟩, ⟨y1, y1'⟩, ⟨y2, y2'⟩, ⟨y3, y3'⟩, ⟨y4, y4'⟩, ⟨y5, y5'⟩, ⟨y6, y6'⟩, ⟨y7, y7'⟩⟩ := HY4.out
    go_wp2
    have hs2 := HS2.out
    have hs3 := HS3.out
    have hs4 := HS4.out
    have T1 := Turned.put w4 V 7 (.slice a' S.dn c')
    have HR := (HY4.out.turned T1 (fun e => absurd e (by omega))).put (.int .i64 S.id) (.string S.name) (.string S.set) (.int .i64 S.prev) (.int .i64 S.time) (.int .i64 S.rs) (.int .i64 S.rb) (.slice a' S.dn c')
    have T2 := Turned.putR8 (w4.setCell ⟨V, 7, none⟩ (.slice a' S.dn c')) (w.heap.size + 1) (.int .i64 S.id) (.string S.name) (.string S.set) (.int .i64 S.prev) (.int .i64 S.time) (.int .i64 S.rs) (.int .i64 S.rb) (.slice a' S.dn c')
    have TT := (T1.mono (T := fun k => k = w.heap.size + 1 ∨ k = V) (fun k e => Or.inr e)).trans (T2.mono (fun k e => Or.inl e))
    refine bodyPost_ret (v := .agg #[.int .i64 S.id, .string S.name, .string S.set, .int .i64 S.prev, .int .i64 S.time, .int .i64 S.rs, .int .i64 S.rb, .slice a' S.dn c']) (by simp [results, Tryz.results13, go_sem, HR.1.1, HR.2.1.1, HR.2.2.1.1, HR.2.2.2.1.1, HR.2.2.2.2.1.1, HR.2.2.2.2.2.1.1, HR.2.2.2.2.2.2.1.1, HR.2.2.2.2.2.2.2.1]) rfl ?_
    rw [HA.out]
    refine ⟨.slice a' S.dn c', kb, rfl, HO.out.turned TT (fun h0 e => by have h1 := HK.out h0; omega), fun h0 => ?_, HB4.out.trans (TT.below (B := w.heap.size) (by omega) (fun k e => by omega))⟩
    have h1 := HK.out h0
    simp only [World.size_setCell]
    omega

set_option maxRecDepth 20000 in
set_option maxHeartbeats 1000000 in
theorem implSetOf_any (v0 v1 v2 v3 : Value) (lo hi : Nat) (W : WorldD) (x : ByteArray) (w : World) (h : WorldAt w lo hi v0 v1 v2 v3 W) (hwf : PrevsWf W) (hN : DeadsN W) (hx : x.size ≤ maxLen) : Calls Tryz.prog 19 #[worldV v0 v1 v2 v3 W, .string x] w (NewSet (setAns W x) w) := by
  have Hp := hideW h
  have HN := hideW hN
  have Hwf := hideW hwf
  have Hkey := hideW (keyS_of hx)
  clear h hN hwf hx
  have hst : ∀ Wa Wb : World, Wa = w.alloc (.cells #[v0, v1, .int .i64 W.time, .int .i64 W.next, v2, v3] 38) → Wb = Wa.alloc (.cells #[.string ⟨#[]⟩, .int .i64 0, .int .i64 0, .int .i64 0, .int .i64 0, .slice none 0 0] 53) → Box6 Wb w.heap.size v0 v1 (.int .i64 W.time) (.int .i64 W.next) v2 v3 ∧ Box6 Wb (w.heap.size + 1) (.string ⟨#[]⟩) (.int .i64 0) (.int .i64 0) (.int .i64 0) (.int .i64 0) (.slice none 0 0) ∧ Below w.heap.size w Wb ∧ Wb.heap.size = w.heap.size + 1 + 1 := by
    rintro Wa Wb ea eb
    have ha := below_alloc w (.cells #[v0, v1, .int .i64 W.time, .int .i64 W.next, v2, v3] 38)
    have h1 := Box6.new w v0 v1 (.int .i64 W.time) (.int .i64 W.next) v2 v3 38
    have z1 : Wa.heap.size = w.heap.size + 1 := by rw [ea]; exact World.size_alloc _ _
    rw [← ea] at ha h1
    have hb := below_alloc Wa (.cells #[.string ⟨#[]⟩, .int .i64 0, .int .i64 0, .int .i64 0, .int .i64 0, .slice none 0 0] 53)
    have h2 := Box6.new Wa (.string ⟨#[]⟩) (.int .i64 0) (.int .i64 0) (.int .i64 0) (.int .i64 0) (.slice none 0 0) 53
    have z2 : Wb.heap.size = w.heap.size + 1 + 1 := by rw [eb, World.size_alloc, z1]
    rw [← eb, z1] at h2
    rw [← eb] at hb
    exact ⟨h1.below hb, h2, below_next ha hb, z2⟩
  obtain ⟨hX, hY, hbw, hsz⟩ := hst _ _ rfl rfl
  have HX := hideW hX
  have HY := hideW hY
  have HS := hideW hsz
  obtain ⟨⟨x0, -⟩, ⟨x1, -⟩, ⟨x2, -⟩, ⟨x3, -⟩, ⟨x4, -⟩, ⟨x5, -⟩⟩ := HX.out
  clear hst hX hY hsz
  go_enter Tryz.func19, Tryz.ntmps19
  go_wp2_with fail
  generalize (w.alloc (.cells #[v0, v1, .int .i64 W.time, .int .i64 W.next, v2, v3] 38)).alloc (.cells #[.string ⟨#[]⟩, .int .i64 0, .int .i64 0, .int .i64 0, .int .i64 0, .slice none 0 0] 53) = W0 at HX HY HS hbw x0 x1 x2 x3 x4 x5 ⊢
  refine (implWorldRight_any v0 v1 v2 v3 lo hi W W0 (Hp.out.below hbw) Hwf.out).mono ?_
  rintro e w1 ⟨⟨t, rfl, ht⟩, hb1⟩
  have Ht := hideW (ht.trans (world_iff W))
  have hB1 := below_next hbw hb1
  have HX1 := hideW (HX.out.below hb1)
  have HY1 := hideW (HY.out.below hb1)
  have HS1 := hideW (show w.heap.size + 1 + 1 ≤ w1.heap.size by have := HS.out; have := hb1.size; omega)
  clear x0 x1 x2 x3 x4 x5 hb1 hbw HX HY HS ht
  cases t
  · have HA := hideW (show setAns W x = zeroSetD from setAns_no (fun h => absurd (Ht.out.2 h) (by simp)))
    obtain ⟨⟨y0, y0'⟩, ⟨y1, y1'⟩, ⟨y2, y2'⟩, ⟨y3, y3'⟩, ⟨y4, y4'⟩, ⟨y5, y5'⟩⟩ := HY1.out
    go_wp2
    have HR := HY1.out.put (.string ⟨#[]⟩) (.int .i64 0) (.int .i64 0) (.int .i64 0) (.int .i64 0) (.slice none 0 0)
    refine bodyPost_ret (v := .agg #[.string ⟨#[]⟩, .int .i64 0, .int .i64 0, .int .i64 0, .int .i64 0, .slice none 0 0]) (by simp [results, Tryz.results19, go_sem, HR.1.1, HR.2.1.1, HR.2.2.1.1, HR.2.2.2.1.1, HR.2.2.2.2.1.1, HR.2.2.2.2.2.1]) rfl ?_
    rw [HA.out]
    exact newSet_zero ((hB1.trans ((Turned.put6 w1 (w.heap.size + 1) (.string ⟨#[]⟩) (.int .i64 0) (.int .i64 0) (.int .i64 0) (.int .i64 0) (.slice none 0 0)).below (B := w.heap.size) (by have := HS1.out; omega) (fun k e => by omega))))
  · have HW := hideW (Ht.out.1 rfl)
    have HA := hideW (show setAns W x = setAt W x from setAns_yes HW.out)
    have HD := hideW (show (setAt W x).dn ≤ 1048576 from setAt_dn HN.out x)
    obtain ⟨⟨x0, -⟩, ⟨x1, -⟩, ⟨x2, -⟩, ⟨x3, -⟩, ⟨x4, -⟩, ⟨x5, -⟩⟩ := HX1.out
    go_wp2_with fail
    refine (setsByName_any v0 v1 v2 v3 lo hi W w1 (Hp.out.below hB1) HW.out.names.2.2.1).mono ?_
    rintro e w2 ⟨vd, rfl, hm, hd, hb2⟩
    obtain ⟨a, c, hat, hp⟩ := setNames_look (HW.out.names.dist) hd x
    have Hat := hideW hat
    have HP := hideW (hp.below hb2)
    have HM := hideW hm
    have hB2 := below_next hB1 hb2
    have HX2 := hideW (HX1.out.below hb2)
    have HY2 := hideW (HY1.out.below hb2)
    have HS2 := hideW (show w.heap.size + 1 + 1 ≤ w2.heap.size by have := HS1.out; have := hb2.size; omega)
    clear hat hp hm hd x0 x1 x2 x3 x4 x5 hb2 hB1 HX1 HY1 HS1
    unfold setV at Hat
    generalize setAt W x = S at *
    have ha3 := below_alloc w2 (.cells #[.string S.name, .int .i64 S.origin, .int .i64 S.prev, .int .i64 S.rs, .int .i64 S.rb, .slice a S.dn c] 53)
    have hZ := Box6.new w2 (.string S.name) (.int .i64 S.origin) (.int .i64 S.prev) (.int .i64 S.rs) (.int .i64 S.rb) (.slice a S.dn c) 53
    have HZ := hideW hZ
    have HB3 := hideW (below_next hB2 ha3)
    have HY3 := hideW (HY2.out.below ha3)
    have HP3 := hideW (HP.out.below ha3)
    have HS3 := hideW (show (w2.alloc (.cells #[.string S.name, .int .i64 S.origin, .int .i64 S.prev, .int .i64 S.rs, .int .i64 S.rb, .slice a S.dn c] 53)).heap.size = w2.heap.size + 1 from World.size_alloc _ _)
    clear ha3 hZ
    obtain ⟨⟨z0, z0'⟩, ⟨z1, z1'⟩, ⟨z2, z2'⟩, ⟨z3, z3'⟩, ⟨z4, z4'⟩, ⟨z5, z5'⟩⟩ := HZ.out
    go_wp2_with (first
      | (at_lookup; refine wpList_lookup_raw _ rfl _ _ 93 rfl 9 53 lawS setsT (zeroSetV _) (w1.heap.size + 1) W.sn _ rfl HM.out _ _ rfl Hkey.out _ Hat.out ?_)
      | fail)
    clear z0 z0' z1 z1' z2 z2' z3 z3' z4 z4' z5 z5'
    generalize w2.alloc (.cells #[.string S.name, .int .i64 S.origin, .int .i64 S.prev, .int .i64 S.rs, .int .i64 S.rb, .slice a S.dn c] 53) = W3 at HZ HB3 HY3 HP3 HS3 ⊢
    clear HY2 HX2 HP HM Hat Hkey hB2
    generalize w2.heap.size = V at HZ HS2 HS3 ⊢
    have hV : V ≠ w.heap.size + 1 := by have := HS2.out; omega
    have hV' : w.heap.size + 1 ≠ V := by have := HS2.out; omega
    refine (clonePtrs_any _ S.dn lo hi S.ds S.db W3 HP3.out HD.out).mono ?_
    rintro e w4 ⟨⟨v', kb, rfl, ho, hk⟩, hb4⟩
    obtain ⟨-, a', c', rfl, -⟩ := id ho
    have HO := hideW ho
    have HK := hideW hk
    have HB4 := hideW (below_next HB3.out hb4)
    have HZ4 := hideW (HZ.out.below hb4)
    have HY4 := hideW (HY3.out.below hb4)
    have HS4 := hideW (show V + 1 ≤ w4.heap.size by have := hb4.size; have := HS3.out; omega)
    clear ho hk hb4 HB3 HZ HY3
    obtain ⟨⟨z0, z0'⟩, ⟨z1, z1'⟩, ⟨z2, z2'⟩, ⟨z3, z3'⟩, ⟨z4, z4'⟩, ⟨z5, z5'⟩⟩ := HZ4.out
    obtain ⟨⟨y0, y0'⟩, ⟨y1, y1'⟩, ⟨y2, y2'⟩, ⟨y3, y3'⟩, ⟨y4, y4'⟩, ⟨y5, y5'⟩⟩ := HY4.out
    go_wp2
    have hs2 := HS2.out
    have hs3 := HS3.out
    have hs4 := HS4.out
    have T1 := Turned.put w4 V 5 (.slice a' S.dn c')
    have HR := (HY4.out.turned T1 (fun e => absurd e (by omega))).put (.string S.name) (.int .i64 S.origin) (.int .i64 S.prev) (.int .i64 S.rs) (.int .i64 S.rb) (.slice a' S.dn c')
    have T2 := Turned.put6 (w4.setCell ⟨V, 5, none⟩ (.slice a' S.dn c')) (w.heap.size + 1) (.string S.name) (.int .i64 S.origin) (.int .i64 S.prev) (.int .i64 S.rs) (.int .i64 S.rb) (.slice a' S.dn c')
    have TT := (T1.mono (T := fun k => k = w.heap.size + 1 ∨ k = V) (fun k e => Or.inr e)).trans (T2.mono (fun k e => Or.inl e))
    refine bodyPost_ret (v := .agg #[.string S.name, .int .i64 S.origin, .int .i64 S.prev, .int .i64 S.rs, .int .i64 S.rb, .slice a' S.dn c']) (by simp [results, Tryz.results19, go_sem, HR.1.1, HR.2.1.1, HR.2.2.1.1, HR.2.2.2.1.1, HR.2.2.2.2.1.1, HR.2.2.2.2.2.1]) rfl ?_
    rw [HA.out]
    refine ⟨.slice a' S.dn c', kb, rfl, HO.out.turned TT (fun h0 e => by have h1 := HK.out h0; omega), fun h0 => ?_, HB4.out.trans (TT.below (B := w.heap.size) (by omega) (fun k e => by omega))⟩
    have h1 := HK.out h0
    simp only [World.size_setCell]
    omega

end Go.Proofs.YtnonjdkligkepaaGreat

namespace Go.Proofs.YtnonjdkligkepaaGreat
open Go.RowKit
set_option linter.unusedVariables false

/-- Of the blocks that were there, none but bs has turned, and of it nothing but n cells from o on. -/
structure RowTurned (bs o n : Nat) (w w' : World) : Prop where
  turned : Turned (fun b => b = bs) w w'
  kept : ∀ x v, (x < o ∨ o + n ≤ x) → Cell w bs x v → Cell w' bs x v
theorem RowTurned.refl (bs o n : Nat) (w : World) : RowTurned bs o n w w := ⟨Turned.refl _ _, fun _ _ _ h => h⟩
theorem RowTurned.set {bs o n : Nat} {w w' : World} (h : RowTurned bs o n w w') (x : Nat) (u : Value) (h1 : o ≤ x) (h2 : x < o + n) : RowTurned bs o n w (w'.setCell ⟨bs, x, none⟩ u) :=
  ⟨h.turned.setCell (p := ⟨bs, x, none⟩) rfl u, fun y v hy hc => (h.kept y v hy hc).other u (Or.inr (by omega))⟩
theorem RowTurned.below {bs o n : Nat} {w w' w2 : World} (h : RowTurned bs o n w w') (t : Below w'.heap.size w' w2) : RowTurned bs o n w w2 :=
  ⟨h.turned.trans (Turned.of_below t), fun y v hy hc => (h.kept y v hy hc).below t⟩

/-- One of a row has been written: its cells in the row's block, then what it has dropped. -/
theorem Set_step {w w1 w2 : World} {bs off n k : Nat} {kb : Nat → Nat} {kv : Nat → Value} {f : Nat → SetD} {s : SetD} (h : ∀ j, j < n → SetOwn w bs (off + j * 6) (kb j) (kv j) (f j)) (hap : SetsApart kb n f) (hk : k < n)
    (r : RowTurned bs (off + k * 6) 6 w w1) (t : Turned (fun b => 0 < (f k).dn ∧ b = kb k) w1 w2) (c0 : Cell w1 bs (off + k * 6) (.string s.name)) (c1 : Cell w1 bs ((off + k * 6) + 1) (.int .i64 s.origin)) (c2 : Cell w1 bs ((off + k * 6) + 2) (.int .i64 s.prev)) (c3 : Cell w1 bs ((off + k * 6) + 3) (.int .i64 s.rs)) (c4 : Cell w1 bs ((off + k * 6) + 4) (.int .i64 s.rb)) (c5 : Cell w1 bs (off + k * 6 + 5) (kv k)) (hdn : s.dn = (f k).dn) (hp : PtrsOwn w2 (kb k) (kv k) s.dn s.ds s.db) (hs : s.name.size ≤ maxLen) :
    ∀ j, j < n → SetOwn w2 bs (off + j * 6) (kb j) (kv j) (if j = k then s else f j) := by
  intro j hj
  have nb : ¬ (0 < (f k).dn ∧ bs = kb k) := fun hx => (h k hk).apart hx.1 hx.2.symm
  by_cases e : j = k
  · subst e
    rw [if_pos rfl]
    exact ⟨c0.turned t nb, c1.turned t nb, c2.turned t nb, c3.turned t nb, c4.turned t nb, c5.turned t nb, hp, hs, by rw [hdn]; exact (h j hj).apart⟩
  · rw [if_neg e]
    have hj' := h j hj
    refine ⟨(r.kept _ _ (by omega) hj'.c0).turned t nb, (r.kept _ _ (by omega) hj'.c1).turned t nb, (r.kept _ _ (by omega) hj'.c2).turned t nb, (r.kept _ _ (by omega) hj'.c3).turned t nb, (r.kept _ _ (by omega) hj'.c4).turned t nb, (r.kept _ _ (by omega) hj'.c5).turned t nb, ?_, hj'.small, hj'.apart⟩
    exact (hj'.dead.turned r.turned (fun h0 hx => hj'.apart h0 hx)).turned t (fun h0 hx => hap j k hj hk e h0 hx.1 hx.2)

/-- One of a row has been written: its cells in the row's block, then what it has dropped. -/
theorem Snap_step {w w1 w2 : World} {bs off n k : Nat} {kb : Nat → Nat} {kv : Nat → Value} {f : Nat → SnapD} {s : SnapD} (h : ∀ j, j < n → SnapOwn w bs (off + j * 8) (kb j) (kv j) (f j)) (hap : SnapsApart kb n f) (hk : k < n)
    (r : RowTurned bs (off + k * 8) 8 w w1) (t : Turned (fun b => 0 < (f k).dn ∧ b = kb k) w1 w2) (c0 : Cell w1 bs (off + k * 8) (.int .i64 s.id)) (c1 : Cell w1 bs ((off + k * 8) + 1) (.string s.name)) (c2 : Cell w1 bs ((off + k * 8) + 2) (.string s.set)) (c3 : Cell w1 bs ((off + k * 8) + 3) (.int .i64 s.prev)) (c4 : Cell w1 bs ((off + k * 8) + 4) (.int .i64 s.time)) (c5 : Cell w1 bs ((off + k * 8) + 5) (.int .i64 s.rs)) (c6 : Cell w1 bs ((off + k * 8) + 6) (.int .i64 s.rb)) (c7 : Cell w1 bs (off + k * 8 + 7) (kv k)) (hdn : s.dn = (f k).dn) (hp : PtrsOwn w2 (kb k) (kv k) s.dn s.ds s.db) (hs : s.name.size ≤ maxLen ∧ s.set.size ≤ maxLen) :
    ∀ j, j < n → SnapOwn w2 bs (off + j * 8) (kb j) (kv j) (if j = k then s else f j) := by
  intro j hj
  have nb : ¬ (0 < (f k).dn ∧ bs = kb k) := fun hx => (h k hk).apart hx.1 hx.2.symm
  by_cases e : j = k
  · subst e
    rw [if_pos rfl]
    exact ⟨c0.turned t nb, c1.turned t nb, c2.turned t nb, c3.turned t nb, c4.turned t nb, c5.turned t nb, c6.turned t nb, c7.turned t nb, hp, hs, by rw [hdn]; exact (h j hj).apart⟩
  · rw [if_neg e]
    have hj' := h j hj
    refine ⟨(r.kept _ _ (by omega) hj'.c0).turned t nb, (r.kept _ _ (by omega) hj'.c1).turned t nb, (r.kept _ _ (by omega) hj'.c2).turned t nb, (r.kept _ _ (by omega) hj'.c3).turned t nb, (r.kept _ _ (by omega) hj'.c4).turned t nb, (r.kept _ _ (by omega) hj'.c5).turned t nb, (r.kept _ _ (by omega) hj'.c6).turned t nb, (r.kept _ _ (by omega) hj'.c7).turned t nb, ?_, hj'.small, hj'.apart⟩
    exact (hj'.dead.turned r.turned (fun h0 hx => hj'.apart h0 hx)).turned t (fun h0 hx => hap j k hj hk e h0 hx.1 hx.2)

end Go.Proofs.YtnonjdkligkepaaGreat

namespace Go.Proofs.YtnonjdkligkepaaGreat
open Go.RowKit
set_option linter.unusedVariables false

/-- The digits of k ahead of out. -/
def mtLoop (k : Nat) (out : ByteArray) : ByteArray :=
  if h : k = 0 then out else mtLoop (k / 10) (⟨#[48 + UInt8.ofNat (k % 10)]⟩ ++ out)
termination_by k
decreasing_by omega

def mtF (k : Int) : ByteArray := if k ≤ 0 then ⟨#[109, 48]⟩ else ⟨#[109]⟩ ++ mtLoop k.toNat ⟨#[]⟩

theorem mt_start {n : Nat} (h : (n : Int) ≤ 1000000000000) : n < 10 ^ (13 - (⟨#[]⟩ : ByteArray).size) := by
  show n < 10 ^ 13
  omega

theorem size_one (x : UInt8) (out : ByteArray) : ((⟨#[x]⟩ : ByteArray) ++ out).size = out.size + 1 := by
  rw [ByteArray.size_append]
  show 1 + out.size = _
  omega

theorem mt_bound {m : Nat} {out : ByteArray} (h : m < 10 ^ (13 - out.size)) : m ≤ 10000000000000 := by
  have h2 : 10 ^ (13 - out.size) ≤ 10 ^ 13 := Nat.pow_le_pow_right (by omega) (by omega)
  omega

theorem mt_next {m : Nat} {out : ByteArray} (x : UInt8) (h0 : ¬ m = 0) (h : m < 10 ^ (13 - out.size)) (h2 : out.size ≤ 13) :
    m / 10 < 10 ^ (13 - ((⟨#[x]⟩ : ByteArray) ++ out).size) ∧ ((⟨#[x]⟩ : ByteArray) ++ out).size ≤ 13 := by
  rw [size_one]
  by_cases e : out.size = 13
  · rw [e] at h; simp at h; omega
  · obtain ⟨j, hj⟩ : ∃ j, 13 - out.size = j + 1 := ⟨12 - out.size, by omega⟩
    rw [hj, Nat.pow_succ] at h
    have : 13 - (out.size + 1) = j := by omega
    rw [this]
    exact ⟨by omega, by omega⟩

theorem mt_step {m : Nat} {out : ByteArray} (h0 : ¬ m = 0) : mtLoop (m / 10) (⟨#[48 + UInt8.ofNat (m % 10)]⟩ ++ out) = mtLoop m out := by
  conv => rhs; rw [mtLoop]
  rw [dif_neg h0]

theorem mt_size (m : Nat) : ∀ (out : ByteArray), m < 10 ^ (13 - out.size) → out.size ≤ 13 → (mtLoop m out).size ≤ 13 := by
  induction m using Nat.strongRecOn with
  | _ m ih =>
    intro out h h2
    by_cases h0 : m = 0
    · rw [mtLoop, dif_pos h0]; exact h2
    · rw [mtLoop, dif_neg h0]
      have := mt_next (48 + UInt8.ofNat (m % 10)) h0 h h2
      exact ih (m / 10) (by omega) _ this.1 this.2

theorem mtF_size {k : Int} (hk : k ≤ 1000000000000) : (mtF k).size ≤ maxLen := by
  unfold mtF maxLen
  split
  · decide
  · have h : (mtLoop k.toNat ⟨#[]⟩).size ≤ 13 := mt_size _ _ (mt_start (by omega)) (Nat.zero_le _)
    rw [size_one]
    omega

theorem conv_one (w : World) (n : Int) : (convert 162 9 (.slice (some ⟨w.heap.size, 0, none⟩) 1 1)).run Tryz.prog (w.alloc (.cells #[.int .u8 n] 5)) = .ok (.string ⟨#[UInt8.ofNat n.toNat]⟩) (w.alloc (.cells #[.int .u8 n] 5)) :=
  run_convert_bytes_arg (P := Tryz.prog) (w.alloc (.cells #[.int .u8 n] 5)) 162 5 (by kernel_rfl) (by kernel_rfl) w.heap.size 0 1 1 [n] rfl (fun i hi => by
    obtain rfl : i = 0 := by omega
    simp) 9 (by kernel_rfl)

set_option maxRecDepth 20000 in
set_option maxHeartbeats 400000 in
theorem markText_any (k : Int) (w : World) (hk : k ≤ 1000000000000) :
    Calls Tryz.prog 104 #[.int .i64 k] w fun e w' => e = .returned (.string (mtF k)) ∧ Below w.heap.size w w' := by
  by_cases h0 : k ≤ 0
  · have hm : Hid (mtF k = ⟨#[109, 48]⟩) := if_pos h0
    go_enter Tryz.func104, Tryz.ntmps104
    go_wp2
    go_ret
    exact ⟨by rw [hm.out]; rfl, Below.refl _ _⟩
  · obtain ⟨n, rfl⟩ := Int.eq_ofNat_of_zero_le (by omega : 0 ≤ k)
    have hm : Hid (mtF (n : Int) = ⟨#[109]⟩ ++ mtLoop n ⟨#[]⟩) := if_neg h0
    have hst : Hid (n < 10 ^ (13 - (⟨#[]⟩ : ByteArray).size)) := mt_start hk
    have hcv := conv_one
    go_enter Tryz.func104, Tryz.ntmps104
    go_wp2
    go_loopw [0, 3] (fun v s wr => ∃ (m : Nat) (out : ByteArray), v = .int .i64 m ∧ s = .string out ∧ m < 10 ^ (13 - out.size) ∧ out.size ≤ 13 ∧ mtLoop m out = mtLoop n ⟨#[]⟩ ∧ Below w.heap.size w wr) (fun v _ _ => (intOf v).toNat)
    case atStart => exact ⟨n, ⟨#[]⟩, rfl, rfl, hst.out, Nat.zero_le _, rfl, Below.refl _ _⟩
    case round =>
      obtain ⟨m, out, rfl, rfl, hm1, hm2, hm3, hb⟩ := hrel
      have Hm3 : Hid (m < 10 ^ (13 - out.size) ∧ mtLoop m out = mtLoop n ⟨#[]⟩) := ⟨hm1, hm3⟩
      have hmb := mt_bound hm1
      clear hm1 hm3
      by_cases hz : m = 0
      · subst hz
        go_wp2
        go_ret
        refine ⟨?_, hb⟩
        have e1 := Hm3.out.2
        rw [mtLoop, dif_pos rfl] at e1
        rw [hm.out, ← e1]
        rfl
      · have hz' : (0 : Int) < (m : Int) := by omega
        have Hz : Hid (¬ m = 0) := hz
        clear hz
        go_wp2
        go_roundw
        case rel =>
          have hn := mt_next (48 + UInt8.ofNat (m % 10)) Hz.out Hm3.out.1 hm2
          exact ⟨m / 10, _, by go_num, rfl, hn.1, hn.2, (mt_step Hz.out).trans Hm3.out.2, hb.alloc hb.size _⟩
        case measure => simp [intOf]; omega

theorem hideM {P : Prop} (h : P) : Hid P := h

/-- A block of numbers stays one, as great as it was. -/
def SameShape (b : Nat) (w w' : World) : Prop := ∀ cur, w.heap[b]? = some (.cells cur 2 (0, 0)) → ∃ cur', w'.heap[b]? = some (.cells cur' 2 (0, 0)) ∧ cur'.size = cur.size
theorem SameShape.refl (b : Nat) (w : World) : SameShape b w w := fun cur h => ⟨cur, h, rfl⟩
theorem SameShape.set {b : Nat} {w w' : World} (h : SameShape b w w') (o : Nat) (u : Value) : SameShape b w (w'.setCell ⟨b, o, none⟩ u) := fun cur hc => by
  obtain ⟨cur', h1, h2⟩ := h cur hc
  exact ⟨cur'.setIfInBounds o u, heap_setCell_at u h1, by simpa using h2⟩
theorem SameShape.room {b : Nat} {w w' : World} {a : Option Addr} {n c : Nat} (h : SameShape b w w') (hr : Room w b a n c) : Room w' b a n c := fun hlt => by
  obtain ⟨r0, r1, r2, cur, r3, r4⟩ := hr hlt
  obtain ⟨cur', h1, h2⟩ := h cur r3
  exact ⟨r0, r1, r2, cur', h1, by omega⟩

set_option maxRecDepth 20000 in
set_option maxHeartbeats 400000 in
theorem markInt64S_any (b : Nat) (v : Value) (n : Nat) (f : Nat → Int) (k0 : Int) (w : World) (h1 : IntsOwn w b v n f) (hk0 : 0 ≤ k0) (hk1 : k0 + n ≤ 1000000000000) :
    Calls Tryz.prog 103 #[v, .int .i64 k0] w fun e w' => e = .returned (.int .i64 (k0 + n)) ∧ IntsOwn w' b v n (fun i => k0 + i) ∧ Turned (fun k => 0 < n ∧ k = b) w w' := by
  have h1' := h1
  obtain ⟨m1, a, c, rfl, mc, g1, hroom⟩ := h1
  have Hroom := hideM hroom
  clear hroom
  by_cases hn0 : n = 0
  · subst hn0
    go_enter Tryz.func103, Tryz.ntmps103
    go_wp2
    refine wp_loop_rounds 1 ?_
    rw [rounds_succ]
    go_wp2
    go_ret
    exact ⟨by simp, ⟨m1, a, c, rfl, mc, fun h => absurd h (by omega), Hroom.out⟩, Turned.refl _ _⟩
  · obtain ⟨off, rfl, g2⟩ := g1 (by omega)
    clear g1
    have hm1 := m1
    unfold maxLen at m1
    have G2 : Hid (∀ i, i < n → Cell w b (off + i) (.int .i64 (f i))) := g2
    clear g2 h1'
    go_enter Tryz.func103, Tryz.ntmps103
    go_wp2
    go_loopw [1, 5] (fun m i wr => ∃ k : Nat, k ≤ n ∧ i = .int .i64 k ∧ m = .int .i64 (k0 + k) ∧ (∀ j, j < n → Cell wr b (off + j) (.int .i64 (if j < k then k0 + j else f j))) ∧ Turned (fun k => 0 < n ∧ k = b) w wr ∧ SameShape b w wr) (fun _ i _ => n - (intOf i).toNat)
    case atStart => exact ⟨0, Nat.zero_le _, rfl, by simp, fun j hj => by simpa using G2.out j hj, Turned.refl _ _, SameShape.refl _ _⟩
    case round =>
      obtain ⟨k, hk, rfl, rfl, hall, ht, hsh⟩ := hrel
      have Hsh := hideM hsh
      clear hsh
      have Hall : Hid (∀ j, j < n → Cell wr b (off + j) (.int .i64 (if j < k then k0 + j else f j))) := hall
      clear hall
      by_cases hlt : k < n
      · have hlt' : (k : Int) < (n : Int) := by omega
        obtain ⟨hc, hf⟩ := Hall.out k hlt
        go_wp2
        go_roundw
        case rel =>
          refine ⟨k + 1, by omega, by go_num, by go_num, fun j hj => ?_, ht.setCell ⟨by omega, rfl⟩ _, Hsh.out.set _ _⟩
          by_cases e : j = k
          · subst e
            rw [if_pos (by omega)]
            exact (Hall.out j hj).set _
          · have := (Hall.out j hj).other (b' := b) (o' := off + k) (.int .i64 (k0 + k)) (Or.inr (by omega))
            by_cases e2 : j < k
            · rw [if_pos (by omega)]; rw [if_pos e2] at this; exact this
            · rw [if_neg (by omega)]; rw [if_neg e2] at this; exact this
        case measure => simp [intOf]; omega
      · obtain rfl : k = n := by omega
        go_wp2
        go_ret
        refine ⟨rfl, ⟨hm1, _, c, rfl, mc, fun _ => ⟨off, rfl, fun i hi => ?_⟩, Hsh.out.room Hroom.out⟩, ht⟩
        have := Hall.out i hi
        rw [if_pos hi] at this
        exact this

set_option maxRecDepth 20000 in
set_option maxHeartbeats 400000 in
theorem markPtrS_any (b : Nat) (v : Value) (n : Nat) (f g : Nat → Int) (k0 : Int) (w : World) (h1 : PtrsOwn w b v n f g) (hk0 : 0 ≤ k0) (hk1 : k0 + 2 * n ≤ 1000000000000) :
    Calls Tryz.prog 61 #[v, .int .i64 k0] w fun e w' => e = .returned (.int .i64 (k0 + 2 * n)) ∧ PtrsOwn w' b v n (fun i => k0 + 2 * i) (fun i => k0 + 2 * i + 1) ∧ Turned (fun k => 0 < n ∧ k = b) w w' := by
  have h1' := h1
  obtain ⟨m1, a, c, rfl, mc, g1⟩ := h1
  by_cases hn0 : n = 0
  · subst hn0
    go_enter Tryz.func61, Tryz.ntmps61
    go_wp2
    refine wp_loop_rounds 1 ?_
    rw [rounds_succ]
    go_wp2
    go_ret
    exact ⟨by simp, ⟨m1, a, c, rfl, mc, fun h => absurd h (by omega)⟩, Turned.refl _ _⟩
  · obtain ⟨off, rfl, g2⟩ := g1 (by omega)
    clear g1
    have hm1 := m1
    unfold maxLen at m1
    have G2 : Hid (∀ i, i < n → Cell w b (off + i * 2) (.int .i64 (f i)) ∧ Cell w b (off + i * 2 + 1) (.int .i64 (g i))) := g2
    clear g2 h1'
    go_enter Tryz.func61, Tryz.ntmps61
    go_wp2
    go_loopw [1, 5] (fun m i wr => ∃ k : Nat, k ≤ n ∧ i = .int .i64 k ∧ m = .int .i64 (k0 + 2 * k) ∧ (∀ j, j < n → Cell wr b (off + j * 2) (.int .i64 (if j < k then k0 + 2 * j else f j)) ∧ Cell wr b (off + j * 2 + 1) (.int .i64 (if j < k then k0 + 2 * j + 1 else g j))) ∧ Turned (fun k => 0 < n ∧ k = b) w wr) (fun _ i _ => n - (intOf i).toNat)
    case atStart => exact ⟨0, Nat.zero_le _, rfl, by simp, fun j hj => by simpa using G2.out j hj, Turned.refl _ _⟩
    case round =>
      obtain ⟨k, hk, rfl, rfl, hall, ht⟩ := hrel
      have Hall : Hid (∀ j, j < n → Cell wr b (off + j * 2) (.int .i64 (if j < k then k0 + 2 * j else f j)) ∧ Cell wr b (off + j * 2 + 1) (.int .i64 (if j < k then k0 + 2 * j + 1 else g j))) := hall
      clear hall
      by_cases hlt : k < n
      · have hlt' : (k : Int) < (n : Int) := by omega
        obtain ⟨⟨hc, hf⟩, ⟨hc2, hf2⟩⟩ := Hall.out k hlt
        go_wp2
        go_roundw
        case rel =>
          refine ⟨k + 1, by omega, by go_num, by go_num, fun j hj => ?_, (ht.setCell ⟨by omega, rfl⟩ _).setCell ⟨by omega, rfl⟩ _⟩
          by_cases e : j = k
          · subst e
            rw [if_pos (by omega), if_pos (by omega)]
            exact ⟨((Hall.out j hj).1.set _).other _ (Or.inr (by omega)), ((Hall.out j hj).2.other _ (Or.inr (by omega))).set _⟩
          · have t1 := ((Hall.out j hj).1.other (b' := b) (o' := off + k * 2) (.int .i64 (k0 + 2 * k)) (Or.inr (by omega))).other (b' := b) (o' := off + k * 2 + 1) (.int .i64 (k0 + 2 * k + 1)) (Or.inr (by omega))
            have t2 := ((Hall.out j hj).2.other (b' := b) (o' := off + k * 2) (.int .i64 (k0 + 2 * k)) (Or.inr (by omega))).other (b' := b) (o' := off + k * 2 + 1) (.int .i64 (k0 + 2 * k + 1)) (Or.inr (by omega))
            by_cases e2 : j < k
            · rw [if_pos (by omega), if_pos (by omega)]; rw [if_pos e2] at t1 t2; exact ⟨t1, t2⟩
            · rw [if_neg (by omega), if_neg (by omega)]; rw [if_neg e2] at t1 t2; exact ⟨t1, t2⟩
        case measure => simp [intOf]; omega
      · obtain rfl : k = n := by omega
        go_wp2
        go_ret
        refine ⟨rfl, ⟨hm1, _, c, rfl, mc, fun _ => ⟨off, rfl, fun i hi => ?_⟩⟩, ht⟩
        have := Hall.out i hi
        rw [if_pos hi, if_pos hi] at this
        exact this

/-- Where the marks of the slot j begin. -/
def cntSl (f : Nat → SlotD) (k0 : Int) : Nat → Int
  | 0 => k0
  | j + 1 => cntSl f k0 j + 2 + 2 * (f j).kn

/-- A slot with its marks from c on. -/
def marked (s : SlotD) (c : Int) : SlotD := { birth := c, kn := s.kn, ks := fun i => c + 1 + 2 * i, kb := fun i => c + 1 + 2 * i + 1, data := mtF (c + 1 + 2 * s.kn) }

theorem cntSl_mono (f : Nat → SlotD) (k0 : Int) (j : Nat) : ∀ m, cntSl f k0 j ≤ cntSl f k0 (j + m)
  | 0 => Int.le_refl _
  | m + 1 => by
    have := cntSl_mono f k0 j m
    show _ ≤ cntSl f k0 (j + m) + 2 + 2 * ((f (j + m)).kn : Int)
    omega

theorem cntSl_le (f : Nat → SlotD) (k0 : Int) {j n : Nat} (h : j ≤ n) : cntSl f k0 j ≤ cntSl f k0 n := by
  obtain ⟨m, rfl⟩ := Nat.exists_eq_add_of_le h
  exact cntSl_mono f k0 j m

def markS (f : Nat → SlotD) (k0 : Int) (j : Nat) : SlotD := marked (f j) (cntSl f k0 j)

theorem slots_step {w w1 w2 : World} {bs off : Nat} {kb : Nat → Nat} {kv : Nat → Value} {n k : Nat} {f : Nat → SlotD} {s' : SlotD}
    (h : ∀ j, j < n → SlotOwn w bs (off + j * 3) (kb j) (kv j) (f j)) (hap : KidsApart kb n f) (hk : k < n)
    (t1 : Turned (fun b => 0 < (f k).kn ∧ b = kb k) (w.setCell ⟨bs, off + k * 3, none⟩ (.int .i64 s'.birth)) w1) (t2 : Below w1.heap.size w1 w2)
    (hkn : s'.kn = (f k).kn) (hp : PtrsOwn w1 (kb k) (kv k) s'.kn s'.ks s'.kb) (hs : s'.data.size ≤ maxLen) :
    ∀ j, j < n → SlotOwn (w2.setCell ⟨bs, off + k * 3 + 2, none⟩ (.string s'.data)) bs (off + j * 3) (kb j) (kv j) (if j = k then s' else f j) := by
  intro j hj
  have nb : ¬ (0 < (f k).kn ∧ bs = kb k) := fun hx => (h k hk).apart hx.1 hx.2.symm
  by_cases e : j = k
  · subst e
    rw [if_pos rfl]
    have hj' := h j hj
    refine ⟨?_, ?_, ?_, ?_, hs, ?_⟩
    · exact (((hj'.birth.set _).turned t1 nb).below t2).other _ (Or.inr (by omega))
    · exact (((hj'.kidsv.other _ (Or.inr (by omega))).turned t1 nb).below t2).other _ (Or.inr (by omega))
    · exact (((hj'.data.other _ (Or.inr (by omega))).turned t1 nb).below t2).set _
    · refine (hp.below t2).turned (Turned.put _ _ _ _) (fun h0 hx => ?_)
      exact hj'.apart (hkn ▸ h0) hx
    · rw [hkn]; exact hj'.apart
  · rw [if_neg e]
    have hj' := h j hj
    have c0 := hj'.birth.other (b' := bs) (o' := off + k * 3) (.int .i64 s'.birth) (Or.inr (by omega))
    have c1 := hj'.kidsv.other (b' := bs) (o' := off + k * 3) (.int .i64 s'.birth) (Or.inr (by omega))
    have c2 := hj'.data.other (b' := bs) (o' := off + k * 3) (.int .i64 s'.birth) (Or.inr (by omega))
    have c3 := hj'.kids.turned (Turned.put w bs (off + k * 3) (.int .i64 s'.birth)) (fun h0 hx => hj'.apart h0 hx)
    refine ⟨?_, ?_, ?_, ?_, hj'.small, hj'.apart⟩
    · exact ((c0.turned t1 nb).below t2).other _ (Or.inr (by omega))
    · exact ((c1.turned t1 nb).below t2).other _ (Or.inr (by omega))
    · exact ((c2.turned t1 nb).below t2).other _ (Or.inr (by omega))
    · refine ((c3.turned t1 (fun h0 hx => hap j k hj hk e h0 hx.1 hx.2)).below t2).turned (Turned.put _ _ _ _) (fun h0 hx => hj'.apart h0 hx)

theorem stS_start (f : Nat → SlotD) (k0 : Int) (j : Nat) : (if j < 0 then markS f k0 j else f j) = f j := if_neg (by omega)
theorem stS_kn (f : Nat → SlotD) (k0 : Int) (k j : Nat) : (if j < k then markS f k0 j else f j).kn = (f j).kn := by split <;> rfl

set_option maxRecDepth 20000 in
set_option maxHeartbeats 1000000 in
theorem markSlotS_any (bs : Nat) (kb : Nat → Nat) (kv : Nat → Value) (v : Value) (n : Nat) (f : Nat → SlotD) (k0 : Int) (w : World) (h1 : SlotsOwn w bs kb kv v n f) (hap : KidsApart kb n f) (hk0 : 0 ≤ k0) (hk1 : cntSl f k0 n ≤ 1000000000000) :
    Calls Tryz.prog 102 #[v, .int .i64 k0] w fun e w' => e = .returned (.int .i64 (cntSl f k0 n)) ∧ SlotsOwn w' bs kb kv v n (markS f k0) ∧ Turned (SlotsB bs kb n f) w w' := by
  obtain ⟨m1, a, c, rfl, mc, g1⟩ := h1
  by_cases hn0 : n = 0
  · subst hn0
    go_enter Tryz.func102, Tryz.ntmps102
    go_wp2
    refine wp_loop_rounds 1 ?_
    rw [rounds_succ]
    go_wp2
    go_ret
    exact ⟨by simp [cntSl], ⟨m1, a, c, rfl, mc, fun h => absurd h (by omega)⟩, Turned.refl _ _⟩
  · obtain ⟨off, rfl, g2⟩ := g1 (by omega)
    clear g1
    have hm1 := m1
    unfold maxLen at m1
    have G2 : Hid (∀ j, j < n → SlotOwn w bs (off + j * 3) (kb j) (kv j) (f j)) := g2
    have Hap : Hid (KidsApart kb n f) := hap
    have Hk1 : Hid (cntSl f k0 n ≤ 1000000000000) := hk1
    clear g2 hap hk1
    go_enter Tryz.func102, Tryz.ntmps102
    go_wp2
    go_loopw [1, 5] (fun m i wr => ∃ k : Nat, k ≤ n ∧ i = .int .i64 k ∧ m = .int .i64 (cntSl f k0 k) ∧ (∀ j, j < n → SlotOwn wr bs (off + j * 3) (kb j) (kv j) (if j < k then markS f k0 j else f j)) ∧ Turned (SlotsB bs kb n f) w wr) (fun _ i _ => n - (intOf i).toNat)
    case atStart => exact ⟨0, Nat.zero_le _, rfl, rfl, fun j hj => by rw [stS_start]; exact G2.out j hj, Turned.refl _ _⟩
    case round =>
      obtain ⟨k, hk, rfl, rfl, hall, ht⟩ := hrel
      have Hall : Hid (∀ j, j < n → SlotOwn wr bs (off + j * 3) (kb j) (kv j) (if j < k then markS f k0 j else f j)) := hall
      clear hall
      by_cases hlt : k < n
      · have hlt' : (k : Int) < (n : Int) := by omega
        have hs := Hall.out k hlt
        rw [if_neg (by omega)] at hs
        have hc0 : k0 ≤ cntSl f k0 k := cntSl_le f k0 (Nat.zero_le k)
        have hc1 : cntSl f k0 k + 2 + 2 * ((f k).kn : Int) ≤ 1000000000000 := Int.le_trans (cntSl_le f k0 (show k + 1 ≤ n from hlt)) Hk1.out
        obtain ⟨hb0, hf0⟩ := hs.birth
        obtain ⟨hb1, hf1⟩ := hs.kidsv
        obtain ⟨hb2, hf2⟩ := hs.data
        have Hs : Hid (SlotOwn wr bs (off + k * 3) (kb k) (kv k) (f k)) := hs
        obtain ⟨_, ka, kc, hkv, _⟩ := hs.kids
        clear hs
        generalize hx : kv k = kvk at *
        have Hx : Hid (kv k = kvk) := hx
        clear hx
        subst hkv
        go_wp2_with fail
        refine (markPtrS_any (kb k) _ (f k).kn (f k).ks (f k).kb _ _ ?p1 ?p2 ?p3).mono ?_
        case p1 => exact Hs.out.kids.turned (Turned.put _ _ _ _) (fun h0 hx => Hs.out.apart h0 hx)
        case p2 => omega
        case p3 => omega
        rintro e w1 ⟨rfl, hp1, ht1⟩
        have nb : ¬ (0 < (f k).kn ∧ bs = kb k) := fun hx => Hs.out.apart hx.1 hx.2.symm
        have Hd := ((Hs.out.data.other (b' := bs) (o' := off + k * 3) (.int .i64 (cntSl f k0 k)) (Or.inr (by omega))).turned ht1 nb)
        have Hp1 : Hid (PtrsOwn w1 (kb k) (.slice ka (f k).kn kc) (f k).kn (fun i => cntSl f k0 k + 1 + 2 * i) (fun i => cntSl f k0 k + 1 + 2 * i + 1)) := hp1
        clear nb hp1 hb0 hf0 hb1 hf1 hb2 hf2
        go_wp2_with fail
        refine (markText_any _ _ (by omega)).mono ?_
        rintro e w2 ⟨rfl, hb2⟩
        obtain ⟨hd2, hf2⟩ := Hd.below hb2
        clear Hd
        go_wp2
        go_roundw
        case rel =>
          refine ⟨k + 1, by omega, by go_num, congrArg (Value.int .i64) (by show _ = cntSl f k0 k + 2 + 2 * ((f k).kn : Int); omega), fun j hj => ?_, ?_⟩
          · have st := slots_step (s' := markS f k0 k) Hall.out (by
                intro i j hi hj hij h1 h2
                rw [stS_kn] at h1 h2
                exact Hap.out i j hi hj hij h1 h2) hlt (by rw [if_neg (Nat.lt_irrefl k)]; exact ht1) hb2 (by rw [if_neg (Nat.lt_irrefl k)]; rfl) (by rw [Hx.out]; exact Hp1.out) (mtF_size (by omega)) j hj
            by_cases e : j = k
            · subst e
              rw [if_pos rfl] at st
              rw [if_pos (by omega)]
              exact st
            · rw [if_neg e] at st
              by_cases e2 : j < k
              · rw [if_pos e2] at st; rw [if_pos (by omega)]; exact st
              · rw [if_neg e2] at st; rw [if_neg (by omega)]; exact st
          · refine (((ht.setCell (Or.inl ⟨by omega, rfl⟩) _).trans (ht1.mono ?_)).trans (Turned.of_below hb2)).setCell (Or.inl ⟨by omega, rfl⟩) _
            rintro b ⟨hb, rfl⟩
            exact Or.inr ⟨k, hlt, hb, rfl⟩
        case measure => simp [intOf]; omega
      · obtain rfl : k = n := by omega
        go_wp2
        go_ret
        refine ⟨rfl, ⟨hm1, _, c, rfl, mc, fun _ => ⟨off, rfl, fun i hi => ?_⟩⟩, ht⟩
        have := Hall.out i hi
        rw [if_pos hi] at this
        exact this

end Go.Proofs.YtnonjdkligkepaaGreat
