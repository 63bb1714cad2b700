/- What spec.SetNew answers. -/
import Derived.Test.YteipkhpniokkgaaGreatDoorG26
import Derived.Test.YteipkhpniokkgaaGreatDoorG33
import Derived.Test.YteipkhpniokkgaaGreatDoorG27
import Derived.Test.YteipkhpniokkgaaGreatDoorG29
import Derived.Test.YteipkhpniokkgaaGreatDoorG2
import Derived.Test.YteipkhpniokkgaaGreatDoorG16
import Derived.Deep.DeepCutAuto
namespace Go.Proofs.YteipkhpniokkgaaGreatDoor
open Go.RowKit
set_option linter.unusedVariables false
set_option maxRecDepth 20000 in
set_option maxHeartbeats 2000000 in
theorem specSetNew_any(v0 v1 v2 v3:Value)(lo hi:Nat)(W:WorldD)(name:ByteArray)(w:World)(h:WorldAt w lo hi v0 v1 v2 v3 W)(b1:poolN W.pool≤1048576)(b2:W.sn≤1048576)(b3:W.pn≤1048576)(b4:DeadsN W)(hname:name.size≤maxLen) :
  Calls Tryz.prog 7 #[worldV v0 v1 v2 v3 W,.string name] w (AnsSetNew W name w):=by
 have Hp:=hideW h
 obtain⟨a0,c0,a1,c1,a2,c2,a3,c3,rfl,rfl,rfl,rfl⟩:=h.form
 have m1:=h.sets.1
 have m2:=h.snaps.1
 unfold maxLen at m1 m2
 clear h
 have Hz2:=hideW hname
 unfold maxLen at hname
 have ha0:=below_alloc w (.cells #[.slice a0 W.pool.n c0,.slice a1 W.pool.hn c1,.int .i64 W.time,.int .i64 W.next,.slice a2 W.sn c2,.slice a3 W.pn c3] 37)
 have ha1:=below_alloc (w.alloc (.cells #[.slice a0 W.pool.n c0,.slice a1 W.pool.hn c1,.int .i64 W.time,.int .i64 W.next,.slice a2 W.sn c2,.slice a3 W.pn c3] 37)) (.cells #[.slice none 0 0,.slice none 0 0,.int .i64 0,.int .i64 0,.slice none 0 0,.slice none 0 0,.int .i64 0,.int .i64 0,.int .i64 0] 39)
 have hb:=below_next ha0 ha1
 have HX:=hideW ((Box6.new w (.slice a0 W.pool.n c0) (.slice a1 W.pool.hn c1) (.int .i64 W.time) (.int .i64 W.next) (.slice a2 W.sn c2) (.slice a3 W.pn c3) 37).below ha1)
 have hr:=Box9.new (w.alloc (.cells #[.slice a0 W.pool.n c0,.slice a1 W.pool.hn c1,.int .i64 W.time,.int .i64 W.next,.slice a2 W.sn c2,.slice a3 W.pn c3] 37)) (.slice none 0 0) (.slice none 0 0) (.int .i64 0) (.int .i64 0) (.slice none 0 0) (.slice none 0 0) (.int .i64 0) (.int .i64 0) (.int .i64 0) 39
 rw [World.size_alloc] at hr
 have HR:=hideW hr
 have hz:((w.alloc (.cells #[.slice a0 W.pool.n c0,.slice a1 W.pool.hn c1,.int .i64 W.time,.int .i64 W.next,.slice a2 W.sn c2,.slice a3 W.pn c3] 37)).alloc (.cells #[.slice none 0 0,.slice none 0 0,.int .i64 0,.int .i64 0,.slice none 0 0,.slice none 0 0,.int .i64 0,.int .i64 0,.int .i64 0] 39)).heap.size≥w.heap.size+2:=by rw [World.size_alloc,World.size_alloc]; omega
 clear hr
 go_enter Tryz.func7,Tryz.ntmps7
 go_upto_region 1 with fail
 generalize (w.alloc (.cells #[.slice a0 W.pool.n c0,.slice a1 W.pool.hn c1,.int .i64 W.time,.int .i64 W.next,.slice a2 W.sn c2,.slice a3 W.pn c3] 37)).alloc (.cells #[.slice none 0 0,.slice none 0 0,.int .i64 0,.int .i64 0,.slice none 0 0,.slice none 0 0,.int .i64 0,.int .i64 0,.int .i64 0] 39)=W1 at hb HX HR hz ⊢
 clear ha0 ha1
 by_cases hl1:8000<name.size
 ·have a1:(8000:Int)<(name.size:Int):=by omega
  go_wp2_with fail
  refine(l05Ill_any 2 _).mono ?_
  rintro e wz ⟨rfl,hbz⟩
  have hbY:=below_next hb hbz
  have HRy:=hideW (HR.out.below hbz)
  obtain⟨⟨r0,g0⟩,⟨r1,g1⟩,⟨r2,g2⟩,⟨r3,g3⟩,⟨r4,g4⟩,⟨r5,g5⟩,⟨r6,g6⟩,⟨r7,g7⟩,⟨r8,g8⟩⟩:=HRy.out
  go_wp2_with fail
  have HRz:=HRy.out.put (.slice none 0 0) (.slice none 0 0) (.int .i64 0) (.int .i64 0) (.slice none 0 0) (.slice none 0 0) (.int .i64 0) (.int .i64 0) (.int .i64 2)
  have hT:=Turned.put9 wz (w.heap.size+1) (.slice none 0 0) (.slice none 0 0) (.int .i64 0) (.int .i64 0) (.slice none 0 0) (.slice none 0 0) (.int .i64 0) (.int .i64 0) (.int .i64 2)
  clear r0 g0 r1 g1 r2 g2 r3 g3 r4 g4 r5 g5 r6 g6 r7 g7 r8 g8
  refine bodyPost_ret (v:=.agg #[.slice none 0 0,.slice none 0 0,.int .i64 0,.int .i64 0,.slice none 0 0,.slice none 0 0,.int .i64 0,.int .i64 0,.int .i64 2]) (by simp [results,Tryz.results7,go_sem,HRz.1.1,HRz.2.1.1,HRz.2.2.1.1,HRz.2.2.2.1.1,HRz.2.2.2.2.1.1,HRz.2.2.2.2.2.1.1,HRz.2.2.2.2.2.2.1.1,HRz.2.2.2.2.2.2.2.1.1,HRz.2.2.2.2.2.2.2.2.1]) rfl (AnsSetNew.ill (i:=1) (Or.inl ⟨long1.2 hl1,rfl⟩) ?_)
  exact⟨_,_,_,_,rfl,noW_own,hbY.trans (hT.below (B:=w.heap.size) hbY.size (fun k e=>by omega))⟩
 have e1:¬(8000:Int)<(name.size:Int):=by omega
 have HL:=hideW (show ¬(∃i,i<1∧8000<((fun (_:Nat)=>name) i).size)from fun h=>hl1 (long1.1 h))
 clear hl1
 obtain⟨⟨x0,-⟩,⟨x1,-⟩,⟨x2,-⟩,⟨x3,-⟩,⟨x4,-⟩,⟨x5,-⟩⟩:=HX.out
 go_wp2_with fail
 clear x0 x1 x2 x3 x4 x5 e1
 refine(specWorldRight_any _ _ _ _ lo hi W W1 (Hp.out.below hb)).mono ?_
 rintro e w2 ⟨⟨t,rfl,ht⟩,hb2⟩
 have hB2:=below_next hb hb2
 have HR2:=hideW (HR.out.below hb2)
 have HX2:=hideW (HX.out.below hb2)
 have hz2:=hb2.size
 clear hb2
 by_cases hw:SpecW W
 rotate_left
 ·obtain rfl:t=false:=bool_no ht hw
  have Hw:=hideW hw
  clear ht hw
  go_wp2_with fail
  refine(l05Ill_any 1 _).mono ?_
  rintro e wz ⟨rfl,hbz⟩
  have hbY:=below_next hB2 hbz
  have HRy:=hideW (HR2.out.below hbz)
  obtain⟨⟨r0,g0⟩,⟨r1,g1⟩,⟨r2,g2⟩,⟨r3,g3⟩,⟨r4,g4⟩,⟨r5,g5⟩,⟨r6,g6⟩,⟨r7,g7⟩,⟨r8,g8⟩⟩:=HRy.out
  go_wp2_with fail
  have HRz:=HRy.out.put (.slice none 0 0) (.slice none 0 0) (.int .i64 0) (.int .i64 0) (.slice none 0 0) (.slice none 0 0) (.int .i64 0) (.int .i64 0) (.int .i64 1)
  have hT:=Turned.put9 wz (w.heap.size+1) (.slice none 0 0) (.slice none 0 0) (.int .i64 0) (.int .i64 0) (.slice none 0 0) (.slice none 0 0) (.int .i64 0) (.int .i64 0) (.int .i64 1)
  clear r0 g0 r1 g1 r2 g2 r3 g3 r4 g4 r5 g5 r6 g6 r7 g7 r8 g8
  refine bodyPost_ret (v:=.agg #[.slice none 0 0,.slice none 0 0,.int .i64 0,.int .i64 0,.slice none 0 0,.slice none 0 0,.int .i64 0,.int .i64 0,.int .i64 1]) (by simp [results,Tryz.results7,go_sem,HRz.1.1,HRz.2.1.1,HRz.2.2.1.1,HRz.2.2.2.1.1,HRz.2.2.2.2.1.1,HRz.2.2.2.2.2.1.1,HRz.2.2.2.2.2.2.1.1,HRz.2.2.2.2.2.2.2.1.1,HRz.2.2.2.2.2.2.2.2.1]) rfl (AnsSetNew.ill (i:=0) (Or.inr (Or.inl ⟨HL.out,Or.inl (fun h=>Hw.out ((world_iff W).1 h)),rfl⟩)) ?_)
  exact⟨_,_,_,_,rfl,noW_own,hbY.trans (hT.below (B:=w.heap.size) hbY.size (fun k e=>by omega))⟩
 obtain rfl:t=true:=ht.2 hw
 have Hw:=hideW ((world_iff W).2 hw)
 clear ht hw
 go_wp2_with fail
 refine(specName_any name w2 Hz2.out).mono ?_
 rintro e w2' ⟨⟨t,rfl,ht⟩,rfl⟩
 by_cases hw:NameP name
 rotate_left
 ·obtain rfl:t=false:=bool_no ht hw
  have Hnm:=hideW hw
  clear ht hw
  go_wp2_with fail
  refine(l05Ill_any 1 _).mono ?_
  rintro e wz ⟨rfl,hbz⟩
  have hbY:=below_next hB2 hbz
  have HRy:=hideW (HR2.out.below hbz)
  obtain⟨⟨r0,g0⟩,⟨r1,g1⟩,⟨r2,g2⟩,⟨r3,g3⟩,⟨r4,g4⟩,⟨r5,g5⟩,⟨r6,g6⟩,⟨r7,g7⟩,⟨r8,g8⟩⟩:=HRy.out
  go_wp2_with fail
  have HRz:=HRy.out.put (.slice none 0 0) (.slice none 0 0) (.int .i64 0) (.int .i64 0) (.slice none 0 0) (.slice none 0 0) (.int .i64 0) (.int .i64 0) (.int .i64 1)
  have hT:=Turned.put9 wz (w.heap.size+1) (.slice none 0 0) (.slice none 0 0) (.int .i64 0) (.int .i64 0) (.slice none 0 0) (.slice none 0 0) (.int .i64 0) (.int .i64 0) (.int .i64 1)
  clear r0 g0 r1 g1 r2 g2 r3 g3 r4 g4 r5 g5 r6 g6 r7 g7 r8 g8
  refine bodyPost_ret (v:=.agg #[.slice none 0 0,.slice none 0 0,.int .i64 0,.int .i64 0,.slice none 0 0,.slice none 0 0,.int .i64 0,.int .i64 0,.int .i64 1]) (by simp [results,Tryz.results7,go_sem,HRz.1.1,HRz.2.1.1,HRz.2.2.1.1,HRz.2.2.2.1.1,HRz.2.2.2.2.1.1,HRz.2.2.2.2.2.1.1,HRz.2.2.2.2.2.2.1.1,HRz.2.2.2.2.2.2.2.1.1,HRz.2.2.2.2.2.2.2.2.1]) rfl (AnsSetNew.ill (i:=0) (Or.inr (Or.inl ⟨HL.out,Or.inr (badOne.2 Hnm.out),rfl⟩)) ?_)
  exact⟨_,_,_,_,rfl,noW_own,hbY.trans (hT.below (B:=w.heap.size) hbY.size (fun k e=>by omega))⟩
 obtain rfl:t=true:=ht.2 hw
 have Hnm:=hideW (show ¬(∃i,i<1∧¬NameP ((fun i=>match i with  | _=>name) i))from fun h=>badOne.1 h hw)
 clear ht hw
 obtain⟨⟨x0,-⟩,⟨x1,-⟩,⟨x2,-⟩,⟨x3,-⟩,⟨x4,-⟩,⟨x5,-⟩⟩:=HX2.out
 go_wp2_with fail
 clear x0 x1 x2 x3 x4 x5
 refine(l05New_any _ _ _ _ lo hi W name _ (Hp.out.below hB2)).mono ?_
 rintro e w4 ⟨⟨c,rfl,hF⟩,hb4⟩
 have hB4:=below_next hB2 hb4
 have HR4:=hideW (HR2.out.below hb4)
 have HX4:=hideW (HX2.out.below hb4)
 have hz4:=hb4.size
 clear hb4
 rcases hF with⟨hq,rfl⟩ | ⟨hq,hf,rfl⟩ | ⟨hq,hf,rfl⟩
 ·have Hq:=hideW hq
  clear hq
  go_wp2_with fail
  refine(l05Ill_any 5 _).mono ?_
  rintro e wz ⟨rfl,hbz⟩
  have hbY:=below_next hB4 hbz
  have HRy:=hideW (HR4.out.below hbz)
  obtain⟨⟨r0,g0⟩,⟨r1,g1⟩,⟨r2,g2⟩,⟨r3,g3⟩,⟨r4,g4⟩,⟨r5,g5⟩,⟨r6,g6⟩,⟨r7,g7⟩,⟨r8,g8⟩⟩:=HRy.out
  go_wp2_with fail
  have HRz:=HRy.out.put (.slice none 0 0) (.slice none 0 0) (.int .i64 0) (.int .i64 0) (.slice none 0 0) (.slice none 0 0) (.int .i64 0) (.int .i64 0) (.int .i64 5)
  have hT:=Turned.put9 wz (w.heap.size+1) (.slice none 0 0) (.slice none 0 0) (.int .i64 0) (.int .i64 0) (.slice none 0 0) (.slice none 0 0) (.int .i64 0) (.int .i64 0) (.int .i64 5)
  clear r0 g0 r1 g1 r2 g2 r3 g3 r4 g4 r5 g5 r6 g6 r7 g7 r8 g8
  refine bodyPost_ret (v:=.agg #[.slice none 0 0,.slice none 0 0,.int .i64 0,.int .i64 0,.slice none 0 0,.slice none 0 0,.int .i64 0,.int .i64 0,.int .i64 5]) (by simp [results,Tryz.results7,go_sem,HRz.1.1,HRz.2.1.1,HRz.2.2.1.1,HRz.2.2.2.1.1,HRz.2.2.2.2.1.1,HRz.2.2.2.2.2.1.1,HRz.2.2.2.2.2.2.1.1,HRz.2.2.2.2.2.2.2.1.1,HRz.2.2.2.2.2.2.2.2.1]) rfl (AnsSetNew.ill (i:=3) (Or.inr (Or.inr (Or.inl ⟨HL.out,Hw.out,Hnm.out,0,by omega,fun h=>h Hq.out,fun j hj=>absurd hj (Nat.not_lt_zero _),rfl⟩))) ?_)
  exact⟨_,_,_,_,rfl,noW_own,hbY.trans (hT.below (B:=w.heap.size) hbY.size (fun k e=>by omega))⟩
 ·have Hq:=hideW hq
  have Hf:=hideW hf
  clear hq hf
  have HQ1:=hideW (show ∀j,j<1→(fun i=>match i with | 0=>¬HasSet W name | _=>W.sn<8) j from fun j hj=>by
   obtain rfl:j=0:=by omega
   exact Hq.out)
  go_wp2_with fail
  refine(l05Ill_any 6 _).mono ?_
  rintro e wz ⟨rfl,hbz⟩
  have hbY:=below_next hB4 hbz
  have HRy:=hideW (HR4.out.below hbz)
  obtain⟨⟨r0,g0⟩,⟨r1,g1⟩,⟨r2,g2⟩,⟨r3,g3⟩,⟨r4,g4⟩,⟨r5,g5⟩,⟨r6,g6⟩,⟨r7,g7⟩,⟨r8,g8⟩⟩:=HRy.out
  go_wp2_with fail
  have HRz:=HRy.out.put (.slice none 0 0) (.slice none 0 0) (.int .i64 0) (.int .i64 0) (.slice none 0 0) (.slice none 0 0) (.int .i64 0) (.int .i64 0) (.int .i64 6)
  have hT:=Turned.put9 wz (w.heap.size+1) (.slice none 0 0) (.slice none 0 0) (.int .i64 0) (.int .i64 0) (.slice none 0 0) (.slice none 0 0) (.int .i64 0) (.int .i64 0) (.int .i64 6)
  clear r0 g0 r1 g1 r2 g2 r3 g3 r4 g4 r5 g5 r6 g6 r7 g7 r8 g8
  refine bodyPost_ret (v:=.agg #[.slice none 0 0,.slice none 0 0,.int .i64 0,.int .i64 0,.slice none 0 0,.slice none 0 0,.int .i64 0,.int .i64 0,.int .i64 6]) (by simp [results,Tryz.results7,go_sem,HRz.1.1,HRz.2.1.1,HRz.2.2.1.1,HRz.2.2.2.1.1,HRz.2.2.2.2.1.1,HRz.2.2.2.2.2.1.1,HRz.2.2.2.2.2.2.1.1,HRz.2.2.2.2.2.2.2.1.1,HRz.2.2.2.2.2.2.2.2.1]) rfl (AnsSetNew.ill (i:=4) (Or.inr (Or.inr (Or.inl ⟨HL.out,Hw.out,Hnm.out,1,by omega,Hf.out,HQ1.out,rfl⟩))) ?_)
  exact⟨_,_,_,_,rfl,noW_own,hbY.trans (hT.below (B:=w.heap.size) hbY.size (fun k e=>by omega))⟩
 have Hq:=hideW hq
 have Hf:=hideW hf
 clear hq hf
 have HQ2:=hideW (show ∀j,j<2→(fun i=>match i with | 0=>¬HasSet W name | _=>W.sn<8) j from fun j hj=>by
  rcases(by omega:j=0∨j=1)with rfl | rfl
  ·exact Hq.out
  ·exact Hf.out)
 obtain⟨⟨x0,-⟩,⟨x1,-⟩,⟨x2,-⟩,⟨x3,-⟩,⟨x4,-⟩,⟨x5,-⟩⟩:=HX4.out
 go_wp2_with fail
 clear x0 x1 x2 x3 x4 x5
 refine(l04CopyR_any _ _ _ _ lo hi W _ (Hp.out.below hB4) b1 b2 b3 b4).mono ?_
 rintro e w5 ⟨z0,z1,z2,z3,rfl,ho,hb5⟩
 obtain⟨l0,lc0,l1,lc1,l2,lc2,l3,lc3,rfl,rfl,rfl,rfl⟩:=ho.form
 have hB5:=below_next hB4 hb5
 have HR5:=hideW (HR4.out.below hb5)
 have HX5:=hideW (HX4.out.below hb5)
 have hz5:=hb5.size
 obtain⟨K,hK⟩:=PutAt.has Hw.out.names.sets Hq.out
 have HK:=hideW hK
 have ha6:=below_alloc w5 (.cells #[.slice l0 W.pool.n lc0,.slice l1 W.pool.hn lc1,.int .i64 W.time,.int .i64 W.next,.slice l2 W.sn lc2,.slice l3 W.pn lc3] 37)
 have hz6:(w5.alloc (.cells #[.slice l0 W.pool.n lc0,.slice l1 W.pool.hn lc1,.int .i64 W.time,.int .i64 W.next,.slice l2 W.sn lc2,.slice l3 W.pn lc3] 37)).heap.size≥w5.heap.size+1:=by rw [World.size_alloc]; omega
 have HV6:=hideW (Box6.new w5 (.slice l0 W.pool.n lc0) (.slice l1 W.pool.hn lc1) (.int .i64 W.time) (.int .i64 W.next) (.slice l2 W.sn lc2) (.slice l3 W.pn lc3) 37)
 have HO6:=hideW (ho.below ha6)
 have HX6:=hideW (HX5.out.below ha6)
 have HR6:=hideW (HR5.out.below ha6)
 have hB6:=below_next hB5 ha6
 clear ho hK
 go_wp2_with fail
 skip
 generalize w5.alloc (.cells #[.slice l0 W.pool.n lc0,.slice l1 W.pool.hn lc1,.int .i64 W.time,.int .i64 W.next,.slice l2 W.sn lc2,.slice l3 W.pn lc3] 37)=w6 at ha6 hz6 HV6 HO6 HX6 HR6 hB6 ⊢
 have HA:=l05Add_any w5.heap.size K w4.heap.size w5.heap.size _ _ _ _ W (setNew name) w6 Hf.out HK.out rfl Hz2.out HO6.out HV6.out (Or.inr (Nat.le_refl _)) (by omega) (by omega)
 unfold setNew at HA
 dsimp only at HA
 refine HA.mono ?_
 clear HA
 rintro e wz ⟨rfl,hT7,g,cap,hV7,hO7⟩
 have HV7:=hideW hV7
 have HO7:=hideW hO7
 have hz7:=hT7.size
 have HRy:=hideW (HR6.out.turned hT7 (fun h=>by omega))
 have hbY:=hB6.trans (hT7.below (B:=w.heap.size) (by omega) (fun j e=>by omega))
 clear hT7 hV7 hO7
 obtain⟨⟨v0,-⟩,⟨v1,-⟩,⟨v2,-⟩,⟨v3,-⟩,⟨v4,-⟩,⟨v5,-⟩⟩:=HV7.out
 obtain⟨⟨r0,g0⟩,⟨r1,g1⟩,⟨r2,g2⟩,⟨r3,g3⟩,⟨r4,g4⟩,⟨r5,g5⟩,⟨r6,g6⟩,⟨r7,g7⟩,⟨r8,g8⟩⟩:=HRy.out
 go_wp2_with fail
 have HRz:=HRy.out.put (.slice l0 W.pool.n lc0) (.slice l1 W.pool.hn lc1) (.int .i64 W.time) (.int .i64 W.next) (.slice (some ⟨g,0,none⟩) (W.sn+1) cap) (.slice l3 W.pn lc3) (.int .i64 0) (.int .i64 0) (.int .i64 0)
 have hT:=Turned.put9 wz (w.heap.size+1) (.slice l0 W.pool.n lc0) (.slice l1 W.pool.hn lc1) (.int .i64 W.time) (.int .i64 W.next) (.slice (some ⟨g,0,none⟩) (W.sn+1) cap) (.slice l3 W.pn lc3) (.int .i64 0) (.int .i64 0) (.int .i64 0)
 clear r0 g0 r1 g1 r2 g2 r3 g3 r4 g4 r5 g5 r6 g6 r7 g7 r8 g8
 refine bodyPost_ret (v:=.agg #[.slice l0 W.pool.n lc0,.slice l1 W.pool.hn lc1,.int .i64 W.time,.int .i64 W.next,.slice (some ⟨g,0,none⟩) (W.sn+1) cap,.slice l3 W.pn lc3,.int .i64 0,.int .i64 0,.int .i64 0]) (by simp [results,Tryz.results7,go_sem,HRz.1.1,HRz.2.1.1,HRz.2.2.1.1,HRz.2.2.2.1.1,HRz.2.2.2.2.1.1,HRz.2.2.2.2.2.1.1,HRz.2.2.2.2.2.2.1.1,HRz.2.2.2.2.2.2.2.1.1,HRz.2.2.2.2.2.2.2.2.1]) rfl ⟨none,⟨addSetW W K (setNew name),0,0,0⟩,Or.inr (Or.inr (Or.inr ⟨HL.out,Hw.out,Hnm.out,HQ2.out,rfl⟩)),fun _=>⟨K,HK.out,rfl⟩,?_⟩
 show NewWOut ⟨addSetW W K (setNew name),0,0,0⟩ w _ _
 exact⟨_,_,_,_,rfl,((HO7.out.own (by omega) (by omega)).turned hT (fun j e=>by omega)).wide (by omega) hT.size,hbY.trans (hT.below (B:=w.heap.size) hbY.size (fun k e=>by omega))⟩
end Go.Proofs.YteipkhpniokkgaaGreatDoor
