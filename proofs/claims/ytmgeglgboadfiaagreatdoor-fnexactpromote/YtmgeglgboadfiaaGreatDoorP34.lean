/- What spec.Promote answers. -/
import Derived.Test.YtmgeglgboadfiaaGreatDoorP28
import Derived.Test.YtmgeglgboadfiaaGreatDoorP30
import Derived.Test.YtmgeglgboadfiaaGreatDoorP31
import Derived.Test.YtmgeglgboadfiaaGreatDoorP33
import Derived.Test.YtmgeglgboadfiaaGreatDoorP16
import Derived.Deep.DeepCutAuto
import Derived.Deep.RegionHeld3
import Derived.BigRegion
namespace Go.Proofs.YtmgeglgboadfiaaGreatDoor
open Go.RowKit
set_option linter.unusedVariables false
set_option maxRecDepth 20000 in
set_option maxHeartbeats 2000000 in
theorem specPromote_any(v0 v1 v2 v3:Value)(lo hi:Nat)(W:WorldD)(name:ByteArray)(w:World)(h:WorldAt w lo hi v0 v1 v2 v3 W)(b1:poolN W.pool≤1048576)(b2:W.sn≤1048576)(b3:W.pn≤1048576)(b4:DeadsN W)(hname:name.size≤maxLen) :
  Calls Tryz.prog 20 #[worldV v0 v1 v2 v3 W,.string name] w (AnsPromote W name w):=by
 have Hz:=hideW hname
 have Hp:=hideW h
 obtain⟨a0,c0,a1,c1,a2,c2,a3,c3,rfl,rfl,rfl,rfl⟩:=h.form
 have m1:=h.sets.1
 have m2:=h.snaps.1
 unfold maxLen at m1 m2
 clear h
 unfold maxLen at hname
 have ha0:=below_alloc w (.cells #[.slice a0 W.pool.n c0,.slice a1 W.pool.hn c1,.int .i64 W.time,.int .i64 W.next,.slice a2 W.sn c2,.slice a3 W.pn c3] 37)
 have ha1:=below_alloc (w.alloc (.cells #[.slice a0 W.pool.n c0,.slice a1 W.pool.hn c1,.int .i64 W.time,.int .i64 W.next,.slice a2 W.sn c2,.slice a3 W.pn c3] 37)) (.cells #[.slice none 0 0,.slice none 0 0,.int .i64 0,.int .i64 0,.slice none 0 0,.slice none 0 0,.int .i64 0,.int .i64 0,.int .i64 0] 39)
 have hb:=below_next ha0 ha1
 have HX:=hideW ((Box6.new w (.slice a0 W.pool.n c0) (.slice a1 W.pool.hn c1) (.int .i64 W.time) (.int .i64 W.next) (.slice a2 W.sn c2) (.slice a3 W.pn c3) 37).below ha1)
 have hr:=Box9.new (w.alloc (.cells #[.slice a0 W.pool.n c0,.slice a1 W.pool.hn c1,.int .i64 W.time,.int .i64 W.next,.slice a2 W.sn c2,.slice a3 W.pn c3] 37)) (.slice none 0 0) (.slice none 0 0) (.int .i64 0) (.int .i64 0) (.slice none 0 0) (.slice none 0 0) (.int .i64 0) (.int .i64 0) (.int .i64 0) 39
 rw [World.size_alloc] at hr
 have HR:=hideW hr
 have hz:((w.alloc (.cells #[.slice a0 W.pool.n c0,.slice a1 W.pool.hn c1,.int .i64 W.time,.int .i64 W.next,.slice a2 W.sn c2,.slice a3 W.pn c3] 37)).alloc (.cells #[.slice none 0 0,.slice none 0 0,.int .i64 0,.int .i64 0,.slice none 0 0,.slice none 0 0,.int .i64 0,.int .i64 0,.int .i64 0] 39)).heap.size≥w.heap.size+2:=by rw [World.size_alloc,World.size_alloc]; omega
 clear hr
 go_enter Tryz.func20,Tryz.ntmps20
 go_upto_region 1 with fail
 generalize (w.alloc (.cells #[.slice a0 W.pool.n c0,.slice a1 W.pool.hn c1,.int .i64 W.time,.int .i64 W.next,.slice a2 W.sn c2,.slice a3 W.pn c3] 37)).alloc (.cells #[.slice none 0 0,.slice none 0 0,.int .i64 0,.int .i64 0,.slice none 0 0,.slice none 0 0,.int .i64 0,.int .i64 0,.int .i64 0] 39)=W1 at hb HX HR hz ⊢
 clear ha0 ha1
 by_cases hl1:8000<name.size
 ·have a1:(8000:Int)<(name.size:Int):=by omega
  go_wp2_with fail
  refine(l05Ill_any 2 _).mono ?_
  rintro e wz ⟨rfl,hbz⟩
  have hbY:=below_next hb hbz
  have HRy:=hideW (HR.out.below hbz)
  obtain⟨⟨r0,g0⟩,⟨r1,g1⟩,⟨r2,g2⟩,⟨r3,g3⟩,⟨r4,g4⟩,⟨r5,g5⟩,⟨r6,g6⟩,⟨r7,g7⟩,⟨r8,g8⟩⟩:=HRy.out
  go_wp2_with fail
  have HRz:=HRy.out.put (.slice none 0 0) (.slice none 0 0) (.int .i64 0) (.int .i64 0) (.slice none 0 0) (.slice none 0 0) (.int .i64 0) (.int .i64 0) (.int .i64 2)
  have hT:=Turned.put9 wz (w.heap.size+1) (.slice none 0 0) (.slice none 0 0) (.int .i64 0) (.int .i64 0) (.slice none 0 0) (.slice none 0 0) (.int .i64 0) (.int .i64 0) (.int .i64 2)
  clear r0 g0 r1 g1 r2 g2 r3 g3 r4 g4 r5 g5 r6 g6 r7 g7 r8 g8
  refine bodyPost_ret (v:=.agg #[.slice none 0 0,.slice none 0 0,.int .i64 0,.int .i64 0,.slice none 0 0,.slice none 0 0,.int .i64 0,.int .i64 0,.int .i64 2]) (by simp [results,Tryz.results20,go_sem,HRz.1.1,HRz.2.1.1,HRz.2.2.1.1,HRz.2.2.2.1.1,HRz.2.2.2.2.1.1,HRz.2.2.2.2.2.1.1,HRz.2.2.2.2.2.2.1.1,HRz.2.2.2.2.2.2.2.1.1,HRz.2.2.2.2.2.2.2.2.1]) rfl (AnsPromote.ill (i:=1) (Or.inl ⟨long1.2 hl1,rfl⟩) ?_)
  exact⟨_,_,_,_,rfl,noW_own,hbY.trans (hT.below (B:=w.heap.size) hbY.size (fun k e=>by omega))⟩
 have e1:¬(8000:Int)<(name.size:Int):=by omega
 have HL:=hideW (show ¬(∃i,i<1∧8000<((fun (_:Nat)=>name) i).size)from fun h=>hl1 (long1.1 h))
 have Hnm:=hideW (show ¬(∃i,i<0∧¬NameP ((fun _=>⟨#[]⟩) i))from fun ⟨i,hi,_⟩=>absurd hi (Nat.not_lt_zero _))
 clear hl1
 obtain⟨⟨x0,-⟩,⟨x1,-⟩,⟨x2,-⟩,⟨x3,-⟩,⟨x4,-⟩,⟨x5,-⟩⟩:=HX.out
 go_wp2_with fail
 clear x0 x1 x2 x3 x4 x5 e1
 refine(specWorldRight_any _ _ _ _ lo hi W W1 (Hp.out.below hb)).mono ?_
 rintro e w2 ⟨⟨t,rfl,ht⟩,hb2⟩
 have hB2:=below_next hb hb2
 have HR2:=hideW (HR.out.below hb2)
 have HX2:=hideW (HX.out.below hb2)
 have hz2:=hb2.size
 clear hb2
 by_cases hw:SpecW W
 rotate_left
 ·obtain rfl:t=false:=bool_no ht hw
  have Hw:=hideW hw
  clear ht hw
  go_wp2_with fail
  refine(l05Ill_any 1 _).mono ?_
  rintro e wz ⟨rfl,hbz⟩
  have hbY:=below_next hB2 hbz
  have HRy:=hideW (HR2.out.below hbz)
  obtain⟨⟨r0,g0⟩,⟨r1,g1⟩,⟨r2,g2⟩,⟨r3,g3⟩,⟨r4,g4⟩,⟨r5,g5⟩,⟨r6,g6⟩,⟨r7,g7⟩,⟨r8,g8⟩⟩:=HRy.out
  go_wp2_with fail
  have HRz:=HRy.out.put (.slice none 0 0) (.slice none 0 0) (.int .i64 0) (.int .i64 0) (.slice none 0 0) (.slice none 0 0) (.int .i64 0) (.int .i64 0) (.int .i64 1)
  have hT:=Turned.put9 wz (w.heap.size+1) (.slice none 0 0) (.slice none 0 0) (.int .i64 0) (.int .i64 0) (.slice none 0 0) (.slice none 0 0) (.int .i64 0) (.int .i64 0) (.int .i64 1)
  clear r0 g0 r1 g1 r2 g2 r3 g3 r4 g4 r5 g5 r6 g6 r7 g7 r8 g8
  refine bodyPost_ret (v:=.agg #[.slice none 0 0,.slice none 0 0,.int .i64 0,.int .i64 0,.slice none 0 0,.slice none 0 0,.int .i64 0,.int .i64 0,.int .i64 1]) (by simp [results,Tryz.results20,go_sem,HRz.1.1,HRz.2.1.1,HRz.2.2.1.1,HRz.2.2.2.1.1,HRz.2.2.2.2.1.1,HRz.2.2.2.2.2.1.1,HRz.2.2.2.2.2.2.1.1,HRz.2.2.2.2.2.2.2.1.1,HRz.2.2.2.2.2.2.2.2.1]) rfl (AnsPromote.ill (i:=0) (Or.inr (Or.inl ⟨HL.out,Or.inl (fun h=>Hw.out ((world_iff W).1 h)),rfl⟩)) ?_)
  exact⟨_,_,_,_,rfl,noW_own,hbY.trans (hT.below (B:=w.heap.size) hbY.size (fun k e=>by omega))⟩
 obtain rfl:t=true:=ht.2 hw
 have HSW:=hideW hw
 have Hw:=hideW ((world_iff W).2 hw)
 clear ht hw
 obtain⟨⟨x0,-⟩,⟨x1,-⟩,⟨x2,-⟩,⟨x3,-⟩,⟨x4,-⟩,⟨x5,-⟩⟩:=HX2.out
 go_wp2_with fail
 clear x0 x1 x2 x3 x4 x5
 refine(l04Set_any _ _ _ _ lo hi W name _ (Hp.out.below hB2)).mono ?_
 rintro e w3 ⟨r,rfl,hF,hb3⟩
 have hB3:=below_next hB2 hb3
 have HR3:=hideW (HR2.out.below hb3)
 have HX3:=hideW (HX2.out.below hb3)
 have hz3:=hb3.size
 clear hb3
 rcases hF with⟨k,hk,hPk,hnok,rfl⟩ | ⟨hno,rfl⟩
 rotate_left
 ·have Hno:=hideW hno
  clear hno
  go_wp2_with fail
  refine(l05Ill_any 4 _).mono ?_
  rintro e wz ⟨rfl,hbz⟩
  have hbY:=below_next hB3 hbz
  have HRy:=hideW (HR3.out.below hbz)
  obtain⟨⟨r0,g0⟩,⟨r1,g1⟩,⟨r2,g2⟩,⟨r3,g3⟩,⟨r4,g4⟩,⟨r5,g5⟩,⟨r6,g6⟩,⟨r7,g7⟩,⟨r8,g8⟩⟩:=HRy.out
  go_wp2_with fail
  have HRz:=HRy.out.put (.slice none 0 0) (.slice none 0 0) (.int .i64 0) (.int .i64 0) (.slice none 0 0) (.slice none 0 0) (.int .i64 0) (.int .i64 0) (.int .i64 4)
  have hT:=Turned.put9 wz (w.heap.size+1) (.slice none 0 0) (.slice none 0 0) (.int .i64 0) (.int .i64 0) (.slice none 0 0) (.slice none 0 0) (.int .i64 0) (.int .i64 0) (.int .i64 4)
  clear r0 g0 r1 g1 r2 g2 r3 g3 r4 g4 r5 g5 r6 g6 r7 g7 r8 g8
  refine bodyPost_ret (v:=.agg #[.slice none 0 0,.slice none 0 0,.int .i64 0,.int .i64 0,.slice none 0 0,.slice none 0 0,.int .i64 0,.int .i64 0,.int .i64 4]) (by simp [results,Tryz.results20,go_sem,HRz.1.1,HRz.2.1.1,HRz.2.2.1.1,HRz.2.2.2.1.1,HRz.2.2.2.2.1.1,HRz.2.2.2.2.2.1.1,HRz.2.2.2.2.2.2.1.1,HRz.2.2.2.2.2.2.2.1.1,HRz.2.2.2.2.2.2.2.2.1]) rfl (AnsPromote.ill (i:=2) (Or.inr (Or.inr (Or.inl ⟨HL.out,Hw.out,Hnm.out,0,by omega,fun ⟨j,hj,h⟩=>Hno.out j hj h,fun j hj=>absurd hj (Nat.not_lt_zero _),rfl⟩))) ?_)
  exact⟨_,_,_,_,rfl,noW_own,hbY.trans (hT.below (B:=w.heap.size) hbY.size (fun k e=>by omega))⟩
 have HN:=hideW (show SetNo W name k from⟨hk,hPk,hnok⟩)
 clear hPk hnok
 have k0:¬(k:Int)<0:=by omega
 have hk':(k:Int)<(W.sn:Int):=by omega
 have HSA:=hideW (setAt_at HN.out)
 have HQ0:=hideW (show ∀j,j<1→(fun i=>match i with | 0=>HasSet W name | 1=>(setAt W name).origin≠0 | _=>FreeL W name (promL W name)) j from fun j hj=>by
  obtain rfl:j=0:=by omega
  exact⟨k,HN.out.1,HN.out.2.1⟩)
 obtain⟨ab,ao,avd,rfl,hsk⟩:=Hp.out.sets.cells hk
 have HSK:=hideW hsk
 have hsk3:=hsk.below hB3
 obtain⟨⟨x0,-⟩,⟨x1,-⟩,⟨x2,-⟩,⟨x3,-⟩,⟨x4,-⟩,⟨x5,-⟩⟩:=HX3.out
 have q1:=hsk3.c1
 obtain⟨id0,hid⟩:∃id0,id0=(W.sets k).origin:=⟨_,rfl⟩
 rw [←hid] at q1
 have HID:=hideW (show(setAt W name).origin=id0 by rw [HSA.out,hid])
 clear hsk hsk3 hid
 by_cases h00:id0=0
 ·have Hno:=hideW (show ¬(setAt W name).origin≠0 from fun h=>h (by rw [HID.out]; exact h00))
  rw [h00] at q1
  go_wp2_with fail
  clear x0 x1 x2 x3 x4 x5 q1
  refine(l05Ill_any 7 _).mono ?_
  rintro e wz ⟨rfl,hbz⟩
  have hbY:=below_next hB3 hbz
  have HRy:=hideW (HR3.out.below hbz)
  obtain⟨⟨r0,g0⟩,⟨r1,g1⟩,⟨r2,g2⟩,⟨r3,g3⟩,⟨r4,g4⟩,⟨r5,g5⟩,⟨r6,g6⟩,⟨r7,g7⟩,⟨r8,g8⟩⟩:=HRy.out
  go_wp2_with fail
  have HRz:=HRy.out.put (.slice none 0 0) (.slice none 0 0) (.int .i64 0) (.int .i64 0) (.slice none 0 0) (.slice none 0 0) (.int .i64 0) (.int .i64 0) (.int .i64 7)
  have hT:=Turned.put9 wz (w.heap.size+1) (.slice none 0 0) (.slice none 0 0) (.int .i64 0) (.int .i64 0) (.slice none 0 0) (.slice none 0 0) (.int .i64 0) (.int .i64 0) (.int .i64 7)
  clear r0 g0 r1 g1 r2 g2 r3 g3 r4 g4 r5 g5 r6 g6 r7 g7 r8 g8
  refine bodyPost_ret (v:=.agg #[.slice none 0 0,.slice none 0 0,.int .i64 0,.int .i64 0,.slice none 0 0,.slice none 0 0,.int .i64 0,.int .i64 0,.int .i64 7]) (by simp [results,Tryz.results20,go_sem,HRz.1.1,HRz.2.1.1,HRz.2.2.1.1,HRz.2.2.2.1.1,HRz.2.2.2.2.1.1,HRz.2.2.2.2.2.1.1,HRz.2.2.2.2.2.2.1.1,HRz.2.2.2.2.2.2.2.1.1,HRz.2.2.2.2.2.2.2.2.1]) rfl (AnsPromote.ill (i:=5) (Or.inr (Or.inr (Or.inl ⟨HL.out,Hw.out,Hnm.out,1,by omega,Hno.out,HQ0.out,rfl⟩))) ?_)
  exact⟨_,_,_,_,rfl,noW_own,hbY.trans (hT.below (B:=w.heap.size) hbY.size (fun k e=>by omega))⟩
 have HO:=hideW (show(setAt W name).origin≠0 by rw [HID.out]; exact h00)
 have HQ1:=hideW (show ∀j,j<2→(fun i=>match i with | 0=>HasSet W name | 1=>(setAt W name).origin≠0 | _=>FreeL W name (promL W name)) j from fun j hj=>by
  rcases(by omega:j=0∨j=1)with rfl | rfl
  ·exact HQ0.out 0 (by omega)
  ·exact HO.out)
 obtain⟨j,hNJ⟩:=(org_has HSW.out.names HO.out).no
 obtain⟨-,-,-,k2,hN2⟩:=promL_first Hw.out HO.out
 have HAJ:=hideW (aheadOf_at hNJ)
 rw [HAJ.out] at hN2
 have HN2:=hideW hN2
 rw [HID.out] at hNJ
 have HNJ:=hideW hNJ
 have hj:=hNJ.1
 clear hNJ hN2
 have j0:¬(j:Int)<0:=by omega
 have hj':(j:Int)<(W.pn:Int):=by omega
 obtain⟨zb,zo,zvd,rfl,hsj⟩:=Hp.out.snaps.cells hj
 have HSJ:=hideW hsj
 have p2:=(hsj.below hB3).c2
 have e00:(id0 == 0)=false:=beq_eq_false_iff_ne.2 h00
 clear hsj
 go_upto_region 11 with fail
 go_region_held3 (fun w'=>w'.cell? ⟨w.heap.size,0,none⟩=some (.slice a0 W.pool.n c0)∧w'.cell? ⟨w.heap.size,1,none⟩=some (.slice a1 W.pool.hn c1)∧w'.cell? ⟨w.heap.size,2,none⟩=some (.int .i64 W.time)∧w'.cell? ⟨w.heap.size,3,none⟩=some (.int .i64 W.next)∧w'.cell? ⟨w.heap.size,4,none⟩=some (.slice (some ⟨ab,ao,none⟩) W.sn c2)∧w'.cell? ⟨w.heap.size,5,none⟩=some (.slice (some ⟨zb,zo,none⟩) W.pn c3)∧w'.cell? ⟨zb,zo+j*8+2,none⟩=some (.string (W.snaps j).set)) (go_keep)
  (first | (go_at_call 49; refine(l04Snap_any _ _ _ _ lo hi W id0 _ ((Hp.out.below hB3).below (Below.refl _ _).drew)).mono ?_; rintro e w4 ⟨r,rfl,hF,hb4⟩; obtain rfl:=first_no HNJ.out hF; clear hF; have hb4':=below_undrew hb4; obtain⟨⟨y0,-⟩,⟨y1,-⟩,⟨y2,-⟩,⟨y3,-⟩,⟨y4,-⟩,⟨y5,-⟩⟩:=HX3.out.below hb4'; have p2b:=(hb4'.cell (lt_of_cell p2)).trans p2))
 have hB4:=below_next hB3 hb4'
 have HR4:=hideW (HR3.out.below hb4')
 have HX4:=hideW (HX3.out.below hb4')
 have hz4:=hb4'.size
 clear hb4 x0 x1 x2 x3 x4 x5 y0 y1 y2 y3 y4 y5 q1 p2 p2b
 obtain⟨⟨x0,-⟩,⟨x1,-⟩,⟨x2,-⟩,⟨x3,-⟩,⟨x4,-⟩,⟨x5,-⟩⟩:=HX4.out
 go_wp2_with fail
 clear x0 x1 x2 x3 x4 x5
 refine(l04CopyR_any _ _ _ _ lo hi W _ (Hp.out.below hB4) b1 b2 b3 b4).mono ?_
 rintro e w5 ⟨z0,z1,z2,z3,rfl,ho,hb5⟩
 obtain⟨P,Q,R,hinR,hltS⟩:=ho
 have hin:=hinR.isIn
 obtain⟨sb,kb,kv,hS,hSa,hSq⟩:=hin.sets
 obtain⟨so,lc2,rfl,-⟩:=hS.nth hk
 obtain⟨nb,mb,mv,hN,hNa,hNq⟩:=hin.snaps
 obtain⟨no,lc3,rfl,-⟩:=hN.nth hj
 obtain⟨l0,lc0,l1,lc1,l2,lc2',l3,lc3',rfl,rfl,e2,e3⟩:=WorldOwn.form (lo:=w4.heap.size) (hi:=w5.heap.size) ⟨P,Q,R,hin,hltS⟩
 clear e2 e3
 have hB5:=below_next hB4 hb5
 have hz5:=hb5.size
 have ha6:=below_alloc w5 (.cells #[.slice l0 W.pool.n lc0,.slice l1 W.pool.hn lc1,.int .i64 W.time,.int .i64 W.next,.slice (some ⟨sb,so,none⟩) W.sn lc2,.slice (some ⟨nb,no,none⟩) W.pn lc3] 37)
 have hz6:(w5.alloc (.cells #[.slice l0 W.pool.n lc0,.slice l1 W.pool.hn lc1,.int .i64 W.time,.int .i64 W.next,.slice (some ⟨sb,so,none⟩) W.sn lc2,.slice (some ⟨nb,no,none⟩) W.pn lc3] 37)).heap.size=w5.heap.size+1:=World.size_alloc _ _
 have HV6:=hideW (Box6.new w5 (.slice l0 W.pool.n lc0) (.slice l1 W.pool.hn lc1) (.int .i64 W.time) (.int .i64 W.next) (.slice (some ⟨sb,so,none⟩) W.sn lc2) (.slice (some ⟨nb,no,none⟩) W.pn lc3) 37)
 have HIN:=hideW hin
 have HLT:=hideW hltS
 have HSO:=hideW hS
 have HSAp:=hideW hSa
 have HSQ:=hideW hSq
 have HNO:=hideW hN
 have HNA:=hideW hNa
 have HNQ:=hideW hNq
 have hQb:Q sb:=hSq _ (Or.inl ⟨by omega,rfl⟩)
 have hsbl:=hltS sb (Or.inr (Or.inl hQb))
 have HQB:=hideW hQb
 have hRb:R nb:=hNq _ (Or.inl ⟨by omega,rfl⟩)
 have hnbl:=hltS nb (Or.inr (Or.inr hRb))
 have HRB:=hideW hRb
 have HX6:=hideW ((HX4.out.below hb5).below ha6)
 have HR6:=hideW ((HR4.out.below hb5).below ha6)
 have hB6:=below_next hB5 ha6
 clear hinR hin hltS hS hSa hSq hN hNa hNq hQb hRb
 go_upto_region 13 with fail
 generalize w5.alloc (.cells #[.slice l0 W.pool.n lc0,.slice l1 W.pool.hn lc1,.int .i64 W.time,.int .i64 W.next,.slice (some ⟨sb,so,none⟩) W.sn lc2,.slice (some ⟨nb,no,none⟩) W.pn lc3] 37)=w6 at ha6 hz6 HV6 HX6 HR6 hB6 ⊢
 go_wp2_with fail
 go_loopw [9] (fun s9 wr=>∃(y:Int) (l:List SnapD),s9 = .int .i64 y∧(y≠0→HasId W y)∧l ++ comeL W (W.snaps j).set y=promL W name∧FreeL W name l∧SnapsOwn wr nb mb mv (.slice (some ⟨nb,no,none⟩) W.pn lc3) W.pn (promSn W name l W.pn)∧Turned (fun i=>i=nb) w6 wr) (fun s9 _=>(intOf s9).toNat)
 case atStart=>
  refine⟨id0,[],rfl,fun _=>⟨j,HNJ.out.1,HNJ.out.2.1⟩,?_,fun i hi=>absurd hi (Nat.not_lt_zero _),?_,Turned.refl _ _⟩
  ·unfold promL
   rw [HAJ.out,HID.out]
   rfl
  ·rw [promSn_nil]
   exact HNO.out.below ha6
 case round=>
  obtain⟨y,l,rfl,hy,hl,hfr,hNr,hTr⟩:=hrel
  have HNR:=hideW hNr
  have HTR:=hideW hTr
  have HFr:=hideW hfr
  have Hy:=hideW hy
  have hzr:=hTr.size
  clear hNr hTr hfr hy
  by_cases hy0:y=0
  ·subst hy0
   have e0:comeL W (W.snaps j).set 0 = []:=comeL_stop (Or.inl (by
    have e:aheadOf W 0=zeroSnap:=by
     unfold aheadOf
     rw [dif_neg]
     rintro⟨i,hi⟩
     exact id_pos HSW.out.names hi.1 hi.2.1
    rw [e]
    rfl))
   rw [e0,List.append_nil] at hl
   have Hl:=hideW hl
   clear hl
   obtain⟨⟨x0,-⟩,⟨x1,-⟩,⟨x2,-⟩,⟨x3,-⟩,⟨x4,-⟩,⟨x5,-⟩⟩:=(HX6.out.turned HTR.out (by omega))
   go_wp2_with fail
   clear x0 x1 x2 x3 x4 x5
   have hBr:Below w.heap.size w wr:=hB6.trans (HTR.out.below (B:=w.heap.size) hB6.size (fun i h=>by omega))
   refine(l04Set_any _ _ _ _ lo hi W (W.snaps j).set _ (Hp.out.below hBr)).mono ?_
   rintro e wt ⟨r,rfl,hF,hbt⟩
   obtain rfl:r=(k2:Int):=by
    rcases hF with⟨k3,hk3,e1,e2,rfl⟩ | ⟨hno,rfl⟩
    ·rw [SetNo.uniq (⟨hk3,e1,e2⟩:SetNo W (W.snaps j).set k3) HN2.out]
    ·exact absurd HN2.out.2.1 (hno k2 HN2.out.1)
   clear hF
   have hk2':(k2:Int)<(W.sn:Int):=by have:=HN2.out.1; omega
   have hk20:¬(k2:Int)<0:=by omega
   have hzt:=hbt.size
   have hzr:=HTR.out.size
   have hBt:=below_next hBr hbt
   have HXt:=hideW ((HX6.out.turned HTR.out (by omega)).below hbt)
   have HRt:=hideW ((HR6.out.turned HTR.out (by omega)).below hbt)
   have HVt:=hideW ((HV6.out.turned HTR.out (by omega)).below hbt)
   have hqb:∀i,SetsB sb kb W.sn W.sets i→i≠nb:=fun i hi e=>HIN.out.qr i (HSQ.out i hi) (by rw [e]; exact HRB.out)
   have HSt:=hideW (((HSO.out.below ha6).turned HTR.out hqb).below hbt)
   have HNt:=hideW (HNR.out.below hbt)
   obtain⟨so',lc2',e1,hst⟩:=HSt.out.nth hk
   cases e1
   obtain⟨so',lc2',e1,hst2⟩:=HSt.out.nth HN2.out.1
   cases e1
   obtain⟨t1,t1'⟩:=hst.c1
   obtain⟨ab',ao',avd2,e1,hsk2⟩:=Hp.out.sets.cells HN2.out.1
   cases e1
   have q1:=(hsk2.below hBt).c1
   obtain⟨-,-,-,-,⟨x4,-⟩,-⟩:=HXt.out
   obtain⟨-,-,-,-,⟨v4,-⟩,-⟩:=HVt.out
   have hab:ab<w.heap.size:=lt_of_cell HSK.out.c1
   have n1:sb≠ab:=by omega
   have n2:ab≠sb:=by omega
   have n3:sb≠w.heap.size:=by omega
   have n4:w.heap.size≠sb:=by omega
   have n5:sb≠w5.heap.size:=by omega
   have n6:w5.heap.size≠sb:=by omega
   clear hst hst2 hsk2
   go_upto_region 22 with fail
   go_region
   go_upto_region 23 with fail
   have hTu:Turned (fun i=>i=sb) wt (wt.setCell ⟨sb,so+k*6+1,none⟩ (.int .i64 (W.sets k2).origin)).drew:=(Turned.put wt sb _ _).trans (Turned.of_below ((Below.refl _ _).drew))
   have HSu:=hideW ((HSt.out.orgTo hk (W.sets k2).origin).below ((Below.refl _ _).drew))
   have HXu:=hideW (HXt.out.turned hTu n4)
   have HRu:=hideW (HRt.out.turned hTu (by omega))
   have HVu:=hideW (HVt.out.turned hTu n6)
   have HNu:=hideW (HNt.out.turned hTu (fun i hi e=>HIN.out.qr sb HQB.out (by rw [←e]; exact HNQ.out i (promSn_B hi))))
   have hzu:=hTu.size
   have HTu:=hideW hTu
   clear t1 t1' q1 x4 v4 hTu
   generalize (wt.setCell ⟨sb,so+k*6+1,none⟩ (.int .i64 (W.sets k2).origin)).drew=wu at HSu HXu HRu HVu HNu hzu HTu ⊢
   obtain⟨so',lc2',e1,hst2⟩:=HSu.out.nth HN2.out.1
   cases e1
   obtain⟨t1,t1'⟩:=hst2.c1
   obtain⟨-,-,-,-,⟨v4,-⟩,-⟩:=HVu.out
   clear hst2
   go_upto_region 24 with fail
   have hTz:Turned (fun i=>i=sb) wu (wu.setCell ⟨sb,so+k2*6+1,none⟩ (.int .i64 id0)):=Turned.put wu sb _ _
   have HSz:=hideW (HSu.out.orgTo HN2.out.1 id0)
   have HRy:=hideW (HRu.out.turned hTz (by omega))
   have HVz:=hideW (HVu.out.turned hTz n6)
   have HNz:=hideW (HNu.out.turned hTz (fun i hi e=>HIN.out.qr sb HQB.out (by rw [←e]; exact HNQ.out i (promSn_B hi))))
   have hzz:=hTz.size
   have hbY:Below w.heap.size w (wu.setCell ⟨sb,so+k2*6+1,none⟩ (.int .i64 id0)):=(hBt.trans (HTu.out.below (B:=w.heap.size) hBt.size (fun i h=>by omega))).trans (hTz.below (B:=w.heap.size) (by omega) (fun i h=>by omega))
   have HTz:=hideW hTz
   clear t1 t1' v4 hTz
   generalize (wu.setCell ⟨sb,so+k2*6+1,none⟩ (.int .i64 id0))=wz at HSz HRy HVz HNz hzz hbY HTz ⊢
   have HPW:=hideW (show promW W name k k2 (promL W name) = {W with sets:=orgTo (orgTo W.sets k (W.sets k2).origin) k2 id0,snaps:=promSn W name (promL W name) W.pn}from by
    unfold promW
    obtain⟨-,e1,e2,-⟩:=promL_first Hw.out HO.out
    rw [e1,e2,HID.out])
   have HPo:=hideW ((((HIN.out.pool.below ha6).turned HTR.out (fun i hi e=>HIN.out.pr i hi (by rw [e]; exact HRB.out))).below hbt).turned HTu.out (fun i hi e=>HIN.out.pq i hi (by rw [e]; exact HQB.out)) |>.turned HTz.out (fun i hi e=>HIN.out.pq i hi (by rw [e]; exact HQB.out)))
   have HOz:=hideW (show WorldOwn wz w4.heap.size wz.heap.size (.slice l0 W.pool.n lc0) (.slice l1 W.pool.hn lc1) (.slice (some ⟨sb,so,none⟩) W.sn lc2) (.slice (some ⟨nb,no,none⟩) W.pn lc3) (promW W name k k2 (promL W name))from by
    rw [HPW.out]
    refine⟨P,Q,R,⟨HPo.out,⟨sb,kb,kv,HSz.out,(HSAp.out.orgTo _ _).orgTo _ _,fun i hi=>?_⟩,⟨nb,mb,mv,by rw [←Hl.out]; exact HNz.out,promSn_apart HNA.out _ _ _,fun i hi=>HNQ.out i (promSn_B hi)⟩,HIN.out.pq,HIN.out.pr,HIN.out.qr⟩,fun i hi=>by have:=HLT.out i hi; omega⟩
    rw [SetsB.orgTo,SetsB.orgTo] at hi
    exact HSQ.out i hi)
   have HQ2:=hideW (show ∀i,i<3→(fun i=>match i with | 0=>HasSet W name | 1=>(setAt W name).origin≠0 | _=>FreeL W name (promL W name)) i from fun i hi=>by
    rcases(by omega:i=0∨i=1∨i=2)with rfl | rfl | rfl
    ·exact HQ1.out 0 (by omega)
    ·exact HQ1.out 1 (by omega)
    ·show FreeL W name (promL W name)
     rw [←Hl.out]; exact HFr.out)
   obtain⟨⟨v0,-⟩,⟨v1,-⟩,⟨v2,-⟩,⟨v3,-⟩,⟨v4,-⟩,⟨v5,-⟩⟩:=HVz.out
   obtain⟨⟨r0,g0⟩,⟨r1,g1⟩,⟨r2,g2⟩,⟨r3,g3⟩,⟨r4,g4⟩,⟨r5,g5⟩,⟨r6,g6⟩,⟨r7,g7⟩,⟨r8,g8⟩⟩:=HRy.out
   go_wp2_with fail
   have HRz:=HRy.out.put (.slice l0 W.pool.n lc0) (.slice l1 W.pool.hn lc1) (.int .i64 W.time) (.int .i64 W.next) (.slice (some ⟨sb,so,none⟩) W.sn lc2) (.slice (some ⟨nb,no,none⟩) W.pn lc3) (.int .i64 id0) (.int .i64 0) (.int .i64 0)
   have hT:=Turned.put9 wz (w.heap.size+1) (.slice l0 W.pool.n lc0) (.slice l1 W.pool.hn lc1) (.int .i64 W.time) (.int .i64 W.next) (.slice (some ⟨sb,so,none⟩) W.sn lc2) (.slice (some ⟨nb,no,none⟩) W.pn lc3) (.int .i64 id0) (.int .i64 0) (.int .i64 0)
   clear r0 g0 r1 g1 r2 g2 r3 g3 r4 g4 r5 g5 r6 g6 r7 g7 r8 g8
   refine bodyPost_ret (v:=.agg #[.slice l0 W.pool.n lc0,.slice l1 W.pool.hn lc1,.int .i64 W.time,.int .i64 W.next,.slice (some ⟨sb,so,none⟩) W.sn lc2,.slice (some ⟨nb,no,none⟩) W.pn lc3,.int .i64 id0,.int .i64 0,.int .i64 0]) (by simp [results,Tryz.results20,go_sem,HRz.1.1,HRz.2.1.1,HRz.2.2.1.1,HRz.2.2.2.1.1,HRz.2.2.2.2.1.1,HRz.2.2.2.2.2.1.1,HRz.2.2.2.2.2.2.1.1,HRz.2.2.2.2.2.2.2.1.1,HRz.2.2.2.2.2.2.2.2.1]) rfl ⟨none,⟨promW W name k k2 (promL W name),(setAt W name).origin,0,0⟩,Or.inr (Or.inr (Or.inr ⟨HL.out,Hw.out,Hnm.out,HQ2.out,rfl⟩)),fun _=>⟨k,k2,HN.out,by rw [HAJ.out]; exact HN2.out,rfl⟩,?_⟩
   show NewWOut ⟨promW W name k k2 (promL W name),(setAt W name).origin,0,0⟩ w _ _
   rw [HID.out]
   exact⟨_,_,_,_,rfl,(HOz.out.turned hT (fun i e=>by omega)).wide (by omega) hT.size,hbY.trans (hT.below (B:=w.heap.size) hbY.size (fun i e=>by omega))⟩
  ·have ey:(y != 0)=true:=bne_iff_ne.2 hy0
   obtain⟨i,hNI⟩:=(Hy.out hy0).no
   have HNI:=hideW hNI
   have hin:=hNI.1
   have i0:¬(i:Int)<0:=by omega
   have hi':(i:Int)<(W.pn:Int):=by omega
   clear hNI
   have hBr:Below w.heap.size w wr:=hB6.trans (HTR.out.below (B:=w.heap.size) hB6.size (fun i h=>by omega))
   have HXr:=hideW (HX6.out.turned HTR.out (by omega))
   obtain⟨⟨x0,-⟩,⟨x1,-⟩,⟨x2,-⟩,⟨x3,-⟩,⟨x4,-⟩,⟨x5,-⟩⟩:=HXr.out
   go_wp2_with fail
   clear x0 x1 x2 x3 x4 x5
   refine(l04Snap_any _ _ _ _ lo hi W y _ (Hp.out.below hBr)).mono ?_
   rintro e w7 ⟨r,rfl,hF,hb7⟩
   obtain rfl:=first_no HNI.out hF
   clear hF
   have hB7:=below_next hBr hb7
   have hz7:=hb7.size
   have HX7:=hideW (HXr.out.below hb7)
   have HT7:=hideW (HTR.out.trans (Turned.of_below hb7))
   have HN7:=hideW (HNR.out.below hb7)
   obtain⟨⟨x0,-⟩,⟨x1,-⟩,⟨x2,-⟩,⟨x3,-⟩,⟨x4,-⟩,⟨x5,-⟩⟩:=HX7.out
   obtain⟨zb',zo',vd7,e7,hsi⟩:=Hp.out.snaps.cells hin
   cases e7
   have HSI:=hideW hsi
   have p2:=(hsi.below hB7).c2
   clear hsi
   by_cases hq:(W.snaps i).set=(W.snaps j).set
   rotate_left
   ·have e0:((W.snaps i).set.toList != (W.snaps j).set.toList)=true:=by
     have:=str_ne hq
     simp [bne,this]
    have e0':((W.snaps i).set.toList == (W.snaps j).set.toList)=false:=str_ne hq
    have e9:comeL W (W.snaps j).set y = []:=comeL_stop (Or.inr (by rw [aheadOf_at HNI.out]; exact hq))
    rw [e9,List.append_nil] at hl
    clear hBr hq e9
    go_wp2_with fail
    clear x0 x1 x2 x3 x4 x5 p2 e0 e0'
    have Hl:=hideW hl
    clear hl
    obtain⟨⟨x0,-⟩,⟨x1,-⟩,⟨x2,-⟩,⟨x3,-⟩,⟨x4,-⟩,⟨x5,-⟩⟩:=(HX6.out.turned HT7.out (by omega))
    go_wp2_with fail
    clear x0 x1 x2 x3 x4 x5
    have hBr:Below w.heap.size w w7:=hB6.trans (HT7.out.below (B:=w.heap.size) hB6.size (fun i h=>by omega))
    refine(l04Set_any _ _ _ _ lo hi W (W.snaps j).set _ (Hp.out.below hBr)).mono ?_
    rintro e wt ⟨r,rfl,hF,hbt⟩
    obtain rfl:r=(k2:Int):=by
     rcases hF with⟨k3,hk3,e1,e2,rfl⟩ | ⟨hno,rfl⟩
     ·rw [SetNo.uniq (⟨hk3,e1,e2⟩:SetNo W (W.snaps j).set k3) HN2.out]
     ·exact absurd HN2.out.2.1 (hno k2 HN2.out.1)
    clear hF
    have hk2':(k2:Int)<(W.sn:Int):=by have:=HN2.out.1; omega
    have hk20:¬(k2:Int)<0:=by omega
    have hzt:=hbt.size
    have hzr7:=HT7.out.size
    have hBt:=below_next hBr hbt
    have HXt:=hideW ((HX6.out.turned HT7.out (by omega)).below hbt)
    have HRt:=hideW ((HR6.out.turned HT7.out (by omega)).below hbt)
    have HVt:=hideW ((HV6.out.turned HT7.out (by omega)).below hbt)
    have hqb:∀i,SetsB sb kb W.sn W.sets i→i≠nb:=fun i hi e=>HIN.out.qr i (HSQ.out i hi) (by rw [e]; exact HRB.out)
    have HSt:=hideW (((HSO.out.below ha6).turned HT7.out hqb).below hbt)
    have HNt:=hideW (HN7.out.below hbt)
    obtain⟨so',lc2',e1,hst⟩:=HSt.out.nth hk
    cases e1
    obtain⟨so',lc2',e1,hst2⟩:=HSt.out.nth HN2.out.1
    cases e1
    obtain⟨t1,t1'⟩:=hst.c1
    obtain⟨ab',ao',avd2,e1,hsk2⟩:=Hp.out.sets.cells HN2.out.1
    cases e1
    have q1:=(hsk2.below hBt).c1
    obtain⟨-,-,-,-,⟨x4,-⟩,-⟩:=HXt.out
    obtain⟨-,-,-,-,⟨v4,-⟩,-⟩:=HVt.out
    have hab:ab<w.heap.size:=lt_of_cell HSK.out.c1
    have n1:sb≠ab:=by omega
    have n2:ab≠sb:=by omega
    have n3:sb≠w.heap.size:=by omega
    have n4:w.heap.size≠sb:=by omega
    have n5:sb≠w5.heap.size:=by omega
    have n6:w5.heap.size≠sb:=by omega
    clear hst hst2 hsk2
    go_upto_region 22 with fail
    go_region
    go_upto_region 23 with fail
    have hTu:Turned (fun i=>i=sb) wt (wt.setCell ⟨sb,so+k*6+1,none⟩ (.int .i64 (W.sets k2).origin)).drew:=(Turned.put wt sb _ _).trans (Turned.of_below ((Below.refl _ _).drew))
    have HSu:=hideW ((HSt.out.orgTo hk (W.sets k2).origin).below ((Below.refl _ _).drew))
    have HXu:=hideW (HXt.out.turned hTu n4)
    have HRu:=hideW (HRt.out.turned hTu (by omega))
    have HVu:=hideW (HVt.out.turned hTu n6)
    have HNu:=hideW (HNt.out.turned hTu (fun i hi e=>HIN.out.qr sb HQB.out (by rw [←e]; exact HNQ.out i (promSn_B hi))))
    have hzu:=hTu.size
    have HTu:=hideW hTu
    clear t1 t1' q1 x4 v4 hTu
    generalize (wt.setCell ⟨sb,so+k*6+1,none⟩ (.int .i64 (W.sets k2).origin)).drew=wu at HSu HXu HRu HVu HNu hzu HTu ⊢
    obtain⟨so',lc2',e1,hst2⟩:=HSu.out.nth HN2.out.1
    cases e1
    obtain⟨t1,t1'⟩:=hst2.c1
    obtain⟨-,-,-,-,⟨v4,-⟩,-⟩:=HVu.out
    clear hst2
    go_upto_region 24 with fail
    have hTz:Turned (fun i=>i=sb) wu (wu.setCell ⟨sb,so+k2*6+1,none⟩ (.int .i64 id0)):=Turned.put wu sb _ _
    have HSz:=hideW (HSu.out.orgTo HN2.out.1 id0)
    have HRy:=hideW (HRu.out.turned hTz (by omega))
    have HVz:=hideW (HVu.out.turned hTz n6)
    have HNz:=hideW (HNu.out.turned hTz (fun i hi e=>HIN.out.qr sb HQB.out (by rw [←e]; exact HNQ.out i (promSn_B hi))))
    have hzz:=hTz.size
    have hbY:Below w.heap.size w (wu.setCell ⟨sb,so+k2*6+1,none⟩ (.int .i64 id0)):=(hBt.trans (HTu.out.below (B:=w.heap.size) hBt.size (fun i h=>by omega))).trans (hTz.below (B:=w.heap.size) (by omega) (fun i h=>by omega))
    have HTz:=hideW hTz
    clear t1 t1' v4 hTz
    generalize (wu.setCell ⟨sb,so+k2*6+1,none⟩ (.int .i64 id0))=wz at HSz HRy HVz HNz hzz hbY HTz ⊢
    have HPW:=hideW (show promW W name k k2 (promL W name) = {W with sets:=orgTo (orgTo W.sets k (W.sets k2).origin) k2 id0,snaps:=promSn W name (promL W name) W.pn}from by
     unfold promW
     obtain⟨-,e1,e2,-⟩:=promL_first Hw.out HO.out
     rw [e1,e2,HID.out])
    have HPo:=hideW ((((HIN.out.pool.below ha6).turned HT7.out (fun i hi e=>HIN.out.pr i hi (by rw [e]; exact HRB.out))).below hbt).turned HTu.out (fun i hi e=>HIN.out.pq i hi (by rw [e]; exact HQB.out)) |>.turned HTz.out (fun i hi e=>HIN.out.pq i hi (by rw [e]; exact HQB.out)))
    have HOz:=hideW (show WorldOwn wz w4.heap.size wz.heap.size (.slice l0 W.pool.n lc0) (.slice l1 W.pool.hn lc1) (.slice (some ⟨sb,so,none⟩) W.sn lc2) (.slice (some ⟨nb,no,none⟩) W.pn lc3) (promW W name k k2 (promL W name))from by
     rw [HPW.out]
     refine⟨P,Q,R,⟨HPo.out,⟨sb,kb,kv,HSz.out,(HSAp.out.orgTo _ _).orgTo _ _,fun i hi=>?_⟩,⟨nb,mb,mv,by rw [←Hl.out]; exact HNz.out,promSn_apart HNA.out _ _ _,fun i hi=>HNQ.out i (promSn_B hi)⟩,HIN.out.pq,HIN.out.pr,HIN.out.qr⟩,fun i hi=>by have:=HLT.out i hi; omega⟩
     rw [SetsB.orgTo,SetsB.orgTo] at hi
     exact HSQ.out i hi)
    have HQ2:=hideW (show ∀i,i<3→(fun i=>match i with | 0=>HasSet W name | 1=>(setAt W name).origin≠0 | _=>FreeL W name (promL W name)) i from fun i hi=>by
     rcases(by omega:i=0∨i=1∨i=2)with rfl | rfl | rfl
     ·exact HQ1.out 0 (by omega)
     ·exact HQ1.out 1 (by omega)
     ·show FreeL W name (promL W name)
      rw [←Hl.out]; exact HFr.out)
    obtain⟨⟨v0,-⟩,⟨v1,-⟩,⟨v2,-⟩,⟨v3,-⟩,⟨v4,-⟩,⟨v5,-⟩⟩:=HVz.out
    obtain⟨⟨r0,g0⟩,⟨r1,g1⟩,⟨r2,g2⟩,⟨r3,g3⟩,⟨r4,g4⟩,⟨r5,g5⟩,⟨r6,g6⟩,⟨r7,g7⟩,⟨r8,g8⟩⟩:=HRy.out
    go_wp2_with fail
    have HRz:=HRy.out.put (.slice l0 W.pool.n lc0) (.slice l1 W.pool.hn lc1) (.int .i64 W.time) (.int .i64 W.next) (.slice (some ⟨sb,so,none⟩) W.sn lc2) (.slice (some ⟨nb,no,none⟩) W.pn lc3) (.int .i64 id0) (.int .i64 0) (.int .i64 0)
    have hT:=Turned.put9 wz (w.heap.size+1) (.slice l0 W.pool.n lc0) (.slice l1 W.pool.hn lc1) (.int .i64 W.time) (.int .i64 W.next) (.slice (some ⟨sb,so,none⟩) W.sn lc2) (.slice (some ⟨nb,no,none⟩) W.pn lc3) (.int .i64 id0) (.int .i64 0) (.int .i64 0)
    clear r0 g0 r1 g1 r2 g2 r3 g3 r4 g4 r5 g5 r6 g6 r7 g7 r8 g8
    refine bodyPost_ret (v:=.agg #[.slice l0 W.pool.n lc0,.slice l1 W.pool.hn lc1,.int .i64 W.time,.int .i64 W.next,.slice (some ⟨sb,so,none⟩) W.sn lc2,.slice (some ⟨nb,no,none⟩) W.pn lc3,.int .i64 id0,.int .i64 0,.int .i64 0]) (by simp [results,Tryz.results20,go_sem,HRz.1.1,HRz.2.1.1,HRz.2.2.1.1,HRz.2.2.2.1.1,HRz.2.2.2.2.1.1,HRz.2.2.2.2.2.1.1,HRz.2.2.2.2.2.2.1.1,HRz.2.2.2.2.2.2.2.1.1,HRz.2.2.2.2.2.2.2.2.1]) rfl ⟨none,⟨promW W name k k2 (promL W name),(setAt W name).origin,0,0⟩,Or.inr (Or.inr (Or.inr ⟨HL.out,Hw.out,Hnm.out,HQ2.out,rfl⟩)),fun _=>⟨k,k2,HN.out,by rw [HAJ.out]; exact HN2.out,rfl⟩,?_⟩
    show NewWOut ⟨promW W name k k2 (promL W name),(setAt W name).origin,0,0⟩ w _ _
    rw [HID.out]
    exact⟨_,_,_,_,rfl,(HOz.out.turned hT (fun i e=>by omega)).wide (by omega) hT.size,hbY.trans (hT.below (B:=w.heap.size) hbY.size (fun i e=>by omega))⟩
   have e0:((W.snaps i).set.toList != (W.snaps j).set.toList)=false:=by
    have:=str_eq hq
    simp [bne,this]
   have e0':((W.snaps i).set.toList == (W.snaps j).set.toList)=true:=str_eq hq
   have hnx:=comeL_next Hw.out.names (st:=(W.snaps j).set) (x:=y) (by
    rw [aheadOf_at HNI.out]
    rintro(e | e)
    ·exact id_pos HSW.out.names hin e
    ·exact e hq)
   rw [aheadOf_at HNI.out] at hnx
   have Hl2:=hideW (show(l ++ [W.snaps i]) ++ comeL W (W.snaps j).set (W.snaps i).prev=promL W name by rw [List.append_assoc,List.singleton_append,←hnx]; exact hl)
   clear hl hnx hq
   go_upto_region 17 with fail
   clear p2 e0 e0'
   have p1:=(HSI.out.below hB7).c1
   go_region_held3 (fun w'=>w'.cell? ⟨w.heap.size,0,none⟩=some (.slice a0 W.pool.n c0)∧w'.cell? ⟨w.heap.size,1,none⟩=some (.slice a1 W.pool.hn c1)∧w'.cell? ⟨w.heap.size,2,none⟩=some (.int .i64 W.time)∧w'.cell? ⟨w.heap.size,3,none⟩=some (.int .i64 W.next)∧w'.cell? ⟨w.heap.size,4,none⟩=some (.slice (some ⟨ab,ao,none⟩) W.sn c2)∧w'.cell? ⟨w.heap.size,5,none⟩=some (.slice (some ⟨zb,zo,none⟩) W.pn c3)∧w'.cell? ⟨zb,zo+i*8+1,none⟩=some (.string (W.snaps i).name)) (go_keep)
    (first | (go_at_call 59; refine(l05Named_any _ _ _ _ lo hi W name (W.snaps i).name _ ((Hp.out.below hB7).below (Below.refl _ _).drew)).mono ?_; rintro e w8 ⟨⟨t,rfl,ht⟩,hb8⟩; have hb8':=below_undrew hb8; obtain⟨⟨y0,-⟩,⟨y1,-⟩,⟨y2,-⟩,⟨y3,-⟩,⟨y4,-⟩,⟨y5,-⟩⟩:=HX7.out.below hb8'; have p1b:=(hb8'.cell (lt_of_cell p1)).trans p1))
   have hB8:=below_next hB7 hb8'
   have hz8:=hb8'.size
   clear hb8 x0 x1 x2 x3 x4 x5 y0 y1 y2 y3 y4 y5 p1 p1b
   by_cases hq:∃m,m<W.pn∧(W.snaps m).set=name∧(W.snaps m).name=(W.snaps i).name
   ·obtain rfl:t=true:=ht.2 hq
    have Hno:=hideW (show ¬FreeL W name (promL W name)from fun hf=>by
     obtain⟨m,hm,e1,e2⟩:=hq
     have hlen:l.length<(promL W name).length:=by
      rw [←Hl2.out,List.length_append,List.length_append,List.length_singleton]
      omega
     refine hf l.length hlen m hm ⟨e1,?_⟩
     have e3:(promL W name).getD l.length zeroSnap=W.snaps i:=by
      rw [←Hl2.out,List.append_assoc,List.getD_eq_getElem?_getD,List.getElem?_append_right (Nat.le_refl _),Nat.sub_self]
      rfl
     rw [e3]
     exact e2)
    have HR8:=hideW (((HR6.out.turned HT7.out (by omega))).below hb8')
    clear ht hq
    go_wp2_with fail
    refine(l05Ill_any 5 _).mono ?_
    rintro e wz ⟨rfl,hbz⟩
    have hbY:=below_next hB8 hbz
    have HRy:=hideW (HR8.out.below hbz)
    obtain⟨⟨r0,g0⟩,⟨r1,g1⟩,⟨r2,g2⟩,⟨r3,g3⟩,⟨r4,g4⟩,⟨r5,g5⟩,⟨r6,g6⟩,⟨r7,g7⟩,⟨r8,g8⟩⟩:=HRy.out
    go_wp2_with fail
    have HRz:=HRy.out.put (.slice none 0 0) (.slice none 0 0) (.int .i64 0) (.int .i64 0) (.slice none 0 0) (.slice none 0 0) (.int .i64 0) (.int .i64 0) (.int .i64 5)
    have hT:=Turned.put9 wz (w.heap.size+1) (.slice none 0 0) (.slice none 0 0) (.int .i64 0) (.int .i64 0) (.slice none 0 0) (.slice none 0 0) (.int .i64 0) (.int .i64 0) (.int .i64 5)
    clear r0 g0 r1 g1 r2 g2 r3 g3 r4 g4 r5 g5 r6 g6 r7 g7 r8 g8
    refine bodyPost_ret (v:=.agg #[.slice none 0 0,.slice none 0 0,.int .i64 0,.int .i64 0,.slice none 0 0,.slice none 0 0,.int .i64 0,.int .i64 0,.int .i64 5]) (by simp [results,Tryz.results20,go_sem,HRz.1.1,HRz.2.1.1,HRz.2.2.1.1,HRz.2.2.2.1.1,HRz.2.2.2.2.1.1,HRz.2.2.2.2.2.1.1,HRz.2.2.2.2.2.2.1.1,HRz.2.2.2.2.2.2.2.1.1,HRz.2.2.2.2.2.2.2.2.1]) rfl (AnsPromote.ill (i:=3) (Or.inr (Or.inr (Or.inl ⟨HL.out,Hw.out,Hnm.out,2,by omega,Hno.out,HQ1.out,rfl⟩))) ?_)
    exact⟨_,_,_,_,rfl,noW_own,hbY.trans (hT.below (B:=w.heap.size) hbY.size (fun k e=>by omega))⟩
   obtain rfl:t=false:=bool_no ht hq
   have Hq:=hideW hq
   clear ht hq
   have HN8:=hideW (HN7.out.below hb8')
   have HX8:=hideW (HX7.out.below hb8')
   obtain⟨⟨-,-⟩,-,-,-,-,⟨x5,-⟩⟩:=HX8.out
   obtain⟨-,-,-,-,-,⟨v5,-⟩⟩:=(HV6.out.turned HT7.out (by omega)).below hb8'
   obtain⟨no',lc3',e1,hn8⟩:=HN8.out.nth hin
   cases e1
   obtain⟨t2,t2'⟩:=hn8.c2
   have p3:=(HSI.out.below hB8).c3
   have hzb:zb<w.heap.size:=lt_of_cell HSI.out.c3
   have n1:nb≠zb:=by omega
   have n2:zb≠nb:=by omega
   have n3:nb≠w.heap.size:=by omega
   have n4:w.heap.size≠nb:=by omega
   have n5:nb≠w5.heap.size:=by omega
   have n6:w5.heap.size≠nb:=by omega
   clear hn8
   go_wp2_with fail
   clear x5 v5 t2 t2' p3
   have hp8:=(HSW.out.names.2.2.2.2.2 i hin).2.1.2
   have hid1:=((HSW.out.names.2.2.2.2.2 i hin).1).1
   have hid2:=HNI.out.2.1
   go_roundw
   case rel=>
    refine⟨(W.snaps i).prev,l ++ [W.snaps i],rfl,fun h=>(hp8 h).2,Hl2.out,?_,?_,HT7.out.trans ((Turned.of_below hb8').trans (Turned.put _ nb _ _))⟩
    ·intro a ha m hm hx
     rw [List.length_append,List.length_singleton] at ha
     by_cases e:a<l.length
     ·refine HFr.out a e m hm ?_
      rw [List.getD_eq_getElem?_getD,List.getElem?_append_left e,←List.getD_eq_getElem?_getD] at hx
      exact hx
     ·obtain rfl:a=l.length:=by omega
      rw [List.getD_eq_getElem?_getD,List.getElem?_append_right (Nat.le_refl _),Nat.sub_self] at hx
      exact Hq.out ⟨m,hm,hx.1,hx.2⟩
    ·rw [promSn_snoc Hw.out.names.dist name l hin]
     exact HN8.out.setTo hin Hz.out
   case measure=>
    have hm:(W.snaps i).prev<y:=by
     by_cases e:(W.snaps i).prev=0
     ·omega
     ·have:=(hp8 e).1; omega
    simp [intOf]; omega
end Go.Proofs.YtmgeglgboadfiaaGreatDoor
