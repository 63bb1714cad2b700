/- What spec.Rollback answers. -/
import Derived.Test.YtihdcanckbkgfaaGreatDoorG28
import Derived.Test.YtihdcanckbkgfaaGreatDoorG30
import Derived.Test.YtihdcanckbkgfaaGreatDoorG31
import Derived.Test.YtihdcanckbkgfaaGreatDoorG33
import Derived.Test.YtihdcanckbkgfaaGreatDoorG16
import Derived.Test.YtihdcanckbkgfaaGreatDoorG9
import Derived.Deep.DeepCutAuto
import Derived.Deep.RegionHeld3
import Derived.Test.YtihdcanckbkgfaaGreatDoorG12
import Derived.Test.YtihdcanckbkgfaaGreatDoorG11
import Derived.Test.YtihdcanckbkgfaaGreatDoorG24
import Derived.Test.YtihdcanckbkgfaaGreatDoorG3
namespace Go.Proofs.YtihdcanckbkgfaaGreatDoor
open Go.RowKit
set_option linter.unusedVariables false
set_option maxRecDepth 20000 in
set_option maxHeartbeats 2000000 in
theorem specRollback_any(v0 v1 v2 v3:Value)(lo hi:Nat)(W:WorldD)(name:ByteArray)(w:World)(h:WorldAt w lo hi v0 v1 v2 v3 W)(b1:poolN W.pool≤1048576)(b2:W.sn≤1048576)(b3:W.pn≤1048576)(b4:DeadsN W)(hname:name.size≤maxLen) :
  Calls Tryz.prog 15 #[worldV v0 v1 v2 v3 W,.string name] w (AnsRollback W name w):=by
 have Hp:=hideW h
 obtain⟨a0,c0,a1,c1,a2,c2,a3,c3,rfl,rfl,rfl,rfl⟩:=h.form
 have m1:=h.sets.1
 have m2:=h.snaps.1
 unfold maxLen at m1 m2
 clear h
 unfold maxLen at hname
 have ha0:=below_alloc w (.cells #[.slice a0 W.pool.n c0,.slice a1 W.pool.hn c1,.int .i64 W.time,.int .i64 W.next,.slice a2 W.sn c2,.slice a3 W.pn c3] 37)
 have ha1:=below_alloc (w.alloc (.cells #[.slice a0 W.pool.n c0,.slice a1 W.pool.hn c1,.int .i64 W.time,.int .i64 W.next,.slice a2 W.sn c2,.slice a3 W.pn c3] 37)) (.cells #[.slice none 0 0,.slice none 0 0,.int .i64 0,.int .i64 0,.slice none 0 0,.slice none 0 0,.int .i64 0,.int .i64 0,.int .i64 0] 39)
 have hb:=below_next ha0 ha1
 have HX:=hideW ((Box6.new w (.slice a0 W.pool.n c0) (.slice a1 W.pool.hn c1) (.int .i64 W.time) (.int .i64 W.next) (.slice a2 W.sn c2) (.slice a3 W.pn c3) 37).below ha1)
 have hr:=Box9.new (w.alloc (.cells #[.slice a0 W.pool.n c0,.slice a1 W.pool.hn c1,.int .i64 W.time,.int .i64 W.next,.slice a2 W.sn c2,.slice a3 W.pn c3] 37)) (.slice none 0 0) (.slice none 0 0) (.int .i64 0) (.int .i64 0) (.slice none 0 0) (.slice none 0 0) (.int .i64 0) (.int .i64 0) (.int .i64 0) 39
 rw [World.size_alloc] at hr
 have HR:=hideW hr
 have hz:((w.alloc (.cells #[.slice a0 W.pool.n c0,.slice a1 W.pool.hn c1,.int .i64 W.time,.int .i64 W.next,.slice a2 W.sn c2,.slice a3 W.pn c3] 37)).alloc (.cells #[.slice none 0 0,.slice none 0 0,.int .i64 0,.int .i64 0,.slice none 0 0,.slice none 0 0,.int .i64 0,.int .i64 0,.int .i64 0] 39)).heap.size≥w.heap.size+2:=by rw [World.size_alloc,World.size_alloc]; omega
 clear hr
 go_enter Tryz.func15,Tryz.ntmps15
 go_upto_region 1 with fail
 generalize (w.alloc (.cells #[.slice a0 W.pool.n c0,.slice a1 W.pool.hn c1,.int .i64 W.time,.int .i64 W.next,.slice a2 W.sn c2,.slice a3 W.pn c3] 37)).alloc (.cells #[.slice none 0 0,.slice none 0 0,.int .i64 0,.int .i64 0,.slice none 0 0,.slice none 0 0,.int .i64 0,.int .i64 0,.int .i64 0] 39)=W1 at hb HX HR hz ⊢
 clear ha0 ha1
 by_cases hl1:8000<name.size
 ·have a1:(8000:Int)<(name.size:Int):=by omega
  go_wp2_with fail
  refine(l05Ill_any 2 _).mono ?_
  rintro e wz ⟨rfl,hbz⟩
  have hbY:=below_next hb hbz
  have HRy:=hideW (HR.out.below hbz)
  obtain⟨⟨r0,g0⟩,⟨r1,g1⟩,⟨r2,g2⟩,⟨r3,g3⟩,⟨r4,g4⟩,⟨r5,g5⟩,⟨r6,g6⟩,⟨r7,g7⟩,⟨r8,g8⟩⟩:=HRy.out
  go_wp2_with fail
  have HRz:=HRy.out.put (.slice none 0 0) (.slice none 0 0) (.int .i64 0) (.int .i64 0) (.slice none 0 0) (.slice none 0 0) (.int .i64 0) (.int .i64 0) (.int .i64 2)
  have hT:=Turned.put9 wz (w.heap.size+1) (.slice none 0 0) (.slice none 0 0) (.int .i64 0) (.int .i64 0) (.slice none 0 0) (.slice none 0 0) (.int .i64 0) (.int .i64 0) (.int .i64 2)
  clear r0 g0 r1 g1 r2 g2 r3 g3 r4 g4 r5 g5 r6 g6 r7 g7 r8 g8
  refine bodyPost_ret (v:=.agg #[.slice none 0 0,.slice none 0 0,.int .i64 0,.int .i64 0,.slice none 0 0,.slice none 0 0,.int .i64 0,.int .i64 0,.int .i64 2]) (by simp [results,Tryz.results15,go_sem,HRz.1.1,HRz.2.1.1,HRz.2.2.1.1,HRz.2.2.2.1.1,HRz.2.2.2.2.1.1,HRz.2.2.2.2.2.1.1,HRz.2.2.2.2.2.2.1.1,HRz.2.2.2.2.2.2.2.1.1,HRz.2.2.2.2.2.2.2.2.1]) rfl (AnsRollback.ill (i:=1) (Or.inl ⟨long1.2 hl1,rfl⟩) ?_)
  exact⟨_,_,_,_,rfl,noW_own,hbY.trans (hT.below (B:=w.heap.size) hbY.size (fun k e=>by omega))⟩
 have e1:¬(8000:Int)<(name.size:Int):=by omega
 have HL:=hideW (show ¬(∃i,i<1∧8000<((fun (_:Nat)=>name) i).size)from fun h=>hl1 (long1.1 h))
 have Hnm:=hideW (show ¬(∃i,i<0∧¬NameP ((fun _=>⟨#[]⟩) i))from fun ⟨i,hi,_⟩=>absurd hi (Nat.not_lt_zero _))
 clear hl1
 obtain⟨⟨x0,-⟩,⟨x1,-⟩,⟨x2,-⟩,⟨x3,-⟩,⟨x4,-⟩,⟨x5,-⟩⟩:=HX.out
 go_wp2_with fail
 clear x0 x1 x2 x3 x4 x5 e1
 refine(specWorldRight_any _ _ _ _ lo hi W W1 (Hp.out.below hb)).mono ?_
 rintro e w2 ⟨⟨t,rfl,ht⟩,hb2⟩
 have hB2:=below_next hb hb2
 have HR2:=hideW (HR.out.below hb2)
 have HX2:=hideW (HX.out.below hb2)
 have hz2:=hb2.size
 clear hb2
 by_cases hw:SpecW W
 rotate_left
 ·obtain rfl:t=false:=bool_no ht hw
  have Hw:=hideW hw
  clear ht hw
  go_wp2_with fail
  refine(l05Ill_any 1 _).mono ?_
  rintro e wz ⟨rfl,hbz⟩
  have hbY:=below_next hB2 hbz
  have HRy:=hideW (HR2.out.below hbz)
  obtain⟨⟨r0,g0⟩,⟨r1,g1⟩,⟨r2,g2⟩,⟨r3,g3⟩,⟨r4,g4⟩,⟨r5,g5⟩,⟨r6,g6⟩,⟨r7,g7⟩,⟨r8,g8⟩⟩:=HRy.out
  go_wp2_with fail
  have HRz:=HRy.out.put (.slice none 0 0) (.slice none 0 0) (.int .i64 0) (.int .i64 0) (.slice none 0 0) (.slice none 0 0) (.int .i64 0) (.int .i64 0) (.int .i64 1)
  have hT:=Turned.put9 wz (w.heap.size+1) (.slice none 0 0) (.slice none 0 0) (.int .i64 0) (.int .i64 0) (.slice none 0 0) (.slice none 0 0) (.int .i64 0) (.int .i64 0) (.int .i64 1)
  clear r0 g0 r1 g1 r2 g2 r3 g3 r4 g4 r5 g5 r6 g6 r7 g7 r8 g8
  refine bodyPost_ret (v:=.agg #[.slice none 0 0,.slice none 0 0,.int .i64 0,.int .i64 0,.slice none 0 0,.slice none 0 0,.int .i64 0,.int .i64 0,.int .i64 1]) (by simp [results,Tryz.results15,go_sem,HRz.1.1,HRz.2.1.1,HRz.2.2.1.1,HRz.2.2.2.1.1,HRz.2.2.2.2.1.1,HRz.2.2.2.2.2.1.1,HRz.2.2.2.2.2.2.1.1,HRz.2.2.2.2.2.2.2.1.1,HRz.2.2.2.2.2.2.2.2.1]) rfl (AnsRollback.ill (i:=0) (Or.inr (Or.inl ⟨HL.out,Or.inl (fun h=>Hw.out ((world_iff W).1 h)),rfl⟩)) ?_)
  exact⟨_,_,_,_,rfl,noW_own,hbY.trans (hT.below (B:=w.heap.size) hbY.size (fun k e=>by omega))⟩
 obtain rfl:t=true:=ht.2 hw
 have HSW:=hideW hw
 have Hw:=hideW ((world_iff W).2 hw)
 clear ht hw
 obtain⟨⟨x0,-⟩,⟨x1,-⟩,⟨x2,-⟩,⟨x3,-⟩,⟨x4,-⟩,⟨x5,-⟩⟩:=HX2.out
 go_wp2_with fail
 clear x0 x1 x2 x3 x4 x5
 refine(l04Set_any _ _ _ _ lo hi W name _ (Hp.out.below hB2)).mono ?_
 rintro e w3 ⟨r,rfl,hF,hb3⟩
 have hB3:=below_next hB2 hb3
 have HR3:=hideW (HR2.out.below hb3)
 have HX3:=hideW (HX2.out.below hb3)
 have hz3:=hb3.size
 clear hb3
 rcases hF with⟨k,hk,hPk,hnok,rfl⟩ | ⟨hno,rfl⟩
 rotate_left
 ·have Hno:=hideW hno
  clear hno
  go_wp2_with fail
  refine(l05Ill_any 4 _).mono ?_
  rintro e wz ⟨rfl,hbz⟩
  have hbY:=below_next hB3 hbz
  have HRy:=hideW (HR3.out.below hbz)
  obtain⟨⟨r0,g0⟩,⟨r1,g1⟩,⟨r2,g2⟩,⟨r3,g3⟩,⟨r4,g4⟩,⟨r5,g5⟩,⟨r6,g6⟩,⟨r7,g7⟩,⟨r8,g8⟩⟩:=HRy.out
  go_wp2_with fail
  have HRz:=HRy.out.put (.slice none 0 0) (.slice none 0 0) (.int .i64 0) (.int .i64 0) (.slice none 0 0) (.slice none 0 0) (.int .i64 0) (.int .i64 0) (.int .i64 4)
  have hT:=Turned.put9 wz (w.heap.size+1) (.slice none 0 0) (.slice none 0 0) (.int .i64 0) (.int .i64 0) (.slice none 0 0) (.slice none 0 0) (.int .i64 0) (.int .i64 0) (.int .i64 4)
  clear r0 g0 r1 g1 r2 g2 r3 g3 r4 g4 r5 g5 r6 g6 r7 g7 r8 g8
  refine bodyPost_ret (v:=.agg #[.slice none 0 0,.slice none 0 0,.int .i64 0,.int .i64 0,.slice none 0 0,.slice none 0 0,.int .i64 0,.int .i64 0,.int .i64 4]) (by simp [results,Tryz.results15,go_sem,HRz.1.1,HRz.2.1.1,HRz.2.2.1.1,HRz.2.2.2.1.1,HRz.2.2.2.2.1.1,HRz.2.2.2.2.2.1.1,HRz.2.2.2.2.2.2.1.1,HRz.2.2.2.2.2.2.2.1.1,HRz.2.2.2.2.2.2.2.2.1]) rfl (AnsRollback.ill (i:=2) (Or.inr (Or.inr (Or.inl ⟨HL.out,Hw.out,Hnm.out,0,by omega,fun ⟨j,hj,h⟩=>Hno.out j hj h,fun j hj=>absurd hj (Nat.not_lt_zero _),rfl⟩))) ?_)
  exact⟨_,_,_,_,rfl,noW_own,hbY.trans (hT.below (B:=w.heap.size) hbY.size (fun k e=>by omega))⟩
 have HN:=hideW (show SetNo W name k from⟨hk,hPk,hnok⟩)
 clear hPk hnok
 have k0:¬(k:Int)<0:=by omega
 have hk':(k:Int)<(W.sn:Int):=by omega
 have HSA:=hideW (setAt_at HN.out)
 have HQ0:=hideW (show ∀j,j<1→(fun i=>match i with | 0=>HasSet W name | _=>(aheadOf W (setAt W name).prev).set=name) j from fun j hj=>by
  obtain rfl:j=0:=by omega
  exact⟨k,HN.out.1,HN.out.2.1⟩)
 obtain⟨ab,ao,avd,rfl,hsk⟩:=Hp.out.sets.cells hk
 have HSK:=hideW hsk
 have hsk3:=hsk.below hB3
 obtain⟨⟨x0,-⟩,⟨x1,-⟩,⟨x2,-⟩,⟨x3,-⟩,⟨x4,-⟩,⟨x5,-⟩⟩:=HX3.out
 have q2:=hsk3.c2
 clear hsk hsk3
 go_upto_region 8 with fail
 go_region_held3 (fun w'=>w'.cell? ⟨w.heap.size,0,none⟩=some (.slice a0 W.pool.n c0)∧w'.cell? ⟨w.heap.size,1,none⟩=some (.slice a1 W.pool.hn c1)∧w'.cell? ⟨w.heap.size,2,none⟩=some (.int .i64 W.time)∧w'.cell? ⟨w.heap.size,3,none⟩=some (.int .i64 W.next)∧w'.cell? ⟨w.heap.size,4,none⟩=some (.slice (some ⟨ab,ao,none⟩) W.sn c2)∧w'.cell? ⟨w.heap.size,5,none⟩=some (.slice a3 W.pn c3)∧w'.cell? ⟨ab,ao+k*6+2,none⟩=some (.int .i64 (W.sets k).prev)) (go_keep)
  (first | (go_at_call 46; refine(l04Snap_any _ _ _ _ lo hi W (W.sets k).prev _ ((Hp.out.below hB3).below (Below.refl _ _).drew)).mono ?_; rintro e w4 ⟨r,rfl,hF,hb4⟩; have hb4':=below_undrew hb4; obtain⟨⟨y0,-⟩,⟨y1,-⟩,⟨y2,-⟩,⟨y3,-⟩,⟨y4,-⟩,⟨y5,-⟩⟩:=HX3.out.below hb4'; have q2b:=(hb4'.cell (lt_of_cell q2)).trans q2))
 have hB4:=below_next hB3 hb4'
 have HR4:=hideW (HR3.out.below hb4')
 have HX4:=hideW (HX3.out.below hb4')
 have hz4:=hb4'.size
 clear hb4 x0 x1 x2 x3 x4 x5 y0 y1 y2 y3 y4 y5 q2 q2b
 rcases hF with⟨j,hj,hPj,hnoj,rfl⟩ | ⟨hno,rfl⟩
 rotate_left
 ·have Hno:=hideW (show ¬(aheadOf W (setAt W name).prev).set=name from fun h=>by
   have e:aheadOf W (setAt W name).prev=zeroSnap:=by
    unfold aheadOf
    rw [dif_neg]
    rintro⟨j,hj⟩
    rw [HSA.out] at hj
    exact hno j hj.1 hj.2.1
   rw [e] at h
   have h1:=((HSW.out.names.2.2.2.2.1 k hk).1).1
   rw [HN.out.2.1,←h] at h1
   exact absurd h1 (by decide))
  clear hno
  go_wp2_with fail
  refine(l05Ill_any 4 _).mono ?_
  rintro e wz ⟨rfl,hbz⟩
  have hbY:=below_next hB4 hbz
  have HRy:=hideW (HR4.out.below hbz)
  obtain⟨⟨r0,g0⟩,⟨r1,g1⟩,⟨r2,g2⟩,⟨r3,g3⟩,⟨r4,g4⟩,⟨r5,g5⟩,⟨r6,g6⟩,⟨r7,g7⟩,⟨r8,g8⟩⟩:=HRy.out
  go_wp2_with fail
  have HRz:=HRy.out.put (.slice none 0 0) (.slice none 0 0) (.int .i64 0) (.int .i64 0) (.slice none 0 0) (.slice none 0 0) (.int .i64 0) (.int .i64 0) (.int .i64 4)
  have hT:=Turned.put9 wz (w.heap.size+1) (.slice none 0 0) (.slice none 0 0) (.int .i64 0) (.int .i64 0) (.slice none 0 0) (.slice none 0 0) (.int .i64 0) (.int .i64 0) (.int .i64 4)
  clear r0 g0 r1 g1 r2 g2 r3 g3 r4 g4 r5 g5 r6 g6 r7 g7 r8 g8
  refine bodyPost_ret (v:=.agg #[.slice none 0 0,.slice none 0 0,.int .i64 0,.int .i64 0,.slice none 0 0,.slice none 0 0,.int .i64 0,.int .i64 0,.int .i64 4]) (by simp [results,Tryz.results15,go_sem,HRz.1.1,HRz.2.1.1,HRz.2.2.1.1,HRz.2.2.2.1.1,HRz.2.2.2.2.1.1,HRz.2.2.2.2.2.1.1,HRz.2.2.2.2.2.2.1.1,HRz.2.2.2.2.2.2.2.1.1,HRz.2.2.2.2.2.2.2.2.1]) rfl (AnsRollback.ill (i:=2) (Or.inr (Or.inr (Or.inl ⟨HL.out,Hw.out,Hnm.out,1,by omega,Hno.out,HQ0.out,rfl⟩))) ?_)
  exact⟨_,_,_,_,rfl,noW_own,hbY.trans (hT.below (B:=w.heap.size) hbY.size (fun k e=>by omega))⟩
 have HNJ:=hideW (show SnapNo W (W.sets k).prev j from⟨hj,hPj,hnoj⟩)
 have HAJ:=hideW (show aheadOf W (setAt W name).prev=W.snaps j by rw [HSA.out]; exact aheadOf_at HNJ.out)
 clear hPj hnoj
 have j0:¬(j:Int)<0:=by omega
 have hj':(j:Int)<(W.pn:Int):=by omega
 obtain⟨zb,zo,zvd,rfl,hsj⟩:=Hp.out.snaps.cells hj
 have HSJ:=hideW hsj
 obtain⟨-,-,-,-,⟨x4,-⟩,⟨x5,-⟩⟩:=HX4.out
 have p2:=(hsj.below hB4).c2
 by_cases hq:(W.snaps j).set=name
 rotate_left
 ·have Hno:=hideW (show ¬(aheadOf W (setAt W name).prev).set=name by rw [HAJ.out]; exact hq)
  have e0:((W.snaps j).set.toList != name.toList)=true:=by
   have:=str_ne hq
   simp [bne,this]
  have e0':((W.snaps j).set.toList == name.toList)=false:=str_ne hq
  clear hq hsj
  go_wp2_with fail
  refine(l05Ill_any 4 _).mono ?_
  rintro e wz ⟨rfl,hbz⟩
  have hbY:=below_next hB4 hbz
  have HRy:=hideW (HR4.out.below hbz)
  obtain⟨⟨r0,g0⟩,⟨r1,g1⟩,⟨r2,g2⟩,⟨r3,g3⟩,⟨r4,g4⟩,⟨r5,g5⟩,⟨r6,g6⟩,⟨r7,g7⟩,⟨r8,g8⟩⟩:=HRy.out
  go_wp2_with fail
  have HRz:=HRy.out.put (.slice none 0 0) (.slice none 0 0) (.int .i64 0) (.int .i64 0) (.slice none 0 0) (.slice none 0 0) (.int .i64 0) (.int .i64 0) (.int .i64 4)
  have hT:=Turned.put9 wz (w.heap.size+1) (.slice none 0 0) (.slice none 0 0) (.int .i64 0) (.int .i64 0) (.slice none 0 0) (.slice none 0 0) (.int .i64 0) (.int .i64 0) (.int .i64 4)
  clear r0 g0 r1 g1 r2 g2 r3 g3 r4 g4 r5 g5 r6 g6 r7 g7 r8 g8
  refine bodyPost_ret (v:=.agg #[.slice none 0 0,.slice none 0 0,.int .i64 0,.int .i64 0,.slice none 0 0,.slice none 0 0,.int .i64 0,.int .i64 0,.int .i64 4]) (by simp [results,Tryz.results15,go_sem,HRz.1.1,HRz.2.1.1,HRz.2.2.1.1,HRz.2.2.2.1.1,HRz.2.2.2.2.1.1,HRz.2.2.2.2.2.1.1,HRz.2.2.2.2.2.2.1.1,HRz.2.2.2.2.2.2.2.1.1,HRz.2.2.2.2.2.2.2.2.1]) rfl (AnsRollback.ill (i:=2) (Or.inr (Or.inr (Or.inl ⟨HL.out,Hw.out,Hnm.out,1,by omega,Hno.out,HQ0.out,rfl⟩))) ?_)
  exact⟨_,_,_,_,rfl,noW_own,hbY.trans (hT.below (B:=w.heap.size) hbY.size (fun k e=>by omega))⟩
 have HQ1:=hideW (show ∀i,i<2→(fun i=>match i with | 0=>HasSet W name | _=>(aheadOf W (setAt W name).prev).set=name) i from fun i hi=>by
  rcases(by omega:i=0∨i=1)with rfl | rfl
  ·exact HQ0.out 0 (by omega)
  ·show(aheadOf W (setAt W name).prev).set=name
   rw [HAJ.out]; exact hq)
 have e0:((W.snaps j).set.toList != name.toList)=false:=by
  have:=str_eq hq
  simp [bne,this]
 have e0':((W.snaps j).set.toList == name.toList)=true:=str_eq hq
 obtain⟨⟨x0,-⟩,⟨x1,-⟩,⟨x2,-⟩,⟨x3,-⟩,⟨x4,-⟩,⟨x5,-⟩⟩:=HX4.out
 clear hq hsj
 go_wp2_with fail
 clear x0 x1 x2 x3 x4 x5 p2 e0 e0'
 refine(l04CopyR_any _ _ _ _ lo hi W _ (Hp.out.below hB4) b1 b2 b3 b4).mono ?_
 rintro e w5 ⟨z0,z1,z2,z3,rfl,ho,hb5⟩
 obtain⟨P,Q,R,hinR,hltS⟩:=ho
 have hin:=hinR.isIn
 obtain⟨sb,kb,kv,hS,hSa,hSq⟩:=hin.sets
 obtain⟨so,lc2,rfl,hs5⟩:=hS.nth hk
 obtain⟨l0,lc0,l1,lc1,l2,lc2',l3,lc3,rfl,rfl,e2,rfl⟩:=WorldOwn.form (lo:=w4.heap.size) (hi:=w5.heap.size) ⟨P,Q,R,hin,hltS⟩
 clear e2
 have hB5:=below_next hB4 hb5
 have hz5:=hb5.size
 have ha6:=below_alloc w5 (.cells #[.slice l0 W.pool.n lc0,.slice l1 W.pool.hn lc1,.int .i64 W.time,.int .i64 W.next,.slice (some ⟨sb,so,none⟩) W.sn lc2,.slice l3 W.pn lc3] 37)
 have hz6:(w5.alloc (.cells #[.slice l0 W.pool.n lc0,.slice l1 W.pool.hn lc1,.int .i64 W.time,.int .i64 W.next,.slice (some ⟨sb,so,none⟩) W.sn lc2,.slice l3 W.pn lc3] 37)).heap.size=w5.heap.size+1:=World.size_alloc _ _
 have HV6:=hideW (Box6.new w5 (.slice l0 W.pool.n lc0) (.slice l1 W.pool.hn lc1) (.int .i64 W.time) (.int .i64 W.next) (.slice (some ⟨sb,so,none⟩) W.sn lc2) (.slice l3 W.pn lc3) 37)
 have HIN:=hideW hin
 have HLT:=hideW hltS
 have HSO:=hideW hS
 have HSAp:=hideW hSa
 have HSQ:=hideW hSq
 have HS5:=hideW hs5
 have hQb:Q sb:=hSq _ (Or.inl ⟨by omega,rfl⟩)
 have hsbl:=hltS sb (Or.inr (Or.inl hQb))
 have HQB:=hideW hQb
 have HX6:=hideW ((HX4.out.below hb5).below ha6)
 have HR6:=hideW ((HR4.out.below hb5).below ha6)
 have hB6:=below_next hB5 ha6
 clear hinR hin hltS hS hSa hSq hs5 hQb
 go_upto_region 12 with fail
 generalize w5.alloc (.cells #[.slice l0 W.pool.n lc0,.slice l1 W.pool.hn lc1,.int .i64 W.time,.int .i64 W.next,.slice (some ⟨sb,so,none⟩) W.sn lc2,.slice l3 W.pn lc3] 37)=w6 at ha6 hz6 HV6 HX6 HR6 hB6 ⊢
 obtain⟨⟨x0,-⟩,⟨x1,-⟩,-,-,⟨x4,-⟩,⟨x5,-⟩⟩:=HX6.out
 have q3:=(HSK.out.below hB6).c3
 have q4:=(HSK.out.below hB6).c4
 have p4:=(HSJ.out.below hB6).c4
 have HT:=hideW (HSW.out.sets k hk).1
 have hlen:=treeL_len W.pool (W.sets k).rs (W.sets k).rb
 obtain⟨T,hT⟩:∃T,T=treeL W.pool (W.sets k).rs (W.sets k).rb:=⟨_,rfl⟩
 rw [←hT] at hlen
 have HTT:=hideW hT
 clear hT
 go_region_held3 (fun w'=>w'.cell? ⟨w.heap.size,0,none⟩=some (.slice a0 W.pool.n c0)∧w'.cell? ⟨w.heap.size,1,none⟩=some (.slice a1 W.pool.hn c1)∧w'.cell? ⟨w.heap.size,4,none⟩=some (.slice (some ⟨ab,ao,none⟩) W.sn c2)∧w'.cell? ⟨w.heap.size,5,none⟩=some (.slice (some ⟨zb,zo,none⟩) W.pn c3)∧w'.cell? ⟨ab,ao+k*6+3,none⟩=some (.int .i64 (W.sets k).rs)∧w'.cell? ⟨ab,ao+k*6+4,none⟩=some (.int .i64 (W.sets k).rb)∧w'.cell? ⟨zb,zo+j*8+4,none⟩=some (.int .i64 (W.snaps j).time)) (go_keep)
  (first
   | (go_at_call 29; refine(l02Ptrs_any _ _ lo hi W.pool (W.sets k).rs (W.sets k).rb _ ((Hp.out.pool.below hB6).below (Below.refl _ _).drew) HSW.out.right HT.out).mono ?_; rw [←HTT.out]; rintro e w7 ⟨v7,rfl,hr7,hb7⟩; obtain⟨t7,tc7,rfl,-⟩:=owns_form hr7; have hb7':=below_undrew hb7; obtain⟨⟨y0,-⟩,⟨y1,-⟩,-,-,⟨y4,-⟩,⟨y5,-⟩⟩:=HX6.out.below hb7'; have q3b:=(hb7'.cell (lt_of_cell q3)).trans q3; have q4b:=(hb7'.cell (lt_of_cell q4)).trans q4; have p4b:=(hb7'.cell (lt_of_cell p4)).trans p4; have HR7:=hideW hr7; clear hr7)
   | (go_at_call 28; refine(l03Split_any _ T.length 0 w7.heap.size (fstL T) (sndL T) (W.snaps j).time _ (by obtain⟨bb,ho,hbb⟩:=RowL.own HR7.out (by unfold maxLen; omega); exact ho.at (fun h0=>⟨Nat.zero_le _,(hbb h0).2.2⟩)) (by omega)).mono ?_; rintro e w8 ⟨vy,vo,rfl,hr8,ho8,-,hb8⟩; obtain⟨t8,tc8,rfl,-⟩:=owns_form hr8; obtain⟨s8,sc8,rfl,-⟩:=owns_form ho8; have hb8':=below_next hb7' hb8; obtain⟨⟨k0',-⟩,⟨k1,-⟩,-,-,⟨k4,-⟩,⟨k5,-⟩⟩:=HX6.out.below hb8'; have q3c:=(hb8'.cell (lt_of_cell q3)).trans q3; have q4c:=(hb8'.cell (lt_of_cell q4)).trans q4; have p4c:=(hb8'.cell (lt_of_cell p4)).trans p4; have HR8:=hideW hr8; clear hr8 ho8))
 have hB8:=below_next hB6 hb8'
 have hz8:=hb8'.size
 have hz7:=hb7'.size
 obtain⟨L,hL⟩:∃L,L=shedL W (W.sets k):=⟨_,rfl⟩
 have eL:youngL (fstL T) (sndL T) (W.snaps j).time T.length=L:=by
  rw [hL]
  unfold shedL
  rw [←HTT.out,←HSA.out,HAJ.out]
 rw [eL] at HR8
 have hLl:L.length≤73:=by
  have:=young_len (fstL T) (sndL T) (W.snaps j).time T.length
  rw [eL] at this
  omega
 have HLL:=hideW hL
 have HHo:=hideW (show HoldOk W.pool L by rw [hL]; exact shed_ok HSW.out.right HT.out)
 simp only [eL]
 clear hL eL x0 x1 x4 x5 y0 y1 y4 y5 k0' k1 k4 k5 q3 q4 p4 q3b q4b p4b q3c q4c p4c hb7 hb8
 go_wp2_with fail
 have hpn:W.pool.hn≤400:=by
  have h1:=((right_iff W.pool).2 HSW.out.right).2.1
  have h2:=HSW.out.right.1
  omega
 refine(l05Hold_any w5.heap.size w6.heap.size w8.heap.size P _ _ _ _ _ W.time W.next W.pool L w8 (HV6.out.below hb8') ((HIN.out.pool.below ha6).below hb8') (fun j hj=>(HLT.out j (Or.inl hj)).2) (by obtain⟨bb,ho,hbb⟩:=RowL.own HR8.out (by unfold maxLen; omega); exact ho.at (fun h0=>⟨by have:=(hbb h0).2.1; omega,(hbb h0).2.2⟩)) (by omega) (Nat.le_refl _) (by omega) hpn).mono ?_
 rintro e w9 ⟨rfl,y1,hV9,hP9,hT9⟩
 have hLL:=HLL.out
 subst hLL
 obtain⟨b9,yc1,rfl⟩:∃a c,y1 = .slice a (holdAll W.pool (shedL W (W.sets k))).hn c:=by
  obtain⟨_,_,_,_,_,_,⟨_,a,c,e,_⟩,_⟩:=hP9
  exact⟨a,c,e⟩
 have hz9:=hT9.size
 have hPV:∀j,j<w8.heap.size→¬(j=w5.heap.size∨P j∨w8.heap.size≤j)→j≠w5.heap.size:=fun j _ h e=>h (Or.inl e)
 have hold9:∀j,j<w4.heap.size→¬(j=w5.heap.size∨P j∨w8.heap.size≤j):=fun j hj h=>by
  rcases h with h | h | h
  ·omega
  ·have:=HLT.out j (Or.inl h); omega
  ·omega
 have HX9:=hideW ((HX6.out.below hb8').turned hT9 (hold9 _ (by omega)))
 have HR9:=hideW ((HR6.out.below hb8').turned hT9 (hold9 _ (by omega)))
 have hQ9:∀j,Q j→¬(j=w5.heap.size∨P j∨w8.heap.size≤j):=fun j hj h=>by
  have:=HLT.out j (Or.inr (Or.inl hj))
  rcases h with h | h | h
  ·omega
  ·exact HIN.out.pq j h hj
  ·omega
 have hR9:∀j,R j→¬(j=w5.heap.size∨P j∨w8.heap.size≤j):=fun j hj h=>by
  have:=HLT.out j (Or.inr (Or.inr hj))
  rcases h with h | h | h
  ·omega
  ·exact HIN.out.pr j h hj
  ·omega
 have hS9:=((HSO.out.below ha6).below hb8').turned hT9 (fun j hj=>hQ9 j (HSQ.out j hj))
 have hs9:=((HS5.out.below ha6).below hb8').turned hT9 (hQ9 _ HQB.out) (fun h0=>hQ9 _ (HSQ.out _ (Or.inr ⟨k,hk,h0,rfl⟩)))
 have hZ9:=(((HIN.out.snaps.turned (Turned.of_below (S:=fun _=>False) ha6) (fun _ _ h=>h)).turned (Turned.of_below (S:=fun _=>False) hb8') (fun _ _ h=>h))).turned hT9 (fun j hj=>hR9 j hj)
 have hzb:zb<w.heap.size:=lt_of_cell HSJ.out.c5
 have hsj9:∀o u,w.cell? ⟨zb,o,none⟩=some u→w9.cell? ⟨zb,o,none⟩=some u:=fun o u h=>(hT9.cell (by omega) (hold9 zb (by omega))).trans ((hB8.cell (p:=⟨zb,o,none⟩) hzb).trans h)
 have p5:=hsj9 _ _ HSJ.out.c5
 have p6:=hsj9 _ _ HSJ.out.c6
 have HV9:=hideW hV9
 have HP9:=hideW hP9
 have HS9:=hideW hs9
 have HSO9:=hideW hS9
 have HZ9:=hideW hZ9
 have HT9:=hideW hT9
 obtain⟨-,-,-,-,⟨v4,-⟩,-⟩:=hV9
 clear hP9 hS9 hZ9
 obtain⟨-,-,-,-,-,⟨x5,-⟩⟩:=HX9.out
 obtain⟨t3,t3'⟩:=hs9.c3
 obtain⟨t4,t4'⟩:=hs9.c4
 obtain⟨t5,t5'⟩:=hs9.c5
 have n1:sb≠w5.heap.size:=by omega
 have n2:w5.heap.size≠sb:=by omega
 have n3:sb≠w.heap.size:=by omega
 have n4:w.heap.size≠sb:=by omega
 have n5:sb≠zb:=by omega
 have n6:zb≠sb:=by omega
 go_upto_region 14 with fail
 go_region_held3 (fun w'=>w'.cell? ⟨w5.heap.size,4,none⟩=some (.slice (some ⟨sb,so,none⟩) W.sn lc2)∧w'.cell? ⟨w.heap.size,5,none⟩=some (.slice (some ⟨zb,zo,none⟩) W.pn c3)∧w'.cell? ⟨zb,zo+j*8+5,none⟩=some (.int .i64 (W.snaps j).rs)∧w'.cell? ⟨zb,zo+j*8+6,none⟩=some (.int .i64 (W.snaps j).rb)) (go_keep) (fail)
 go_upto_region 16 with fail
 have hT10:Turned (fun i=>i=sb) w9 (((w9.setCell ⟨sb,so+k*6+3,none⟩ (.int .i64 (W.snaps j).rs)).setCell ⟨sb,so+k*6+3+1,none⟩ (.int .i64 (W.snaps j).rb)).setCell ⟨sb,so+k*6+5,none⟩ (.slice none 0 0)).drew:=(((Turned.put _ sb _ _).trans (Turned.put _ sb _ _)).trans (Turned.put _ sb _ _)).trans (Turned.of_below ((Below.refl _ _).drew))
 have HVz:=hideW (HV9.out.turned hT10 (fun h=>n2 h))
 have HRy:=hideW (HR9.out.turned hT10 (fun h=>by omega))
 have hzz:=hT10.size
 have hbY:Below w.heap.size w (((w9.setCell ⟨sb,so+k*6+3,none⟩ (.int .i64 (W.snaps j).rs)).setCell ⟨sb,so+k*6+3+1,none⟩ (.int .i64 (W.snaps j).rb)).setCell ⟨sb,so+k*6+5,none⟩ (.slice none 0 0)).drew:=(hB8.trans (HT9.out.below (B:=w.heap.size) (by omega) (fun i h=>by
  rcases h with h | h | h
  ·omega
  ·have:=HLT.out i (Or.inl h); omega
  ·omega))).trans (hT10.below (B:=w.heap.size) (by omega) (fun i h=>by omega))
 have HOz:=hideW (show WorldOwn (((w9.setCell ⟨sb,so+k*6+3,none⟩ (.int .i64 (W.snaps j).rs)).setCell ⟨sb,so+k*6+3+1,none⟩ (.int .i64 (W.snaps j).rb)).setCell ⟨sb,so+k*6+5,none⟩ (.slice none 0 0)).drew w4.heap.size ((((w9.setCell ⟨sb,so+k*6+3,none⟩ (.int .i64 (W.snaps j).rs)).setCell ⟨sb,so+k*6+3+1,none⟩ (.int .i64 (W.snaps j).rb)).setCell ⟨sb,so+k*6+5,none⟩ (.slice none 0 0)).drew).heap.size (.slice l0 W.pool.n lc0) (.slice b9 (holdAll W.pool (shedL W (W.sets k))).hn yc1) (.slice (some ⟨sb,so,none⟩) W.sn lc2) (.slice l3 W.pn lc3) (rollW W k)from by
  refine⟨(fun i=>P i∨(w8.heap.size≤i∧i<w9.heap.size)),Q,R,⟨HP9.out.turned hT10 (fun i hi e=>?_),?_,HZ9.out.turned hT10 (fun i hi e=>HIN.out.qr sb HQB.out (by rw [←e]; exact hi)),fun i hi hq=>?_,fun i hi hq=>?_,HIN.out.qr⟩,fun i hi=>?_⟩
  ·rcases hi with h | h
   ·exact HIN.out.pq i h (by rw [e]; exact HQB.out)
   ·omega
  ·refine sets_edit0 (s':=rollS W (W.sets k)) HSO9.out HSAp.out HSQ.out hk rfl HS9.out.small hT10 (fun i hi hne r hr u hc=>((hc.other _ (Or.inr (by omega))).other _ (Or.inr (by omega))).other _ (Or.inr (by omega))) (fun r hr=>?_)
   have hs:=HS9.out
   unfold rollS
   rw [aheadOf_at HNJ.out]
   rcases(by omega:r=0∨r=1∨r=2∨r=3∨r=4∨r=5)with rfl | rfl | rfl | rfl | rfl | rfl
   ·exact((hs.c0.other _ (Or.inr (by omega))).other _ (Or.inr (by omega))).other _ (Or.inr (by omega))
   ·exact((hs.c1.other _ (Or.inr (by omega))).other _ (Or.inr (by omega))).other _ (Or.inr (by omega))
   ·exact((hs.c2.other _ (Or.inr (by omega))).other _ (Or.inr (by omega))).other _ (Or.inr (by omega))
   ·exact((hs.c3.set _).other _ (Or.inr (by omega))).other _ (Or.inr (by omega))
   ·exact((hs.c4.other _ (Or.inr (by omega))).set _).other _ (Or.inr (by omega))
   ·exact((hs.c5.other _ (Or.inr (by omega))).other _ (Or.inr (by omega))).set _
  ·have:=HLT.out i (Or.inr (Or.inl hq))
   rcases hi with h | h
   ·exact HIN.out.pq i h hq
   ·omega
  ·have:=HLT.out i (Or.inr (Or.inr hq))
   rcases hi with h | h
   ·exact HIN.out.pr i h hq
   ·omega
  ·rcases hi with(h | h) | h | h
   ·have:=HLT.out i (Or.inl h); omega
   ·omega
   ·have:=HLT.out i (Or.inr (Or.inl h)); omega
   ·have:=HLT.out i (Or.inr (Or.inr h)); omega)
 clear v4 x5 p5 p6 t3 t3' t4 t4' t5 t5' hT10 hs9 hT9
 generalize (((w9.setCell ⟨sb,so+k*6+3,none⟩ (.int .i64 (W.snaps j).rs)).setCell ⟨sb,so+k*6+3+1,none⟩ (.int .i64 (W.snaps j).rb)).setCell ⟨sb,so+k*6+5,none⟩ (.slice none 0 0)).drew=wz at HVz HRy hzz hbY HOz ⊢
 obtain⟨⟨v0,-⟩,⟨v1,-⟩,⟨v2,-⟩,⟨v3,-⟩,⟨v4,-⟩,⟨v5,-⟩⟩:=HVz.out
 obtain⟨⟨r0,g0⟩,⟨r1,g1⟩,⟨r2,g2⟩,⟨r3,g3⟩,⟨r4,g4⟩,⟨r5,g5⟩,⟨r6,g6⟩,⟨r7,g7⟩,⟨r8,g8⟩⟩:=HRy.out
 go_wp2_with fail
 have HRz:=HRy.out.put (.slice l0 W.pool.n lc0) (.slice b9 (holdAll W.pool (shedL W (W.sets k))).hn yc1) (.int .i64 W.time) (.int .i64 W.next) (.slice (some ⟨sb,so,none⟩) W.sn lc2) (.slice l3 W.pn lc3) (.int .i64 0) (.int .i64 ((shedL W (W.sets k)).length:Int)) (.int .i64 0)
 have hT:=Turned.put9 wz (w.heap.size+1) (.slice l0 W.pool.n lc0) (.slice b9 (holdAll W.pool (shedL W (W.sets k))).hn yc1) (.int .i64 W.time) (.int .i64 W.next) (.slice (some ⟨sb,so,none⟩) W.sn lc2) (.slice l3 W.pn lc3) (.int .i64 0) (.int .i64 ((shedL W (W.sets k)).length:Int)) (.int .i64 0)
 clear r0 g0 r1 g1 r2 g2 r3 g3 r4 g4 r5 g5 r6 g6 r7 g7 r8 g8
 refine bodyPost_ret (v:=.agg #[.slice l0 W.pool.n lc0,.slice b9 (holdAll W.pool (shedL W (W.sets k))).hn yc1,.int .i64 W.time,.int .i64 W.next,.slice (some ⟨sb,so,none⟩) W.sn lc2,.slice l3 W.pn lc3,.int .i64 0,.int .i64 ((shedL W (W.sets k)).length:Int),.int .i64 0]) (by simp [results,Tryz.results15,go_sem,HRz.1.1,HRz.2.1.1,HRz.2.2.1.1,HRz.2.2.2.1.1,HRz.2.2.2.2.1.1,HRz.2.2.2.2.2.1.1,HRz.2.2.2.2.2.2.1.1,HRz.2.2.2.2.2.2.2.1.1,HRz.2.2.2.2.2.2.2.2.1]) rfl ⟨none,⟨rollW W k,0,((shedL W (W.sets k)).length:Int),0⟩,Or.inr (Or.inr (Or.inr ⟨HL.out,Hw.out,Hnm.out,HQ1.out,rfl⟩)),fun _=>⟨k,HN.out,rfl⟩,?_⟩
 show NewWOut ⟨rollW W k,0,((shedL W (W.sets k)).length:Int),0⟩ w _ _
 exact⟨_,_,_,_,rfl,(HOz.out.turned hT (fun i e=>by omega)).wide (by omega) hT.size,hbY.trans (hT.below (B:=w.heap.size) hbY.size (fun i e=>by omega))⟩
end Go.Proofs.YtihdcanckbkgfaaGreatDoor

namespace Go.Proofs.YtihdcanckbkgfaaGreatDoor
open Go.RowKit Go.Maps
set_option linter.unusedVariables false
set_option maxRecDepth 20000 in
set_option maxHeartbeats 400000 in
theorem eqSet_same(v u:Value)(lo hi lo' hi':Nat)(s:SetD)(w:World)(h1:PtrsAt w lo hi v s.dn s.ds s.db)(h2:PtrsAt w lo' hi' u s.dn s.ds s.db) :
  Calls Tryz.prog 89 #[setV v s,setV u s] w fun e w'=>e = .returned (.bool true)∧Below w.heap.size w w':=by
 unfold setV
 have H1:=hideW h1
 have H2:=hideW h2
 obtain⟨-,a1,c1,rfl,-⟩:=id h1
 obtain⟨-,a2,c2,rfl,-⟩:=id h2
 clear h1 h2
 have ha:=below_alloc w (.cells #[.string s.name,.int .i64 s.origin,.int .i64 s.prev,.int .i64 s.rs,.int .i64 s.rb,.slice a1 s.dn c1] 61)
 have ha2:=below_alloc (w.alloc (.cells #[.string s.name,.int .i64 s.origin,.int .i64 s.prev,.int .i64 s.rs,.int .i64 s.rb,.slice a1 s.dn c1] 61)) (.cells #[.string s.name,.int .i64 s.origin,.int .i64 s.prev,.int .i64 s.rs,.int .i64 s.rb,.slice a2 s.dn c2] 61)
 have hA:=below_next ha ha2
 have HX:=hideW ((Box6.new w (.string s.name) (.int .i64 s.origin) (.int .i64 s.prev) (.int .i64 s.rs) (.int .i64 s.rb) (.slice a1 s.dn c1) 61).below ha2)
 have hy:=Box6.new (w.alloc (.cells #[.string s.name,.int .i64 s.origin,.int .i64 s.prev,.int .i64 s.rs,.int .i64 s.rb,.slice a1 s.dn c1] 61)) (.string s.name) (.int .i64 s.origin) (.int .i64 s.prev) (.int .i64 s.rs) (.int .i64 s.rb) (.slice a2 s.dn c2) 61
 rw [World.size_alloc] at hy
 have HY:=hideW hy
 clear ha ha2 hy
 go_enter Tryz.func89,Tryz.ntmps89
 go_wp2_with fail
 generalize (w.alloc (.cells #[.string s.name,.int .i64 s.origin,.int .i64 s.prev,.int .i64 s.rs,.int .i64 s.rb,.slice a1 s.dn c1] 61)).alloc (.cells #[.string s.name,.int .i64 s.origin,.int .i64 s.prev,.int .i64 s.rs,.int .i64 s.rb,.slice a2 s.dn c2] 61)=W at HX HY hA ⊢
 refine(eqPtr_any s.rs s.rb s.rs s.rb W).mono ?_
 rintro e w1 ⟨⟨t,rfl,ht⟩,hb1⟩
 obtain rfl:t=true:=ht.2 ⟨rfl,rfl⟩
 have HX1:=hideW (HX.out.below hb1)
 have HY1:=hideW (HY.out.below hb1)
 have hB1:=below_next hA hb1
 clear ht hb1 hA HX HY
 obtain⟨⟨x0,-⟩,⟨x1,-⟩,⟨x2,-⟩,⟨x3,-⟩,⟨x4,-⟩,⟨x5,-⟩⟩:=HX1.out
 obtain⟨⟨y0,-⟩,⟨y1,-⟩,⟨y2,-⟩,⟨y3,-⟩,⟨y4,-⟩,⟨y5,-⟩⟩:=HY1.out
 go_wp2_with fail
 refine(eqPtrS_any _ _ s.dn s.dn lo hi lo' hi' s.ds s.db s.ds s.db _ (H1.out.below hB1) (H2.out.below hB1)).mono ?_
 rintro e w2 ⟨⟨t,rfl,ht⟩,hb2⟩
 obtain rfl:t=true:=ht.2 ⟨rfl,fun _ _=>⟨rfl,rfl⟩⟩
 have hB2:=below_next hB1 hb2
 clear ht hb2
 go_wp2
 go_ret
 exact⟨rfl,hB2⟩
set_option maxRecDepth 20000 in
set_option maxHeartbeats 400000 in
theorem eqSnap_same(v u:Value)(lo hi lo' hi':Nat)(s:SnapD)(w:World)(h1:PtrsAt w lo hi v s.dn s.ds s.db)(h2:PtrsAt w lo' hi' u s.dn s.ds s.db) :
  Calls Tryz.prog 90 #[snapV v s,snapV u s] w fun e w'=>e = .returned (.bool true)∧Below w.heap.size w w':=by
 unfold snapV
 have H1:=hideW h1
 have H2:=hideW h2
 obtain⟨-,a1,c1,rfl,-⟩:=id h1
 obtain⟨-,a2,c2,rfl,-⟩:=id h2
 clear h1 h2
 have ha:=below_alloc w (.cells #[.int .i64 s.id,.string s.name,.string s.set,.int .i64 s.prev,.int .i64 s.time,.int .i64 s.rs,.int .i64 s.rb,.slice a1 s.dn c1] 91)
 have ha2:=below_alloc (w.alloc (.cells #[.int .i64 s.id,.string s.name,.string s.set,.int .i64 s.prev,.int .i64 s.time,.int .i64 s.rs,.int .i64 s.rb,.slice a1 s.dn c1] 91)) (.cells #[.int .i64 s.id,.string s.name,.string s.set,.int .i64 s.prev,.int .i64 s.time,.int .i64 s.rs,.int .i64 s.rb,.slice a2 s.dn c2] 91)
 have hA:=below_next ha ha2
 have HX:=hideW ((Box8.new w (.int .i64 s.id) (.string s.name) (.string s.set) (.int .i64 s.prev) (.int .i64 s.time) (.int .i64 s.rs) (.int .i64 s.rb) (.slice a1 s.dn c1) 91).below ha2)
 have hy:=Box8.new (w.alloc (.cells #[.int .i64 s.id,.string s.name,.string s.set,.int .i64 s.prev,.int .i64 s.time,.int .i64 s.rs,.int .i64 s.rb,.slice a1 s.dn c1] 91)) (.int .i64 s.id) (.string s.name) (.string s.set) (.int .i64 s.prev) (.int .i64 s.time) (.int .i64 s.rs) (.int .i64 s.rb) (.slice a2 s.dn c2) 91
 rw [World.size_alloc] at hy
 have HY:=hideW hy
 clear ha ha2 hy
 go_enter Tryz.func90,Tryz.ntmps90
 go_wp2_with fail
 generalize (w.alloc (.cells #[.int .i64 s.id,.string s.name,.string s.set,.int .i64 s.prev,.int .i64 s.time,.int .i64 s.rs,.int .i64 s.rb,.slice a1 s.dn c1] 91)).alloc (.cells #[.int .i64 s.id,.string s.name,.string s.set,.int .i64 s.prev,.int .i64 s.time,.int .i64 s.rs,.int .i64 s.rb,.slice a2 s.dn c2] 91)=W at HX HY hA ⊢
 refine(eqPtr_any s.rs s.rb s.rs s.rb W).mono ?_
 rintro e w1 ⟨⟨t,rfl,ht⟩,hb1⟩
 obtain rfl:t=true:=ht.2 ⟨rfl,rfl⟩
 have HX1:=hideW (HX.out.below hb1)
 have HY1:=hideW (HY.out.below hb1)
 have hB1:=below_next hA hb1
 clear ht hb1 hA HX HY
 obtain⟨⟨⟨x0,-⟩,⟨x1,-⟩,⟨x2,-⟩,⟨x3,-⟩⟩,⟨x4,-⟩,⟨x5,-⟩,⟨x6,-⟩,⟨x7,-⟩⟩:=HX1.out
 obtain⟨⟨⟨y0,-⟩,⟨y1,-⟩,⟨y2,-⟩,⟨y3,-⟩⟩,⟨y4,-⟩,⟨y5,-⟩,⟨y6,-⟩,⟨y7,-⟩⟩:=HY1.out
 go_wp2_with fail
 refine(eqPtrS_any _ _ s.dn s.dn lo hi lo' hi' s.ds s.db s.ds s.db _ (H1.out.below hB1) (H2.out.below hB1)).mono ?_
 rintro e w2 ⟨⟨t,rfl,ht⟩,hb2⟩
 obtain rfl:t=true:=ht.2 ⟨rfl,fun _ _=>⟨rfl,rfl⟩⟩
 have hB2:=below_next hB1 hb2
 clear ht hb2
 go_wp2
 go_ret
 exact⟨rfl,hB2⟩
set_option maxRecDepth 20000 in
set_option maxHeartbeats 1000000 in
theorem eqSetS_same(v u:Value)(n lo hi lo' hi':Nat)(f:Nat→SetD)(w:World)(h1:SetsAt w lo hi v n f)(h2:SetsAt w lo' hi' u n f) :
  Calls Tryz.prog 40 #[v,u] w fun e w'=>e = .returned (.bool true)∧Below w.heap.size w w':=by
 have H1:=hideW h1
 have H2:=hideW h2
 obtain⟨m1,a,c,rfl,mc,-⟩:=id h1
 obtain⟨-,a',c',rfl,mc',-⟩:=id h2
 unfold maxLen at m1
 clear h1 h2
 have hne:((n:Int) != (n:Int))=false:=by simp
 go_enter Tryz.func40,Tryz.ntmps40
 go_wp2
 go_loopw [5] (fun i wr=>∃k:Nat,k≤n∧i = .int .i64 k∧Below w.heap.size w wr) (fun i _=>n - (intOf i).toNat)
 case atStart=>exact⟨0,Nat.zero_le _,rfl,Below.refl _ _⟩
 case round=>
  obtain⟨k,hk,rfl,hb⟩:=hrel
  by_cases hlt:k<n
  ·have hlt':(k:Int)<(n:Int):=by omega
   obtain⟨b,off,vd,rfl,hs'⟩:=(H1.out.below hb).cells hlt
   obtain⟨b',off',ve,rfl,ht'⟩:=(H2.out.below hb).cells hlt
   obtain⟨-,da,dc,rfl,-,-⟩:=id hs'.dead
   obtain⟨-,ea,ec,rfl,-,-⟩:=id ht'.dead
   have q0:=hs'.c0
   have r0:=ht'.c0
   have q1:=hs'.c1
   have r1:=ht'.c1
   have q2:=hs'.c2
   have r2:=ht'.c2
   have q3:=hs'.c3
   have r3:=ht'.c3
   have q4:=hs'.c4
   have r4:=ht'.c4
   have q5:=hs'.c5
   have r5:=ht'.c5
   have Hs:=hideW hs'
   have Ht:=hideW ht'
   clear hs' ht'
   go_wp2_with fail
   go_region_held3 (fun w'=>w'.cell? ⟨b,off+k*6,none⟩=some (.string (f k).name)∧w'.cell? ⟨b,off+k*6+1,none⟩=some (.int .i64 (f k).origin)∧w'.cell? ⟨b,off+k*6+2,none⟩=some (.int .i64 (f k).prev)∧w'.cell? ⟨b,off+k*6+3,none⟩=some (.int .i64 (f k).rs)∧w'.cell? ⟨b,off+k*6+4,none⟩=some (.int .i64 (f k).rb)∧w'.cell? ⟨b,off+k*6+5,none⟩=some (.slice da (f k).dn dc)∧w'.cell? ⟨b',off'+k*6,none⟩=some (.string (f k).name)∧w'.cell? ⟨b',off'+k*6+1,none⟩=some (.int .i64 (f k).origin)∧w'.cell? ⟨b',off'+k*6+2,none⟩=some (.int .i64 (f k).prev)∧w'.cell? ⟨b',off'+k*6+3,none⟩=some (.int .i64 (f k).rs)∧w'.cell? ⟨b',off'+k*6+4,none⟩=some (.int .i64 (f k).rb)∧w'.cell? ⟨b',off'+k*6+5,none⟩=some (.slice ea (f k).dn ec)) (go_keep)
    (first
     | (go_at_call 89; refine(eqSet_same _ _ lo hi lo' hi' (f k) _ (Hs.out.dead.below (Below.refl _ _).drew) (Ht.out.dead.below (Below.refl _ _).drew)).mono ?_; rintro e w1 ⟨rfl,hb1⟩; have hb1':=below_undrew hb1; have hs':=Hs.out; have ht':=Ht.out; have z0:=(hs'.below hb1').c0; have zz0:=(ht'.below hb1').c0; have z1:=(hs'.below hb1').c1; have zz1:=(ht'.below hb1').c1; have z2:=(hs'.below hb1').c2; have zz2:=(ht'.below hb1').c2; have z3:=(hs'.below hb1').c3; have zz3:=(ht'.below hb1').c3; have z4:=(hs'.below hb1').c4; have zz4:=(ht'.below hb1').c4; have z5:=(hs'.below hb1').c5; have zz5:=(ht'.below hb1').c5))
   have hb2:=below_next hb hb1'
   clear z0 zz0 q0 r0 z1 zz1 q1 r1 z2 zz2 q2 r2 z3 zz3 q3 r3 z4 zz4 q4 r4 z5 zz5 q5 r5 hs' ht' hb1 hb1'
   go_wp2
   go_roundw
   case rel=>exact⟨k+1,by omega,by go_num,hb2⟩
   case measure=>simp [intOf]; omega
  ·go_wp2
   go_ret
   exact⟨rfl,hb⟩
set_option maxRecDepth 20000 in
set_option maxHeartbeats 1000000 in
theorem eqSnapS_same(v u:Value)(n lo hi lo' hi':Nat)(f:Nat→SnapD)(w:World)(h1:SnapsAt w lo hi v n f)(h2:SnapsAt w lo' hi' u n f) :
  Calls Tryz.prog 41 #[v,u] w fun e w'=>e = .returned (.bool true)∧Below w.heap.size w w':=by
 have H1:=hideW h1
 have H2:=hideW h2
 obtain⟨m1,a,c,rfl,mc,-⟩:=id h1
 obtain⟨-,a',c',rfl,mc',-⟩:=id h2
 unfold maxLen at m1
 clear h1 h2
 have hne:((n:Int) != (n:Int))=false:=by simp
 go_enter Tryz.func41,Tryz.ntmps41
 go_wp2
 go_loopw [5] (fun i wr=>∃k:Nat,k≤n∧i = .int .i64 k∧Below w.heap.size w wr) (fun i _=>n - (intOf i).toNat)
 case atStart=>exact⟨0,Nat.zero_le _,rfl,Below.refl _ _⟩
 case round=>
  obtain⟨k,hk,rfl,hb⟩:=hrel
  by_cases hlt:k<n
  ·have hlt':(k:Int)<(n:Int):=by omega
   obtain⟨b,off,vd,rfl,hs'⟩:=(H1.out.below hb).cells hlt
   obtain⟨b',off',ve,rfl,ht'⟩:=(H2.out.below hb).cells hlt
   obtain⟨-,da,dc,rfl,-,-⟩:=id hs'.dead
   obtain⟨-,ea,ec,rfl,-,-⟩:=id ht'.dead
   have q0:=hs'.c0
   have r0:=ht'.c0
   have q1:=hs'.c1
   have r1:=ht'.c1
   have q2:=hs'.c2
   have r2:=ht'.c2
   have q3:=hs'.c3
   have r3:=ht'.c3
   have q4:=hs'.c4
   have r4:=ht'.c4
   have q5:=hs'.c5
   have r5:=ht'.c5
   have q6:=hs'.c6
   have r6:=ht'.c6
   have q7:=hs'.c7
   have r7:=ht'.c7
   have Hs:=hideW hs'
   have Ht:=hideW ht'
   clear hs' ht'
   go_wp2_with fail
   go_region_held3 (fun w'=>w'.cell? ⟨b,off+k*8,none⟩=some (.int .i64 (f k).id)∧w'.cell? ⟨b,off+k*8+1,none⟩=some (.string (f k).name)∧w'.cell? ⟨b,off+k*8+2,none⟩=some (.string (f k).set)∧w'.cell? ⟨b,off+k*8+3,none⟩=some (.int .i64 (f k).prev)∧w'.cell? ⟨b,off+k*8+4,none⟩=some (.int .i64 (f k).time)∧w'.cell? ⟨b,off+k*8+5,none⟩=some (.int .i64 (f k).rs)∧w'.cell? ⟨b,off+k*8+6,none⟩=some (.int .i64 (f k).rb)∧w'.cell? ⟨b,off+k*8+7,none⟩=some (.slice da (f k).dn dc)∧w'.cell? ⟨b',off'+k*8,none⟩=some (.int .i64 (f k).id)∧w'.cell? ⟨b',off'+k*8+1,none⟩=some (.string (f k).name)∧w'.cell? ⟨b',off'+k*8+2,none⟩=some (.string (f k).set)∧w'.cell? ⟨b',off'+k*8+3,none⟩=some (.int .i64 (f k).prev)∧w'.cell? ⟨b',off'+k*8+4,none⟩=some (.int .i64 (f k).time)∧w'.cell? ⟨b',off'+k*8+5,none⟩=some (.int .i64 (f k).rs)∧w'.cell? ⟨b',off'+k*8+6,none⟩=some (.int .i64 (f k).rb)∧w'.cell? ⟨b',off'+k*8+7,none⟩=some (.slice ea (f k).dn ec)) (go_keep)
    (first
     | (go_at_call 90; refine(eqSnap_same _ _ lo hi lo' hi' (f k) _ (Hs.out.dead.below (Below.refl _ _).drew) (Ht.out.dead.below (Below.refl _ _).drew)).mono ?_; rintro e w1 ⟨rfl,hb1⟩; have hb1':=below_undrew hb1; have hs':=Hs.out; have ht':=Ht.out; have z0:=(hs'.below hb1').c0; have zz0:=(ht'.below hb1').c0; have z1:=(hs'.below hb1').c1; have zz1:=(ht'.below hb1').c1; have z2:=(hs'.below hb1').c2; have zz2:=(ht'.below hb1').c2; have z3:=(hs'.below hb1').c3; have zz3:=(ht'.below hb1').c3; have z4:=(hs'.below hb1').c4; have zz4:=(ht'.below hb1').c4; have z5:=(hs'.below hb1').c5; have zz5:=(ht'.below hb1').c5; have z6:=(hs'.below hb1').c6; have zz6:=(ht'.below hb1').c6; have z7:=(hs'.below hb1').c7; have zz7:=(ht'.below hb1').c7))
   have hb2:=below_next hb hb1'
   clear z0 zz0 q0 r0 z1 zz1 q1 r1 z2 zz2 q2 r2 z3 zz3 q3 r3 z4 zz4 q4 r4 z5 zz5 q5 r5 z6 zz6 q6 r6 z7 zz7 q7 r7 hs' ht' hb1 hb1'
   go_wp2
   go_roundw
   case rel=>exact⟨k+1,by omega,by go_num,hb2⟩
   case measure=>simp [intOf]; omega
  ·go_wp2
   go_ret
   exact⟨rfl,hb⟩
end Go.Proofs.YtihdcanckbkgfaaGreatDoor

namespace Go.Proofs.YtihdcanckbkgfaaGreatDoor
open Go.RowKit Go.Maps
set_option linter.unusedVariables false
set_option maxRecDepth 20000 in
set_option maxHeartbeats 400000 in
theorem eqWorld_same(v0 v1 v2 v3 u0 u1 u2 u3:Value)(lo hi lo' hi':Nat)(W:WorldD)(w:World)(h1:WorldAt w lo hi v0 v1 v2 v3 W)(h2:WorldAt w lo' hi' u0 u1 u2 u3 W) :
  Calls Tryz.prog 11 #[worldV v0 v1 v2 v3 W,worldV u0 u1 u2 u3 W] w fun e w'=>e = .returned (.bool true)∧Below w.heap.size w w':=by
 have H1:=hideW h1
 have H2:=hideW h2
 clear h1 h2
 have ha:=below_alloc w (.cells #[v0,v1,.int .i64 W.time,.int .i64 W.next,v2,v3] 37)
 have ha2:=below_alloc (w.alloc (.cells #[v0,v1,.int .i64 W.time,.int .i64 W.next,v2,v3] 37)) (.cells #[u0,u1,.int .i64 W.time,.int .i64 W.next,u2,u3] 37)
 have hA:=below_next ha ha2
 have HX:=hideW ((Box6.new w v0 v1 (.int .i64 W.time) (.int .i64 W.next) v2 v3 37).below ha2)
 have hy:=Box6.new (w.alloc (.cells #[v0,v1,.int .i64 W.time,.int .i64 W.next,v2,v3] 37)) u0 u1 (.int .i64 W.time) (.int .i64 W.next) u2 u3 37
 rw [World.size_alloc] at hy
 have HY:=hideW hy
 clear ha ha2 hy
 go_enter Tryz.func11,Tryz.ntmps11
 go_wp2_with fail
 generalize (w.alloc (.cells #[v0,v1,.int .i64 W.time,.int .i64 W.next,v2,v3] 37)).alloc (.cells #[u0,u1,.int .i64 W.time,.int .i64 W.next,u2,u3] 37)=W0 at HX HY hA ⊢
 refine(eqPool_any _ _ _ _ lo hi lo' hi' W.pool W.pool _ (H1.out.below hA).pool (H2.out.below hA).pool).mono ?_
 rintro e w1 ⟨⟨t,rfl,ht⟩,hb1⟩
 obtain rfl:t=true:=ht.2 (PoolEq.refl W.pool)
 have HX1:=hideW (HX.out.below hb1)
 have HY1:=hideW (HY.out.below hb1)
 have hB1:=below_next hA hb1
 clear ht hb1 hA HX HY
 obtain⟨⟨x0,-⟩,⟨x1,-⟩,⟨x2,-⟩,⟨x3,-⟩,⟨x4,-⟩,⟨x5,-⟩⟩:=HX1.out
 obtain⟨⟨y0,-⟩,⟨y1,-⟩,⟨y2,-⟩,⟨y3,-⟩,⟨y4,-⟩,⟨y5,-⟩⟩:=HY1.out
 go_wp2_with fail
 refine(eqSetS_same _ _ W.sn lo hi lo' hi' W.sets _ (H1.out.below hB1).sets (H2.out.below hB1).sets).mono ?_
 rintro e w2 ⟨rfl,hb2⟩
 have HX2:=hideW (HX1.out.below hb2)
 have HY2:=hideW (HY1.out.below hb2)
 have hB2:=below_next hB1 hb2
 clear hb2 hB1 HX1 HY1 x0 x1 x2 x3 x4 x5 y0 y1 y2 y3 y4 y5
 obtain⟨⟨x0,-⟩,⟨x1,-⟩,⟨x2,-⟩,⟨x3,-⟩,⟨x4,-⟩,⟨x5,-⟩⟩:=HX2.out
 obtain⟨⟨y0,-⟩,⟨y1,-⟩,⟨y2,-⟩,⟨y3,-⟩,⟨y4,-⟩,⟨y5,-⟩⟩:=HY2.out
 go_wp2_with fail
 refine(eqSnapS_same _ _ W.pn lo hi lo' hi' W.snaps _ (H1.out.below hB2).snaps (H2.out.below hB2).snaps).mono ?_
 rintro e w3 ⟨rfl,hb3⟩
 have hB3:=below_next hB2 hb3
 clear hb3
 go_wp2
 go_ret
 exact⟨rfl,hB3⟩
end Go.Proofs.YtihdcanckbkgfaaGreatDoor

namespace Go.Proofs.YtihdcanckbkgfaaGreatDoor
open Go.RowKit
set_option linter.unusedVariables false
set_option maxRecDepth 20000 in
set_option maxHeartbeats 400000 in
theorem heldInt64S_any(v:Value)(n lo hi:Nat)(f:Nat→Int)(k0:Int)(w:World)(h1:IntsAt w lo hi v n f)(hk0:0≤k0)(hk1:k0+n≤1000000000000)(hf:∀i,i<n→f i=k0+i) :
  Calls Tryz.prog 141 #[v,.int .i64 k0] w fun e w'=>e = .returned (.int .i64 (k0+n))∧Below w.heap.size w w':=by
 obtain⟨m1,a,c,rfl,mc,g1⟩:=h1
 unfold maxLen at m1
 have Hf:Hid (∀i,i<n→f i=k0+i):=hf
 clear hf
 go_enter Tryz.func141,Tryz.ntmps141
 go_wp2
 go_loopw [1,5] (fun m i wr=>∃k:Nat,k≤n∧i = .int .i64 k∧m = .int .i64 (k0+k)∧Below w.heap.size w wr) (fun _ i _=>n - (intOf i).toNat)
 case atStart=>exact⟨0,Nat.zero_le _,rfl,by simp,Below.refl _ _⟩
 case round=>
  obtain⟨k,hk,rfl,rfl,hb⟩:=hrel
  by_cases hlt:k<n
  ·have hlt':(k:Int)<(n:Int):=by omega
   obtain⟨b,off,rfl,_,_,k1⟩:=g1 (by omega)
   have hc1:wr.cell? ⟨b,off+k,none⟩=some (.int .i64 (k0+k)):=by rw [←Hf.out k hlt]; exact(hb.cell (lt_of_cell (k1 k hlt))).trans (k1 k hlt)
   clear k1 g1
   go_wp2
   go_roundw
   case rel=>exact⟨k+1,by omega,by go_num,by go_num,hb⟩
   case measure=>simp [intOf]; omega
  ·obtain rfl:k=n:=by omega
   go_wp2
   go_ret
   exact⟨rfl,hb⟩
end Go.Proofs.YtihdcanckbkgfaaGreatDoor
