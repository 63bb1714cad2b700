/- What spec.SetDestroy answers. -/
import Derived.Test.YtihdcanckbkgfaaGreatDoorH28
import Derived.Test.YtihdcanckbkgfaaGreatDoorH30
import Derived.Test.YtihdcanckbkgfaaGreatDoorH31
import Derived.Test.YtihdcanckbkgfaaGreatDoorH33
import Derived.Test.YtihdcanckbkgfaaGreatDoorH16
import Derived.Test.YtihdcanckbkgfaaGreatDoorH9
import Derived.Deep.DeepCutAuto
import Derived.Deep.RegionHeld3
import Derived.Deep.RegionLaw
namespace Go.Proofs.YtihdcanckbkgfaaGreatDoor
open Go.RowKit
set_option linter.unusedVariables false
set_option maxRecDepth 20000 in
set_option maxHeartbeats 2000000 in
theorem specSetDestroy_any(v0 v1 v2 v3:Value)(lo hi:Nat)(W:WorldD)(name:ByteArray)(w:World)(h:WorldAt w lo hi v0 v1 v2 v3 W)(b1:poolN W.pool≤1048576)(b2:W.sn≤1048576)(b3:W.pn≤1048576)(b4:DeadsN W)(hname:name.size≤maxLen) :
  Calls Tryz.prog 7 #[worldV v0 v1 v2 v3 W,.string name] w (AnsSetDestroy W name w):=by
 have Hp:=hideW h
 obtain⟨a0,c0,a1,c1,a2,c2,a3,c3,rfl,rfl,rfl,rfl⟩:=h.form
 have m1:=h.sets.1
 have m2:=h.snaps.1
 unfold maxLen at m1 m2
 clear h
 unfold maxLen at hname
 have ha0:=below_alloc w (.cells #[.slice a0 W.pool.n c0,.slice a1 W.pool.hn c1,.int .i64 W.time,.int .i64 W.next,.slice a2 W.sn c2,.slice a3 W.pn c3] 37)
 have ha1:=below_alloc (w.alloc (.cells #[.slice a0 W.pool.n c0,.slice a1 W.pool.hn c1,.int .i64 W.time,.int .i64 W.next,.slice a2 W.sn c2,.slice a3 W.pn c3] 37)) (.cells #[.slice none 0 0,.slice none 0 0,.int .i64 0,.int .i64 0,.slice none 0 0,.slice none 0 0,.int .i64 0,.int .i64 0,.int .i64 0] 39)
 have hb:=below_next ha0 ha1
 have HX:=hideW ((Box6.new w (.slice a0 W.pool.n c0) (.slice a1 W.pool.hn c1) (.int .i64 W.time) (.int .i64 W.next) (.slice a2 W.sn c2) (.slice a3 W.pn c3) 37).below ha1)
 have hr:=Box9.new (w.alloc (.cells #[.slice a0 W.pool.n c0,.slice a1 W.pool.hn c1,.int .i64 W.time,.int .i64 W.next,.slice a2 W.sn c2,.slice a3 W.pn c3] 37)) (.slice none 0 0) (.slice none 0 0) (.int .i64 0) (.int .i64 0) (.slice none 0 0) (.slice none 0 0) (.int .i64 0) (.int .i64 0) (.int .i64 0) 39
 rw [World.size_alloc] at hr
 have HR:=hideW hr
 have hz:((w.alloc (.cells #[.slice a0 W.pool.n c0,.slice a1 W.pool.hn c1,.int .i64 W.time,.int .i64 W.next,.slice a2 W.sn c2,.slice a3 W.pn c3] 37)).alloc (.cells #[.slice none 0 0,.slice none 0 0,.int .i64 0,.int .i64 0,.slice none 0 0,.slice none 0 0,.int .i64 0,.int .i64 0,.int .i64 0] 39)).heap.size≥w.heap.size+2:=by rw [World.size_alloc,World.size_alloc]; omega
 clear hr
 go_enter Tryz.func7,Tryz.ntmps7
 go_upto_region 1 with fail
 generalize (w.alloc (.cells #[.slice a0 W.pool.n c0,.slice a1 W.pool.hn c1,.int .i64 W.time,.int .i64 W.next,.slice a2 W.sn c2,.slice a3 W.pn c3] 37)).alloc (.cells #[.slice none 0 0,.slice none 0 0,.int .i64 0,.int .i64 0,.slice none 0 0,.slice none 0 0,.int .i64 0,.int .i64 0,.int .i64 0] 39)=W1 at hb HX HR hz ⊢
 clear ha0 ha1
 by_cases hl1:8000<name.size
 ·have a1:(8000:Int)<(name.size:Int):=by omega
  go_wp2_with fail
  refine(l05Ill_any 2 _).mono ?_
  rintro e wz ⟨rfl,hbz⟩
  have hbY:=below_next hb hbz
  have HRy:=hideW (HR.out.below hbz)
  obtain⟨⟨r0,g0⟩,⟨r1,g1⟩,⟨r2,g2⟩,⟨r3,g3⟩,⟨r4,g4⟩,⟨r5,g5⟩,⟨r6,g6⟩,⟨r7,g7⟩,⟨r8,g8⟩⟩:=HRy.out
  go_wp2_with fail
  have HRz:=HRy.out.put (.slice none 0 0) (.slice none 0 0) (.int .i64 0) (.int .i64 0) (.slice none 0 0) (.slice none 0 0) (.int .i64 0) (.int .i64 0) (.int .i64 2)
  have hT:=Turned.put9 wz (w.heap.size+1) (.slice none 0 0) (.slice none 0 0) (.int .i64 0) (.int .i64 0) (.slice none 0 0) (.slice none 0 0) (.int .i64 0) (.int .i64 0) (.int .i64 2)
  clear r0 g0 r1 g1 r2 g2 r3 g3 r4 g4 r5 g5 r6 g6 r7 g7 r8 g8
  refine bodyPost_ret (v:=.agg #[.slice none 0 0,.slice none 0 0,.int .i64 0,.int .i64 0,.slice none 0 0,.slice none 0 0,.int .i64 0,.int .i64 0,.int .i64 2]) (by simp [results,Tryz.results7,go_sem,HRz.1.1,HRz.2.1.1,HRz.2.2.1.1,HRz.2.2.2.1.1,HRz.2.2.2.2.1.1,HRz.2.2.2.2.2.1.1,HRz.2.2.2.2.2.2.1.1,HRz.2.2.2.2.2.2.2.1.1,HRz.2.2.2.2.2.2.2.2.1]) rfl (AnsSetDestroy.ill (i:=1) (Or.inl ⟨long1.2 hl1,rfl⟩) ?_)
  exact⟨_,_,_,_,rfl,noW_own,hbY.trans (hT.below (B:=w.heap.size) hbY.size (fun k e=>by omega))⟩
 have e1:¬(8000:Int)<(name.size:Int):=by omega
 have HL:=hideW (show ¬(∃i,i<1∧8000<((fun (_:Nat)=>name) i).size)from fun h=>hl1 (long1.1 h))
 have Hnm:=hideW (show ¬(∃i,i<0∧¬NameP ((fun _=>⟨#[]⟩) i))from fun ⟨i,hi,_⟩=>absurd hi (Nat.not_lt_zero _))
 clear hl1
 obtain⟨⟨x0,-⟩,⟨x1,-⟩,⟨x2,-⟩,⟨x3,-⟩,⟨x4,-⟩,⟨x5,-⟩⟩:=HX.out
 go_wp2_with fail
 clear x0 x1 x2 x3 x4 x5 e1
 refine(specWorldRight_any _ _ _ _ lo hi W W1 (Hp.out.below hb)).mono ?_
 rintro e w2 ⟨⟨t,rfl,ht⟩,hb2⟩
 have hB2:=below_next hb hb2
 have HR2:=hideW (HR.out.below hb2)
 have HX2:=hideW (HX.out.below hb2)
 have hz2:=hb2.size
 clear hb2
 by_cases hw:SpecW W
 rotate_left
 ·obtain rfl:t=false:=bool_no ht hw
  have Hw:=hideW hw
  clear ht hw
  go_wp2_with fail
  refine(l05Ill_any 1 _).mono ?_
  rintro e wz ⟨rfl,hbz⟩
  have hbY:=below_next hB2 hbz
  have HRy:=hideW (HR2.out.below hbz)
  obtain⟨⟨r0,g0⟩,⟨r1,g1⟩,⟨r2,g2⟩,⟨r3,g3⟩,⟨r4,g4⟩,⟨r5,g5⟩,⟨r6,g6⟩,⟨r7,g7⟩,⟨r8,g8⟩⟩:=HRy.out
  go_wp2_with fail
  have HRz:=HRy.out.put (.slice none 0 0) (.slice none 0 0) (.int .i64 0) (.int .i64 0) (.slice none 0 0) (.slice none 0 0) (.int .i64 0) (.int .i64 0) (.int .i64 1)
  have hT:=Turned.put9 wz (w.heap.size+1) (.slice none 0 0) (.slice none 0 0) (.int .i64 0) (.int .i64 0) (.slice none 0 0) (.slice none 0 0) (.int .i64 0) (.int .i64 0) (.int .i64 1)
  clear r0 g0 r1 g1 r2 g2 r3 g3 r4 g4 r5 g5 r6 g6 r7 g7 r8 g8
  refine bodyPost_ret (v:=.agg #[.slice none 0 0,.slice none 0 0,.int .i64 0,.int .i64 0,.slice none 0 0,.slice none 0 0,.int .i64 0,.int .i64 0,.int .i64 1]) (by simp [results,Tryz.results7,go_sem,HRz.1.1,HRz.2.1.1,HRz.2.2.1.1,HRz.2.2.2.1.1,HRz.2.2.2.2.1.1,HRz.2.2.2.2.2.1.1,HRz.2.2.2.2.2.2.1.1,HRz.2.2.2.2.2.2.2.1.1,HRz.2.2.2.2.2.2.2.2.1]) rfl (AnsSetDestroy.ill (i:=0) (Or.inr (Or.inl ⟨HL.out,Or.inl (fun h=>Hw.out ((world_iff W).1 h)),rfl⟩)) ?_)
  exact⟨_,_,_,_,rfl,noW_own,hbY.trans (hT.below (B:=w.heap.size) hbY.size (fun k e=>by omega))⟩
 obtain rfl:t=true:=ht.2 hw
 have HSW:=hideW hw
 have Hw:=hideW ((world_iff W).2 hw)
 clear ht hw
 obtain⟨⟨x0,-⟩,⟨x1,-⟩,⟨x2,-⟩,⟨x3,-⟩,⟨x4,-⟩,⟨x5,-⟩⟩:=HX2.out
 go_wp2_with fail
 clear x0 x1 x2 x3 x4 x5
 refine(l04Set_any _ _ _ _ lo hi W name _ (Hp.out.below hB2)).mono ?_
 rintro e w3 ⟨r,rfl,hF,hb3⟩
 have hB3:=below_next hB2 hb3
 have HR3:=hideW (HR2.out.below hb3)
 have HX3:=hideW (HX2.out.below hb3)
 have hz3:=hb3.size
 clear hb3
 rcases hF with⟨k,hk,hPk,hnok,rfl⟩ | ⟨hno,rfl⟩
 rotate_left
 ·have Hno:=hideW hno
  clear hno
  go_wp2_with fail
  refine(l05Ill_any 4 _).mono ?_
  rintro e wz ⟨rfl,hbz⟩
  have hbY:=below_next hB3 hbz
  have HRy:=hideW (HR3.out.below hbz)
  obtain⟨⟨r0,g0⟩,⟨r1,g1⟩,⟨r2,g2⟩,⟨r3,g3⟩,⟨r4,g4⟩,⟨r5,g5⟩,⟨r6,g6⟩,⟨r7,g7⟩,⟨r8,g8⟩⟩:=HRy.out
  go_wp2_with fail
  have HRz:=HRy.out.put (.slice none 0 0) (.slice none 0 0) (.int .i64 0) (.int .i64 0) (.slice none 0 0) (.slice none 0 0) (.int .i64 0) (.int .i64 0) (.int .i64 4)
  have hT:=Turned.put9 wz (w.heap.size+1) (.slice none 0 0) (.slice none 0 0) (.int .i64 0) (.int .i64 0) (.slice none 0 0) (.slice none 0 0) (.int .i64 0) (.int .i64 0) (.int .i64 4)
  clear r0 g0 r1 g1 r2 g2 r3 g3 r4 g4 r5 g5 r6 g6 r7 g7 r8 g8
  refine bodyPost_ret (v:=.agg #[.slice none 0 0,.slice none 0 0,.int .i64 0,.int .i64 0,.slice none 0 0,.slice none 0 0,.int .i64 0,.int .i64 0,.int .i64 4]) (by simp [results,Tryz.results7,go_sem,HRz.1.1,HRz.2.1.1,HRz.2.2.1.1,HRz.2.2.2.1.1,HRz.2.2.2.2.1.1,HRz.2.2.2.2.2.1.1,HRz.2.2.2.2.2.2.1.1,HRz.2.2.2.2.2.2.2.1.1,HRz.2.2.2.2.2.2.2.2.1]) rfl (AnsSetDestroy.ill (i:=2) (Or.inr (Or.inr (Or.inl ⟨HL.out,Hw.out,Hnm.out,0,by omega,fun ⟨j,hj,h⟩=>Hno.out j hj h,fun j hj=>absurd hj (Nat.not_lt_zero _),rfl⟩))) ?_)
  exact⟨_,_,_,_,rfl,noW_own,hbY.trans (hT.below (B:=w.heap.size) hbY.size (fun k e=>by omega))⟩
 have HN:=hideW (show SetNo W name k from⟨hk,hPk,hnok⟩)
 clear hPk hnok
 have k0:¬(k:Int)<0:=by omega
 have hk':(k:Int)<(W.sn:Int):=by omega
 have HQ0:=hideW (show ∀j,j<1→(fun i=>match i with | 0=>HasSet W name | _=>¬∃i,i<W.pn∧(W.snaps i).set=name) j from fun j hj=>by
  obtain rfl:j=0:=by omega
  exact⟨k,HN.out.1,HN.out.2.1⟩)
 obtain⟨⟨x0,-⟩,⟨x1,-⟩,⟨x2,-⟩,⟨x3,-⟩,⟨x4,-⟩,⟨x5,-⟩⟩:=HX3.out
 go_wp2_with fail
 clear x0 x1 x2 x3 x4 x5
 refine(l05Own_any _ _ _ _ lo hi W name _ (Hp.out.below hB3)).mono ?_
 rintro e w4 ⟨⟨t,rfl,ht⟩,hb4⟩
 have hB4:=below_next hB3 hb4
 have HR4:=hideW (HR3.out.below hb4)
 have HX4:=hideW (HX3.out.below hb4)
 have hz4:=hb4.size
 clear hb4
 by_cases hq:∃i,i<W.pn∧(W.snaps i).set=name
 ·obtain rfl:t=true:=ht.2 hq
  have Hq:=hideW hq
  clear ht hq
  go_wp2_with fail
  refine(l05Ill_any 7 _).mono ?_
  rintro e wz ⟨rfl,hbz⟩
  have hbY:=below_next hB4 hbz
  have HRy:=hideW (HR4.out.below hbz)
  obtain⟨⟨r0,g0⟩,⟨r1,g1⟩,⟨r2,g2⟩,⟨r3,g3⟩,⟨r4,g4⟩,⟨r5,g5⟩,⟨r6,g6⟩,⟨r7,g7⟩,⟨r8,g8⟩⟩:=HRy.out
  go_wp2_with fail
  have HRz:=HRy.out.put (.slice none 0 0) (.slice none 0 0) (.int .i64 0) (.int .i64 0) (.slice none 0 0) (.slice none 0 0) (.int .i64 0) (.int .i64 0) (.int .i64 7)
  have hT:=Turned.put9 wz (w.heap.size+1) (.slice none 0 0) (.slice none 0 0) (.int .i64 0) (.int .i64 0) (.slice none 0 0) (.slice none 0 0) (.int .i64 0) (.int .i64 0) (.int .i64 7)
  clear r0 g0 r1 g1 r2 g2 r3 g3 r4 g4 r5 g5 r6 g6 r7 g7 r8 g8
  refine bodyPost_ret (v:=.agg #[.slice none 0 0,.slice none 0 0,.int .i64 0,.int .i64 0,.slice none 0 0,.slice none 0 0,.int .i64 0,.int .i64 0,.int .i64 7]) (by simp [results,Tryz.results7,go_sem,HRz.1.1,HRz.2.1.1,HRz.2.2.1.1,HRz.2.2.2.1.1,HRz.2.2.2.2.1.1,HRz.2.2.2.2.2.1.1,HRz.2.2.2.2.2.2.1.1,HRz.2.2.2.2.2.2.2.1.1,HRz.2.2.2.2.2.2.2.2.1]) rfl (AnsSetDestroy.ill (i:=5) (Or.inr (Or.inr (Or.inl ⟨HL.out,Hw.out,Hnm.out,1,by omega,fun h=>h Hq.out,HQ0.out,rfl⟩))) ?_)
  exact⟨_,_,_,_,rfl,noW_own,hbY.trans (hT.below (B:=w.heap.size) hbY.size (fun k e=>by omega))⟩
 obtain rfl:t=false:=bool_no ht hq
 have HQ1:=hideW (show ∀i,i<2→(fun i=>match i with | 0=>HasSet W name | _=>¬∃i,i<W.pn∧(W.snaps i).set=name) i from fun i hi=>by
  rcases(by omega:i=0∨i=1)with rfl | rfl
  ·exact HQ0.out 0 (by omega)
  ·exact hq)
 clear ht hq
 obtain⟨⟨x0,-⟩,⟨x1,-⟩,⟨x2,-⟩,⟨x3,-⟩,⟨x4,-⟩,⟨x5,-⟩⟩:=HX4.out
 go_wp2_with fail
 clear x0 x1 x2 x3 x4 x5
 refine(l04CopyR_any _ _ _ _ lo hi W _ (Hp.out.below hB4) b1 b2 b3 b4).mono ?_
 rintro e w5 ⟨z0,z1,z2,z3,rfl,ho,hb5⟩
 obtain⟨P,Q,R,hinR,hltS⟩:=ho
 have hin:=hinR.isIn
 obtain⟨sb,kb,kv,hS,hSa,hSq⟩:=hin.sets
 obtain⟨so,lc2,rfl,hs5⟩:=hS.nth hk
 obtain⟨l0,lc0,l1,lc1,l2,lc2',l3,lc3,rfl,rfl,e2,rfl⟩:=WorldOwn.form (lo:=w4.heap.size) (hi:=w5.heap.size) ⟨P,Q,R,hin,hltS⟩
 clear e2
 have hlc2:W.sn≤lc2:=by obtain⟨_,a,c',e,h,_⟩:=hS; injection e with e1 e2 e3; omega
 have hB5:=below_next hB4 hb5
 have hz5:=hb5.size
 have ha6:=below_alloc w5 (.cells #[.slice l0 W.pool.n lc0,.slice l1 W.pool.hn lc1,.int .i64 W.time,.int .i64 W.next,.slice (some ⟨sb,so,none⟩) W.sn lc2,.slice l3 W.pn lc3] 37)
 have hz6:(w5.alloc (.cells #[.slice l0 W.pool.n lc0,.slice l1 W.pool.hn lc1,.int .i64 W.time,.int .i64 W.next,.slice (some ⟨sb,so,none⟩) W.sn lc2,.slice l3 W.pn lc3] 37)).heap.size=w5.heap.size+1:=World.size_alloc _ _
 have HV6:=hideW (Box6.new w5 (.slice l0 W.pool.n lc0) (.slice l1 W.pool.hn lc1) (.int .i64 W.time) (.int .i64 W.next) (.slice (some ⟨sb,so,none⟩) W.sn lc2) (.slice l3 W.pn lc3) 37)
 have HIN:=hideW hin
 have HLT:=hideW hltS
 have HSO:=hideW hS
 have HSAp:=hideW hSa
 have HSQ:=hideW hSq
 have hQb:Q sb:=hSq _ (Or.inl ⟨by omega,rfl⟩)
 have hsbl:=hltS sb (Or.inr (Or.inl hQb))
 have HQB:=hideW hQb
 have HX6:=hideW ((HX4.out.below hb5).below ha6)
 have HR6:=hideW ((HR4.out.below hb5).below ha6)
 have hB6:=below_next hB5 ha6
 clear hinR hin hltS hS hSa hSq hs5 hQb
 obtain⟨ab,ao,avd,rfl,hsk⟩:=Hp.out.sets.cells hk
 have HSK:=hideW hsk
 clear hsk
 go_upto_region 11 with fail
 generalize w5.alloc (.cells #[.slice l0 W.pool.n lc0,.slice l1 W.pool.hn lc1,.int .i64 W.time,.int .i64 W.next,.slice (some ⟨sb,so,none⟩) W.sn lc2,.slice l3 W.pn lc3] 37)=w6 at ha6 hz6 HV6 HX6 HR6 hB6 ⊢
 have hq0:Below w6.heap.size w6 w6.drew:=(Below.refl _ _).drew
 have HKP:=hideW (show ∀w',Below w6.heap.size w6 w'→(fun w':World=>w'.cell? ⟨w.heap.size,0,none⟩=some (.slice a0 W.pool.n c0)∧w'.cell? ⟨w.heap.size,1,none⟩=some (.slice a1 W.pool.hn c1)∧w'.cell? ⟨w.heap.size,2,none⟩=some (.int .i64 W.time)∧w'.cell? ⟨w.heap.size,3,none⟩=some (.int .i64 W.next)∧w'.cell? ⟨w.heap.size,4,none⟩=some (.slice (some ⟨ab,ao,none⟩) W.sn c2)∧w'.cell? ⟨w.heap.size,5,none⟩=some (.slice a3 W.pn c3)∧w'.cell? ⟨ab,ao+k*6+2,none⟩=some (.int .i64 (W.sets k).prev)) w' from fun w' hb=>by
  have hx:=HX6.out.below hb
  exact⟨hx.1.1,hx.2.1.1,hx.2.2.1.1,hx.2.2.2.1.1,hx.2.2.2.2.1.1,hx.2.2.2.2.2.1,(HSK.out.below (below_next hB6 hb)).c2⟩)
 refine wp_region_held_drew (S:=(fun w':World=>w'.cell? ⟨w.heap.size,0,none⟩=some (.slice a0 W.pool.n c0)∧w'.cell? ⟨w.heap.size,1,none⟩=some (.slice a1 W.pool.hn c1)∧w'.cell? ⟨w.heap.size,2,none⟩=some (.int .i64 W.time)∧w'.cell? ⟨w.heap.size,3,none⟩=some (.int .i64 W.next)∧w'.cell? ⟨w.heap.size,4,none⟩=some (.slice (some ⟨ab,ao,none⟩) W.sn c2)∧w'.cell? ⟨w.heap.size,5,none⟩=some (.slice a3 W.pn c3)∧w'.cell? ⟨ab,ao+k*6+2,none⟩=some (.int .i64 (W.sets k).prev))) (by kernel_rfl) (HKP.out _ hq0) (fun hHeld=>?_)
 generalize w6.drew=q0 at hHeld hq0 ⊢
 refine' join_oneH (fun hfin=>_) _
 rotate_left
 ·skip
  refine tk 0 (h:=tk 1 (h:=tk 2 (h:=tk 3 (h:=tk 4 (h:=tk 5 (h:=tk 6 (h:=?_)))))))
  refine rd [7,11] (rc (fun K hK=>?_) (rc (fun K hK=>?_) .nil))
  ·skip
   go_simp
   go_at_call 27
   refine(l04Ahead_any _ _ _ _ lo hi W (W.sets k).prev _ (Hp.out.below (below_next hB6 hq0))).mono ?_
   rintro e w4 ⟨s,b,t,rfl,hA,hb4⟩
   (try go_wp2_with fail)
   refine hK.out _ _ (HKP.out _ (below_next hq0 hb4)) ?_
   clear hK K
   intro hHeld
   try simp only [Act.put,s1,s2,s3]
   refine tk 8 (h:=tk 9 (h:=tk 10 (h:=?_)))
   refine rd [11] (rc (fun K hK=>?_) .nil)
   have ha4:=below_alloc w4 (.cells #[.int .i64 0,.int .i64 0] 56)
   go_simp
   (try go_wp2_with fail)
   refine hK.out _ _ (HKP.out _ (below_next (below_next hq0 hb4) ha4)) ?_
   clear hK K
   intro hHeld
   try simp only [Act.put,s1,s2,s3]
   refine rd [12] (rc (fun K hK=>?_) .nil)
   have ha5:=below_alloc w4 (.cells #[.int .i64 s,.int .i64 b] 56)
   go_simp
   (try go_wp2_with fail)
   refine hK.out _ _ (HKP.out _ (below_next (below_next hq0 hb4) ha5)) ?_
   clear hK K
   intro hHeld
   try simp only [Act.put,s1,s2,s3]
   refine tk 13 (h:=?_)
   have hBq:Below w6.heap.size w6 (w4.alloc (.cells #[.int .i64 s,.int .i64 b] 56)):=below_next (below_next hq0 hb4) ha5
   generalize (w4.alloc (.cells #[.int .i64 s,.int .i64 b] 56))=wq at hBq ⊢
   generalize (Value.pointer (some ⟨w4.heap.size,0,none⟩))=pv
   refine wpAnyH_done (by kernel_rfl) ?_ _
   clear hHeld ha4 ha5
   revert wq pv
   revert hA
   revert t b s
   exact hfin.out
  ·skip
   have ha4:=below_alloc q0 (.cells #[.int .i64 0,.int .i64 0] 56)
   have HP2:=hideW (Box2.new q0 (.int .i64 0) (.int .i64 0) 56)
   go_simp
   (try go_wp2_with fail)
   refine hK.out _ _ (HKP.out _ (below_next hq0 ha4)) ?_
   clear hK K
   intro hHeld
   try simp only [Act.put,s1,s2,s3]
   generalize q0.alloc (.cells #[.int .i64 0,.int .i64 0] 56)=qa at ha4 HP2 hHeld ⊢
   refine rd [7] (rc (fun K hK=>?_) .nil)
   go_simp
   go_at_call 27
   refine(l04Ahead_any _ _ _ _ lo hi W (W.sets k).prev _ (Hp.out.below (below_next hB6 (below_next hq0 ha4)))).mono ?_
   rintro e w4 ⟨s,b,t,rfl,hA,hb4⟩
   (try go_wp2_with fail)
   refine hK.out _ _ (HKP.out _ (below_next (below_next hq0 ha4) hb4)) ?_
   clear hK K
   intro hHeld
   try simp only [Act.put,s1,s2,s3]
   refine tk 8 (h:=tk 9 (h:=tk 10 (h:=?_)))
   refine rd [12] (rc (fun K hK=>?_) .nil)
   obtain⟨⟨m0,m0'⟩,⟨m1,m1'⟩⟩:=HP2.out.below hb4
   have hTs:Turned (fun i=>i=q0.heap.size) w4 ((w4.setCell ⟨q0.heap.size,0,none⟩ (.int .i64 s)).setCell ⟨q0.heap.size,1,none⟩ (.int .i64 b)):=(Turned.put _ _ _ _).trans (Turned.put _ _ _ _)
   have hbs:Below w6.heap.size w6 ((w4.setCell ⟨q0.heap.size,0,none⟩ (.int .i64 s)).setCell ⟨q0.heap.size,1,none⟩ (.int .i64 b)):=(below_next (below_next hq0 ha4) hb4).trans (hTs.below (B:=w6.heap.size) (by have:=hq0.size; have:=ha4.size; have:=hb4.size; omega) (fun i e=>by have:=hq0.size; omega))
   go_simp
   (try go_wp2_with fail)
   refine hK.out _ _ (HKP.out _ hbs) ?_
   clear hK K
   intro hHeld
   try simp only [Act.put,s1,s2,s3]
   clear m0 m0' m1 m1'
   refine tk 13 (h:=?_)
   have hBq:Below w6.heap.size w6 ((w4.setCell ⟨q0.heap.size,0,none⟩ (.int .i64 s)).setCell ⟨q0.heap.size,1,none⟩ (.int .i64 b)):=hbs
   generalize ((w4.setCell ⟨q0.heap.size,0,none⟩ (.int .i64 s)).setCell ⟨q0.heap.size,1,none⟩ (.int .i64 b))=wq at hBq ⊢
   generalize (Value.pointer (some ⟨q0.heap.size,0,none⟩))=pv
   refine wpAnyH_done (by kernel_rfl) ?_ _
   clear hHeld hTs hbs
   revert wq pv
   revert hA
   revert t b s
   exact hfin.out
 intro s b t hA wq hBq pv
 have Ht:=hideW (ahead_is hA (fun ⟨i,hi⟩=>by
  have h1:=((HSW.out.names.2.2.2.2.2 i hi.1).1).1
  have h2:=hi.2.1
  omega))
 clear hA
 have hz7q:=hBq.size
 have hBw:=below_next hB6 hBq
 have HX7:=hideW (HX6.out.below hBq)
 have HV7:=hideW (HV6.out.below hBq)
 have HR7q:=hideW (HR6.out.below hBq)
 go_upto_region 12 with fail
 obtain⟨⟨x0,-⟩,⟨x1,-⟩,-,-,⟨x4,-⟩,⟨x5,-⟩⟩:=HX7.out
 have q3:=(HSK.out.below hBw).c3
 have q4:=(HSK.out.below hBw).c4
 have HT:=hideW (HSW.out.sets k hk).1
 have hlen:=treeL_len W.pool (W.sets k).rs (W.sets k).rb
 obtain⟨T,hT⟩:∃T,T=treeL W.pool (W.sets k).rs (W.sets k).rb:=⟨_,rfl⟩
 rw [←hT] at hlen
 have HTT:=hideW hT
 clear hT
 go_region_held3 (fun w'=>w'.cell? ⟨w.heap.size,0,none⟩=some (.slice a0 W.pool.n c0)∧w'.cell? ⟨w.heap.size,1,none⟩=some (.slice a1 W.pool.hn c1)∧w'.cell? ⟨w.heap.size,4,none⟩=some (.slice (some ⟨ab,ao,none⟩) W.sn c2)∧w'.cell? ⟨ab,ao+k*6+3,none⟩=some (.int .i64 (W.sets k).rs)∧w'.cell? ⟨ab,ao+k*6+4,none⟩=some (.int .i64 (W.sets k).rb)) (go_keep)
  (first
   | (go_at_call 29; refine(l02Ptrs_any _ _ lo hi W.pool (W.sets k).rs (W.sets k).rb _ ((Hp.out.pool.below hBw).below (Below.refl _ _).drew) HSW.out.right HT.out).mono ?_; rw [←HTT.out]; rintro e w7 ⟨v7,rfl,hr7,hb7⟩; obtain⟨t7,tc7,rfl,-⟩:=owns_form hr7; have hb7':=below_undrew hb7; obtain⟨⟨y0,-⟩,⟨y1,-⟩,-,-,⟨y4,-⟩,⟨y5,-⟩⟩:=HX7.out.below hb7'; have q3b:=(hb7'.cell (lt_of_cell q3)).trans q3; have q4b:=(hb7'.cell (lt_of_cell q4)).trans q4; have HR7:=hideW hr7; clear hr7)
   | (go_at_call 28; refine(l03Split_any _ T.length 0 w7.heap.size (fstL T) (sndL T) t _ (by obtain⟨bb,ho,hbb⟩:=RowL.own HR7.out (by unfold maxLen; omega); exact ho.at (fun h0=>⟨Nat.zero_le _,(hbb h0).2.2⟩)) (by omega)).mono ?_; rintro e w8 ⟨vy,vo,rfl,hr8,ho8,-,hb8⟩; obtain⟨t8,tc8,rfl,-⟩:=owns_form hr8; obtain⟨s8,sc8,rfl,-⟩:=owns_form ho8; have hb8':=below_next hb7' hb8; obtain⟨⟨k0',-⟩,⟨k1,-⟩,-,-,⟨k4,-⟩,⟨k5,-⟩⟩:=HX7.out.below hb8'; have q3c:=(hb8'.cell (lt_of_cell q3)).trans q3; have q4c:=(hb8'.cell (lt_of_cell q4)).trans q4; have HR8:=hideW hr8; clear hr8 ho8))
 have hB8:=below_next hBw hb8'
 have hz8:=hb8'.size
 have hz7:=hb7'.size
 obtain⟨L,hL⟩:∃L,L=shedL W (W.sets k):=⟨_,rfl⟩
 have eL:youngL (fstL T) (sndL T) t T.length=L:=by
  rw [hL]
  unfold shedL
  rw [←HTT.out,←Ht.out]
 rw [eL] at HR8
 have hLl:L.length≤73:=by
  have:=young_len (fstL T) (sndL T) t T.length
  rw [eL] at this
  omega
 have HLL:=hideW hL
 simp only [eL]
 clear hL eL x0 x1 x4 x5 y0 y1 y4 y5 k0' k1 k4 k5 q3 q4 q3b q4b q3c q4c hb7 hb8
 go_wp2_with fail
 have hpn:W.pool.hn≤400:=by
  have h1:=((right_iff W.pool).2 HSW.out.right).2.1
  have h2:=HSW.out.right.1
  omega
 refine(l05Hold_any w5.heap.size w6.heap.size w8.heap.size P _ _ _ _ _ W.time W.next W.pool L w8 (HV7.out.below hb8') (((HIN.out.pool.below ha6).below hBq).below hb8') (fun j hj=>(HLT.out j (Or.inl hj)).2) (by obtain⟨bb,ho,hbb⟩:=RowL.own HR8.out (by unfold maxLen; omega); exact ho.at (fun h0=>⟨by have:=(hbb h0).2.1; omega,(hbb h0).2.2⟩)) (by omega) (Nat.le_refl _) (by omega) hpn).mono ?_
 rintro e w9 ⟨rfl,y1,hV9,hP9,hT9⟩
 have hLL:=HLL.out
 subst hLL
 obtain⟨b9,yc1,rfl⟩:∃a c,y1 = .slice a (holdAll W.pool (shedL W (W.sets k))).hn c:=by
  obtain⟨_,_,_,_,_,_,⟨_,a,c,e,_⟩,_⟩:=hP9
  exact⟨a,c,e⟩
 have hz9:=hT9.size
 have hold9:∀j,j<w4.heap.size→¬(j=w5.heap.size∨P j∨w8.heap.size≤j):=fun j hj h=>by
  rcases h with h | h | h
  ·omega
  ·have:=HLT.out j (Or.inl h); omega
  ·omega
 have HR9:=hideW ((HR7q.out.below hb8').turned hT9 (hold9 _ (by omega)))
 have hQ9:∀j,Q j→¬(j=w5.heap.size∨P j∨w8.heap.size≤j):=fun j hj h=>by
  have:=HLT.out j (Or.inr (Or.inl hj))
  rcases h with h | h | h
  ·omega
  ·exact HIN.out.pq j h hj
  ·omega
 have hR9:∀j,R j→¬(j=w5.heap.size∨P j∨w8.heap.size≤j):=fun j hj h=>by
  have:=HLT.out j (Or.inr (Or.inr hj))
  rcases h with h | h | h
  ·omega
  ·exact HIN.out.pr j h hj
  ·omega
 have hS9:=(((HSO.out.below ha6).below hBq).below hb8').turned hT9 (fun j hj=>hQ9 j (HSQ.out j hj))
 have hZ9:=((((HIN.out.snaps.turned (Turned.of_below (S:=fun _=>False) ha6) (fun _ _ h=>h)).turned (Turned.of_below (S:=fun _=>False) hBq) (fun _ _ h=>h)).turned (Turned.of_below (S:=fun _=>False) hb8') (fun _ _ h=>h))).turned hT9 (fun j hj=>hR9 j hj)
 have hel9:∀i,i<W.sn→SetOwn w9 sb (so+i*6) (kb i) (kv i) (W.sets i):=fun i hi=>by
  obtain⟨off',c',ev,h⟩:=hS9.nth hi
  simp only [Value.slice.injEq,Option.some.injEq,Addr.mk.injEq,and_true,true_and] at ev
  obtain⟨rfl,rfl⟩:=ev
  exact h
 have h8n:=Hw.out.names.sets.1
 obtain⟨A2,hA2,HA2⟩:∃A2,(if lc2=k+1 then some (⟨sb,so,none⟩:Addr)else some ⟨sb,so+(k+1)*6,none⟩)=A2∧Hid (0<W.sn - (k+1)→A2=some ⟨sb,so+(k+1)*6,none⟩):=⟨_,rfl,fun h=>if_neg (by omega)⟩
 have hb9d:Below w9.heap.size w9 w9.drew:=(Below.refl _ _).drew
 obtain⟨ra,rcap,w10,da,dcap,w11,hr1,hr2,hb10,hb11,hdcap,hdform⟩:=run_drop6 w9.drew sb so W.sn k lc2 (lc2 - (k+1)) (some ⟨sb,so,none⟩) A2 (fun i=>cellSet W.sets kv (i / 6) (i % 6)) (fun i hi=>by
  have h:=hel9 (i / 6) (by omega)
  have h1:=setOwn_cellD h (i % 6) (by omega)
  rw [show so+i / 6*6+i % 6=so+i by omega] at h1
  exact⟨h1,cell_oneS h (i % 6)⟩) hk (by omega) (fun _=>rfl) HA2.out
 have hb10':Below w9.heap.size w9 w10:=below_undrew hb10
 have hb11':Below w9.heap.size w9 w11:=below_undrew hb11
 have hz11:=hb11'.size
 have HV0:=hideW (hV9.below hb9d)
 have HVa:=hideW ((hV9.below hb9d).below (below_alloc w9.drew (.cells #[] 61)))
 have HV1:=hideW (hV9.below hb10')
 have HV2:=hideW (hV9.below hb11')
 have HR1:=hideW hr1
 have HR2:=hideW hr2
 have HDf:=hideW hdform
 have HV9:=hideW hV9
 have HP9:=hideW hP9
 have HSO9:=hideW hS9
 have HZ9:=hideW hZ9
 have HT9:=hideW hT9
 have hkc:k≤lc2:=by omega
 have hkn:k≤W.sn:=by omega
 have hkp:k+1≤W.sn:=by omega
 have hkc1:k+1≤lc2:=by omega
 have h00:(0:Int)≤(k:Int):=by omega
 have h01:(0:Int)≤(k:Int)+1:=by omega
 have h02:(k:Int)+1≤(W.sn:Int):=by omega
 have h03:(k:Int)≤(W.sn:Int):=by omega
 have h04:(k:Int)≤(lc2:Int):=by omega
 have hwr:IntKind.i64.wrap ((k:Int)+1)=((k+1:Nat):Int):=by first | (rw [wrap_small (by omega) (by omega)]; rfl) | (rw [wrap_small _ (by omega) (by omega)]; rfl)
 clear hr1 hr2 hdform hV9 hP9 hS9 hZ9 hT9 hel9 hb10 hb11
 go_upto_region 14 with fail
 refine wp_region_held_drew (S:=fun _=>True) (by kernel_rfl) trivial (fun hHeld=>?_)
 generalize w9.drew=q1 at hHeld HV0 HVa HR1 hb9d ⊢
 refine' join_oneH (fun hfin=>_) _
 rotate_left
 ·skip
  refine tk 1 (h:=tk 3 (h:=tk 6 (h:=tk 8 (h:=tk 9 (h:=?_)))))
  refine rd [0,2,7] (rc (fun K hK=>?_) (rc (fun K hK=>?_) (rc (fun K hK=>?_) .nil)))
  ·go_simp
   (try go_wp2_with fail)
   refine hK.out _ _ (trivial) ?_
   clear hK K
   intro hHeld
   try simp only [Act.put,s1,s2,s3]
   refine rd [2,7] (rc (fun K hK=>?_) (rc (fun K hK=>?_) .nil))
   ·obtain⟨-,-,-,-,⟨x4s,-⟩,-⟩:=HVa.out
    go_simp
    (try go_wp2_with fail)
    refine hK.out _ _ (trivial) ?_
    clear hK K
    intro hHeld
    try simp only [Act.put,s1,s2,s3]
    clear x4s
    refine tk 4 (h:=?_)
    refine rd [5,7] (rc (fun K hK=>?_) (rc (fun K hK=>?_) .nil))
    ·refine step_append_run rfl (.tmp 59) (.tmp 63) 34 rfl _ _ _ rfl rfl HR1.out ?_
     (try go_wp2_with fail)
     refine hK.out _ _ (trivial) ?_
     clear hK K
     intro hHeld
     try simp only [Act.put,s1,s2,s3]
     refine rd [7] (rc (fun K hK=>?_) .nil)
     obtain⟨-,-,-,-,⟨x4s,-⟩,-⟩:=HV1.out
     go_simp
     (try go_wp2_with fail)
     refine hK.out _ _ (trivial) ?_
     clear hK K
     intro hHeld
     try simp only [Act.put,s1,s2,s3]
     clear x4s
     refine tk 10 (h:=?_)
     refine rd [11] (rc (fun K hK=>?_) .nil)
     refine step_append_run rfl (.tmp 64) (.tmp 69) 34 rfl _ _ _ rfl rfl HR2.out ?_
     (try go_wp2_with fail)
     refine hK.out _ _ (trivial) ?_
     clear hK K
     intro hHeld
     try simp only [Act.put,s1,s2,s3]
     refine tk 12 (h:=?_)
     refine rd [13] (rc (fun K hK=>?_) .nil)
     obtain⟨-,-,-,-,⟨x4s,x4t⟩,-⟩:=HV2.out
     go_simp
     (try go_wp2_with fail)
     refine hK.out _ _ (trivial) ?_
     clear hK K
     intro hHeld
     try simp only [Act.put,s1,s2,s3]
     clear x4s x4t
     refine wpAnyH_done (by kernel_rfl) ?_ _
     exact hfin.out
    ·obtain⟨-,-,-,-,⟨x4s,-⟩,-⟩:=HVa.out
     go_simp
     (try go_wp2_with fail)
     refine hK.out _ _ (trivial) ?_
     clear hK K
     intro hHeld
     try simp only [Act.put,s1,s2,s3]
     clear x4s
     refine tk 10 (h:=?_)
     refine rd [5] (rc (fun K hK=>?_) .nil)
     refine step_append_run rfl (.tmp 59) (.tmp 63) 34 rfl _ _ _ rfl rfl HR1.out ?_
     (try go_wp2_with fail)
     refine hK.out _ _ (trivial) ?_
     clear hK K
     intro hHeld
     try simp only [Act.put,s1,s2,s3]
     refine rd [11] (rc (fun K hK=>?_) .nil)
     refine step_append_run rfl (.tmp 64) (.tmp 69) 34 rfl _ _ _ rfl rfl HR2.out ?_
     (try go_wp2_with fail)
     refine hK.out _ _ (trivial) ?_
     clear hK K
     intro hHeld
     try simp only [Act.put,s1,s2,s3]
     refine tk 12 (h:=?_)
     refine rd [13] (rc (fun K hK=>?_) .nil)
     obtain⟨-,-,-,-,⟨x4s,x4t⟩,-⟩:=HV2.out
     go_simp
     (try go_wp2_with fail)
     refine hK.out _ _ (trivial) ?_
     clear hK K
     intro hHeld
     try simp only [Act.put,s1,s2,s3]
     clear x4s x4t
     refine wpAnyH_done (by kernel_rfl) ?_ _
     exact hfin.out
   ·obtain⟨-,-,-,-,⟨x4s,-⟩,-⟩:=HVa.out
    go_simp
    (try go_wp2_with fail)
    refine hK.out _ _ (trivial) ?_
    clear hK K
    intro hHeld
    try simp only [Act.put,s1,s2,s3]
    clear x4s
    refine tk 10 (h:=?_)
    refine rd [2] (rc (fun K hK=>?_) .nil)
    obtain⟨-,-,-,-,⟨x4s,-⟩,-⟩:=HVa.out
    go_simp
    (try go_wp2_with fail)
    refine hK.out _ _ (trivial) ?_
    clear hK K
    intro hHeld
    try simp only [Act.put,s1,s2,s3]
    clear x4s
    refine tk 4 (h:=?_)
    refine rd [5] (rc (fun K hK=>?_) .nil)
    refine step_append_run rfl (.tmp 59) (.tmp 63) 34 rfl _ _ _ rfl rfl HR1.out ?_
    (try go_wp2_with fail)
    refine hK.out _ _ (trivial) ?_
    clear hK K
    intro hHeld
    try simp only [Act.put,s1,s2,s3]
    refine rd [11] (rc (fun K hK=>?_) .nil)
    refine step_append_run rfl (.tmp 64) (.tmp 69) 34 rfl _ _ _ rfl rfl HR2.out ?_
    (try go_wp2_with fail)
    refine hK.out _ _ (trivial) ?_
    clear hK K
    intro hHeld
    try simp only [Act.put,s1,s2,s3]
    refine tk 12 (h:=?_)
    refine rd [13] (rc (fun K hK=>?_) .nil)
    obtain⟨-,-,-,-,⟨x4s,x4t⟩,-⟩:=HV2.out
    go_simp
    (try go_wp2_with fail)
    refine hK.out _ _ (trivial) ?_
    clear hK K
    intro hHeld
    try simp only [Act.put,s1,s2,s3]
    clear x4s x4t
    refine wpAnyH_done (by kernel_rfl) ?_ _
    exact hfin.out
  ·obtain⟨-,-,-,-,⟨x4s,-⟩,-⟩:=HV0.out
   go_simp
   (try go_wp2_with fail)
   refine hK.out _ _ (trivial) ?_
   clear hK K
   intro hHeld
   try simp only [Act.put,s1,s2,s3]
   clear x4s
   refine tk 4 (h:=?_)
   refine rd [0,7] (rc (fun K hK=>?_) (rc (fun K hK=>?_) .nil))
   ·go_simp
    (try go_wp2_with fail)
    refine hK.out _ _ (trivial) ?_
    clear hK K
    intro hHeld
    try simp only [Act.put,s1,s2,s3]
    refine rd [5,7] (rc (fun K hK=>?_) (rc (fun K hK=>?_) .nil))
    ·refine step_append_run rfl (.tmp 59) (.tmp 63) 34 rfl _ _ _ rfl rfl HR1.out ?_
     (try go_wp2_with fail)
     refine hK.out _ _ (trivial) ?_
     clear hK K
     intro hHeld
     try simp only [Act.put,s1,s2,s3]
     refine rd [7] (rc (fun K hK=>?_) .nil)
     obtain⟨-,-,-,-,⟨x4s,-⟩,-⟩:=HV1.out
     go_simp
     (try go_wp2_with fail)
     refine hK.out _ _ (trivial) ?_
     clear hK K
     intro hHeld
     try simp only [Act.put,s1,s2,s3]
     clear x4s
     refine tk 10 (h:=?_)
     refine rd [11] (rc (fun K hK=>?_) .nil)
     refine step_append_run rfl (.tmp 64) (.tmp 69) 34 rfl _ _ _ rfl rfl HR2.out ?_
     (try go_wp2_with fail)
     refine hK.out _ _ (trivial) ?_
     clear hK K
     intro hHeld
     try simp only [Act.put,s1,s2,s3]
     refine tk 12 (h:=?_)
     refine rd [13] (rc (fun K hK=>?_) .nil)
     obtain⟨-,-,-,-,⟨x4s,x4t⟩,-⟩:=HV2.out
     go_simp
     (try go_wp2_with fail)
     refine hK.out _ _ (trivial) ?_
     clear hK K
     intro hHeld
     try simp only [Act.put,s1,s2,s3]
     clear x4s x4t
     refine wpAnyH_done (by kernel_rfl) ?_ _
     exact hfin.out
    ·obtain⟨-,-,-,-,⟨x4s,-⟩,-⟩:=HVa.out
     go_simp
     (try go_wp2_with fail)
     refine hK.out _ _ (trivial) ?_
     clear hK K
     intro hHeld
     try simp only [Act.put,s1,s2,s3]
     clear x4s
     refine tk 10 (h:=?_)
     refine rd [5] (rc (fun K hK=>?_) .nil)
     refine step_append_run rfl (.tmp 59) (.tmp 63) 34 rfl _ _ _ rfl rfl HR1.out ?_
     (try go_wp2_with fail)
     refine hK.out _ _ (trivial) ?_
     clear hK K
     intro hHeld
     try simp only [Act.put,s1,s2,s3]
     refine rd [11] (rc (fun K hK=>?_) .nil)
     refine step_append_run rfl (.tmp 64) (.tmp 69) 34 rfl _ _ _ rfl rfl HR2.out ?_
     (try go_wp2_with fail)
     refine hK.out _ _ (trivial) ?_
     clear hK K
     intro hHeld
     try simp only [Act.put,s1,s2,s3]
     refine tk 12 (h:=?_)
     refine rd [13] (rc (fun K hK=>?_) .nil)
     obtain⟨-,-,-,-,⟨x4s,x4t⟩,-⟩:=HV2.out
     go_simp
     (try go_wp2_with fail)
     refine hK.out _ _ (trivial) ?_
     clear hK K
     intro hHeld
     try simp only [Act.put,s1,s2,s3]
     clear x4s x4t
     refine wpAnyH_done (by kernel_rfl) ?_ _
     exact hfin.out
   ·obtain⟨-,-,-,-,⟨x4s,-⟩,-⟩:=HV0.out
    go_simp
    (try go_wp2_with fail)
    refine hK.out _ _ (trivial) ?_
    clear hK K
    intro hHeld
    try simp only [Act.put,s1,s2,s3]
    clear x4s
    refine tk 10 (h:=?_)
    refine rd [0] (rc (fun K hK=>?_) .nil)
    go_simp
    (try go_wp2_with fail)
    refine hK.out _ _ (trivial) ?_
    clear hK K
    intro hHeld
    try simp only [Act.put,s1,s2,s3]
    refine rd [5] (rc (fun K hK=>?_) .nil)
    refine step_append_run rfl (.tmp 59) (.tmp 63) 34 rfl _ _ _ rfl rfl HR1.out ?_
    (try go_wp2_with fail)
    refine hK.out _ _ (trivial) ?_
    clear hK K
    intro hHeld
    try simp only [Act.put,s1,s2,s3]
    refine rd [11] (rc (fun K hK=>?_) .nil)
    refine step_append_run rfl (.tmp 64) (.tmp 69) 34 rfl _ _ _ rfl rfl HR2.out ?_
    (try go_wp2_with fail)
    refine hK.out _ _ (trivial) ?_
    clear hK K
    intro hHeld
    try simp only [Act.put,s1,s2,s3]
    refine tk 12 (h:=?_)
    refine rd [13] (rc (fun K hK=>?_) .nil)
    obtain⟨-,-,-,-,⟨x4s,x4t⟩,-⟩:=HV2.out
    go_simp
    (try go_wp2_with fail)
    refine hK.out _ _ (trivial) ?_
    clear hK K
    intro hHeld
    try simp only [Act.put,s1,s2,s3]
    clear x4s x4t
    refine wpAnyH_done (by kernel_rfl) ?_ _
    exact hfin.out
  ·obtain⟨-,-,-,-,⟨x4s,-⟩,-⟩:=HV0.out
   go_simp
   (try go_wp2_with fail)
   refine hK.out _ _ (trivial) ?_
   clear hK K
   intro hHeld
   try simp only [Act.put,s1,s2,s3]
   clear x4s
   refine tk 10 (h:=?_)
   refine rd [0,2] (rc (fun K hK=>?_) (rc (fun K hK=>?_) .nil))
   ·go_simp
    (try go_wp2_with fail)
    refine hK.out _ _ (trivial) ?_
    clear hK K
    intro hHeld
    try simp only [Act.put,s1,s2,s3]
    refine rd [2] (rc (fun K hK=>?_) .nil)
    obtain⟨-,-,-,-,⟨x4s,-⟩,-⟩:=HVa.out
    go_simp
    (try go_wp2_with fail)
    refine hK.out _ _ (trivial) ?_
    clear hK K
    intro hHeld
    try simp only [Act.put,s1,s2,s3]
    clear x4s
    refine tk 4 (h:=?_)
    refine rd [5] (rc (fun K hK=>?_) .nil)
    refine step_append_run rfl (.tmp 59) (.tmp 63) 34 rfl _ _ _ rfl rfl HR1.out ?_
    (try go_wp2_with fail)
    refine hK.out _ _ (trivial) ?_
    clear hK K
    intro hHeld
    try simp only [Act.put,s1,s2,s3]
    refine rd [11] (rc (fun K hK=>?_) .nil)
    refine step_append_run rfl (.tmp 64) (.tmp 69) 34 rfl _ _ _ rfl rfl HR2.out ?_
    (try go_wp2_with fail)
    refine hK.out _ _ (trivial) ?_
    clear hK K
    intro hHeld
    try simp only [Act.put,s1,s2,s3]
    refine tk 12 (h:=?_)
    refine rd [13] (rc (fun K hK=>?_) .nil)
    obtain⟨-,-,-,-,⟨x4s,x4t⟩,-⟩:=HV2.out
    go_simp
    (try go_wp2_with fail)
    refine hK.out _ _ (trivial) ?_
    clear hK K
    intro hHeld
    try simp only [Act.put,s1,s2,s3]
    clear x4s x4t
    refine wpAnyH_done (by kernel_rfl) ?_ _
    exact hfin.out
   ·obtain⟨-,-,-,-,⟨x4s,-⟩,-⟩:=HV0.out
    go_simp
    (try go_wp2_with fail)
    refine hK.out _ _ (trivial) ?_
    clear hK K
    intro hHeld
    try simp only [Act.put,s1,s2,s3]
    clear x4s
    refine tk 4 (h:=?_)
    refine rd [0] (rc (fun K hK=>?_) .nil)
    go_simp
    (try go_wp2_with fail)
    refine hK.out _ _ (trivial) ?_
    clear hK K
    intro hHeld
    try simp only [Act.put,s1,s2,s3]
    refine rd [5] (rc (fun K hK=>?_) .nil)
    refine step_append_run rfl (.tmp 59) (.tmp 63) 34 rfl _ _ _ rfl rfl HR1.out ?_
    (try go_wp2_with fail)
    refine hK.out _ _ (trivial) ?_
    clear hK K
    intro hHeld
    try simp only [Act.put,s1,s2,s3]
    refine rd [11] (rc (fun K hK=>?_) .nil)
    refine step_append_run rfl (.tmp 64) (.tmp 69) 34 rfl _ _ _ rfl rfl HR2.out ?_
    (try go_wp2_with fail)
    refine hK.out _ _ (trivial) ?_
    clear hK K
    intro hHeld
    try simp only [Act.put,s1,s2,s3]
    refine tk 12 (h:=?_)
    refine rd [13] (rc (fun K hK=>?_) .nil)
    obtain⟨-,-,-,-,⟨x4s,x4t⟩,-⟩:=HV2.out
    go_simp
    (try go_wp2_with fail)
    refine hK.out _ _ (trivial) ?_
    clear hK K
    intro hHeld
    try simp only [Act.put,s1,s2,s3]
    clear x4s x4t
    refine wpAnyH_done (by kernel_rfl) ?_ _
    exact hfin.out
 go_upto_region 15 with fail
 have hTp:=Turned.put w11 w5.heap.size 4 (.slice da (W.sn - 1) dcap)
 have hTz:Turned (fun i=>i=w5.heap.size) w9 (w11.setCell ⟨w5.heap.size,4,none⟩ (.slice da (W.sn - 1) dcap)):=(Turned.of_below hb11').trans hTp
 have hzz:=hTp.size
 have HVz:=hideW (show Box6 (w11.setCell ⟨w5.heap.size,4,none⟩ (.slice da (W.sn - 1) dcap)) w5.heap.size (.slice l0 W.pool.n lc0) (.slice b9 (holdAll W.pool (shedL W (W.sets k))).hn yc1) (.int .i64 W.time) (.int .i64 W.next) (.slice da (W.sn - 1) dcap) (.slice l3 W.pn lc3)from⟨HV2.out.1.other _ (Or.inr (by decide)),HV2.out.2.1.other _ (Or.inr (by decide)),HV2.out.2.2.1.other _ (Or.inr (by decide)),HV2.out.2.2.2.1.other _ (Or.inr (by decide)),HV2.out.2.2.2.2.1.set _,HV2.out.2.2.2.2.2.other _ (Or.inr (by decide))⟩)
 have HRy:=hideW (HR9.out.turned hTz (fun h=>by omega))
 have hbY:Below w.heap.size w (w11.setCell ⟨w5.heap.size,4,none⟩ (.slice da (W.sn - 1) dcap)):=(hB8.trans (HT9.out.below (B:=w.heap.size) (by omega) (fun i h=>by
  rcases h with h | h | h
  ·omega
  ·have:=HLT.out i (Or.inl h); omega
  ·omega))).trans (hTz.below (B:=w.heap.size) (by omega) (fun i h=>by omega))
 obtain⟨g,hg⟩:∃g,0<W.sn - 1→da=some ⟨g,0,none⟩∧w9.heap.size≤g∧g<w11.heap.size∧∀i,i<(W.sn - 1)*6→Cell w11 g i (if i<k*6 then(fun i=>cellSet W.sets kv (i / 6) (i % 6)) i else(fun i=>cellSet W.sets kv (i / 6) (i % 6)) (i+6)):=by
  by_cases h0:0<W.sn - 1
  ·obtain⟨g,h1,h2,h3,h4⟩:=HDf.out h0
   exact⟨g,fun _=>⟨h1,h2,h3,h4⟩⟩
  ·exact⟨w9.heap.size,fun h=>absurd h h0⟩
 have hgd:∀i,i<W.sn→0<(W.sets i).dn→¬kb i=w5.heap.size∧(0<W.sn - 1→kb i≠g):=fun i hi h0=>by
  have:=HLT.out _ (Or.inr (Or.inl (HSQ.out _ (Or.inr ⟨i,hi,h0,rfl⟩))))
  exact⟨by omega,fun h=>by have:=(hg h).2.1; omega⟩
 obtain⟨g',hg'⟩:∃g',(0<W.sn - 1→g'=g)∧(¬0<W.sn - 1→g'=w9.heap.size):=by
  by_cases h0:0<W.sn - 1
  ·exact⟨g,fun _=>rfl,fun h=>absurd h0 h⟩
  ·exact⟨w9.heap.size,fun h=>absurd h h0,fun _=>rfl⟩
 obtain⟨d1,d2,d3⟩:=sets_delN (g:=g') (a2:=da) (cap:=dcap) HSO9.out HSAp.out hk hTz (fun i hi h0=>⟨(hgd i hi h0).1,by
  by_cases h1:0<W.sn - 1
  ·rw [hg'.1 h1]; exact(hgd i hi h0).2 h1
  ·rw [hg'.2 h1]
   have:=HLT.out _ (Or.inr (Or.inl (HSQ.out _ (Or.inr ⟨i,hi,h0,rfl⟩))))
   omega⟩) hdcap (fun h0=>by
  obtain⟨e1,e2,e3,e4⟩:=hg h0
  rw [hg'.1 h0]
  refine⟨e1,fun i hi r hr=>?_⟩
  have h:=(e4 (i*6+r) (by omega)).other (b':=w5.heap.size) (o':=4) (.slice da (W.sn - 1) dcap) (Or.inl (by omega))
  dsimp only at h
  by_cases e:i<k
  ·rw [if_pos (by omega),show(i*6+r) / 6=i by omega,show(i*6+r) % 6=r by omega] at h
   have ec:cellSet (del W.sets k) (del kv k) i r=cellSet W.sets kv i r:=by unfold cellSet; rw [del_lo e,del_lo e]
   rw [ec]; exact h
  ·rw [if_neg (by omega),show(i*6+r+6) / 6=i+1 by omega,show(i*6+r+6) % 6=r by omega] at h
   have ec:cellSet (del W.sets k) (del kv k) i r=cellSet W.sets kv (i+1) r:=by unfold cellSet; rw [del_hi e,del_hi e]
   rw [ec]; exact h)
 have HOz:=hideW (show WorldOwn (w11.setCell ⟨w5.heap.size,4,none⟩ (.slice da (W.sn - 1) dcap)) w4.heap.size ((w11.setCell ⟨w5.heap.size,4,none⟩ (.slice da (W.sn - 1) dcap))).heap.size (.slice l0 W.pool.n lc0) (.slice b9 (holdAll W.pool (shedL W (W.sets k))).hn yc1) (.slice da (W.sn - 1) dcap) (.slice l3 W.pn lc3) (dropW W k)from by
  have hq':∀j,SetsB g' (del kb k) (W.sn - 1) (del W.sets k) j→Q j∨(w9.heap.size≤j∧j<w11.heap.size):=fun j hj=>by
   rcases d3 j hj with⟨h0,rfl⟩ | ⟨i,hi,h0,rfl⟩
   ·rw [hg'.1 h0]; exact Or.inr ⟨(hg h0).2.1,(hg h0).2.2.1⟩
   ·exact Or.inl (HSQ.out _ (Or.inr ⟨i,hi,h0,rfl⟩))
  refine⟨(fun i=>P i∨(w8.heap.size≤i∧i<w9.heap.size)),_,R,⟨HP9.out.turned hTz (fun i hi e=>?_),⟨g',_,_,d1,d2,fun j hj=>hj⟩,HZ9.out.turned hTz (fun i hi e=>?_),fun i hi hq=>?_,fun i hi hq=>?_,fun i hi hq=>?_⟩,fun i hi=>?_⟩
  ·rcases hi with h | h
   ·have:=HLT.out i (Or.inl h); omega
   ·omega
  ·have:=HLT.out i (Or.inr (Or.inr hi)); omega
  ·rcases hq' i hq with h' | h'
   ·have:=HLT.out i (Or.inr (Or.inl h'))
    rcases hi with h | h
    ·exact HIN.out.pq i h h'
    ·omega
   ·rcases hi with h | h
    ·have:=HLT.out i (Or.inl h); omega
    ·omega
  ·have:=HLT.out i (Or.inr (Or.inr hq))
   rcases hi with h | h
   ·exact HIN.out.pr i h hq
   ·omega
  ·have:=HLT.out i (Or.inr (Or.inr hq))
   rcases hq' i hi with h' | h'
   ·exact HIN.out.qr i h' hq
   ·omega
  ·rcases hi with(h | h) | h | h
   ·have:=HLT.out i (Or.inl h); omega
   ·omega
   ·rcases hq' i h with h' | h'
    ·have:=HLT.out i (Or.inr (Or.inl h')); omega
    ·omega
   ·have:=HLT.out i (Or.inr (Or.inr h)); omega)
 clear hTz hTp d1 d2 d3
 generalize (w11.setCell ⟨w5.heap.size,4,none⟩ (.slice da (W.sn - 1) dcap))=wz at HVz HRy hzz hbY HOz ⊢
 obtain⟨⟨v0,-⟩,⟨v1,-⟩,⟨v2,-⟩,⟨v3,-⟩,⟨v4,-⟩,⟨v5,-⟩⟩:=HVz.out
 obtain⟨⟨r0,g0⟩,⟨r1,g1⟩,⟨r2,g2⟩,⟨r3,g3⟩,⟨r4,g4⟩,⟨r5,g5⟩,⟨r6,g6⟩,⟨r7,g7⟩,⟨r8,g8⟩⟩:=HRy.out
 go_wp2_with fail
 have HRz:=HRy.out.put (.slice l0 W.pool.n lc0) (.slice b9 (holdAll W.pool (shedL W (W.sets k))).hn yc1) (.int .i64 W.time) (.int .i64 W.next) (.slice da (W.sn - 1) dcap) (.slice l3 W.pn lc3) (.int .i64 0) (.int .i64 ((shedL W (W.sets k)).length:Int)) (.int .i64 0)
 have hT:=Turned.put9 wz (w.heap.size+1) (.slice l0 W.pool.n lc0) (.slice b9 (holdAll W.pool (shedL W (W.sets k))).hn yc1) (.int .i64 W.time) (.int .i64 W.next) (.slice da (W.sn - 1) dcap) (.slice l3 W.pn lc3) (.int .i64 0) (.int .i64 ((shedL W (W.sets k)).length:Int)) (.int .i64 0)
 clear r0 g0 r1 g1 r2 g2 r3 g3 r4 g4 r5 g5 r6 g6 r7 g7 r8 g8
 refine bodyPost_ret (v:=.agg #[.slice l0 W.pool.n lc0,.slice b9 (holdAll W.pool (shedL W (W.sets k))).hn yc1,.int .i64 W.time,.int .i64 W.next,.slice da (W.sn - 1) dcap,.slice l3 W.pn lc3,.int .i64 0,.int .i64 ((shedL W (W.sets k)).length:Int),.int .i64 0]) (by simp [results,Tryz.results7,go_sem,HRz.1.1,HRz.2.1.1,HRz.2.2.1.1,HRz.2.2.2.1.1,HRz.2.2.2.2.1.1,HRz.2.2.2.2.2.1.1,HRz.2.2.2.2.2.2.1.1,HRz.2.2.2.2.2.2.2.1.1,HRz.2.2.2.2.2.2.2.2.1]) rfl ⟨none,⟨dropW W k,0,((shedL W (W.sets k)).length:Int),0⟩,Or.inr (Or.inr (Or.inr ⟨HL.out,Hw.out,Hnm.out,HQ1.out,rfl⟩)),fun _=>⟨k,HN.out,rfl⟩,?_⟩
 show NewWOut ⟨dropW W k,0,((shedL W (W.sets k)).length:Int),0⟩ w _ _
 exact⟨_,_,_,_,rfl,(HOz.out.turned hT (fun i e=>by omega)).wide (by omega) hT.size,hbY.trans (hT.below (B:=w.heap.size) hbY.size (fun i e=>by omega))⟩
end Go.Proofs.YtihdcanckbkgfaaGreatDoor
