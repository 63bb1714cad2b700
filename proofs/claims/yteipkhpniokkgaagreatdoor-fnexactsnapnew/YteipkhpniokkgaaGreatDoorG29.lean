/- What spec.SnapNew answers. -/
import Derived.Test.YteipkhpniokkgaaGreatDoorG25
import Derived.Test.YteipkhpniokkgaaGreatDoorG26
import Derived.Test.YteipkhpniokkgaaGreatDoorG28
import Derived.Test.YteipkhpniokkgaaGreatDoorG1
import Derived.Test.YteipkhpniokkgaaGreatDoorG16
import Derived.Deep.DeepCutAuto
import Derived.Test.YteipkhpniokkgaaGreatDoorG18
namespace Go.Proofs.YteipkhpniokkgaaGreatDoor
open Go.RowKit
set_option linter.unusedVariables false
def AnsSnapNew(W:WorldD)(set name:ByteArray)(w:World)(e:Ending)(w':World):Prop:=∃r o,RefI W (∃i,i<2∧8000<((fun i=>match i with | 0=>set | _=>name) i).size) (∃i,i<1∧¬NameP ((fun i=>match i with  | _=>name) i)) 3 (fun i=>match i with | 0=>HasSet W set | 1=>¬∃i,i<W.pn∧(W.snaps i).set=set∧(W.snaps i).name=name | _=>RoomSnap W) (fun i=>match i with | 0=>2 | 1=>3 | _=>4) r∧(r=none→∃k,SetNo W set k∧o=⟨snapNewW W k name set,W.next,0,0⟩)∧NewWOut (outW r o) w e w'
theorem AnsSnapNew.ill{W:WorldD}{set name:ByteArray}{w w':World}{e:Ending}{i:Nat}(hr:RefI W (∃i,i<2∧8000<((fun i=>match i with | 0=>set | _=>name) i).size) (∃i,i<1∧¬NameP ((fun i=>match i with  | _=>name) i)) 3 (fun i=>match i with | 0=>HasSet W set | 1=>¬∃i,i<W.pn∧(W.snaps i).set=set∧(W.snaps i).name=name | _=>RoomSnap W) (fun i=>match i with | 0=>2 | 1=>3 | _=>4) (some i))(h:NewWOut (refuseW (errC i)) w e w'):AnsSnapNew W set name w e w':=⟨some i,refuseW 0,hr,fun e=>(by cases e),h⟩
theorem long2{a b:ByteArray}:(∃i,i<2∧8000<((fun i=>match i with | 0=>a | _=>b) i).size)↔(8000<a.size∨8000<b.size):=by
 constructor
 ·rintro⟨i,hi,h⟩
  rcases(by omega:i=0∨i=1)with rfl | rfl
  ·exact Or.inl h
  ·exact Or.inr h
 ·rintro(h | h)
  ·exact⟨0,by omega,h⟩
  ·exact⟨1,by omega,h⟩
theorem bad1{a:ByteArray}:(∃i,i<1∧¬NameP ((fun i=>match i with  | _=>a) i))↔¬NameP a:=by
 constructor
 ·rintro⟨i,hi,h⟩
  obtain rfl:i=0:=by omega
  exact h
 ·exact fun h=>⟨0,by omega,h⟩
set_option maxRecDepth 20000 in
set_option maxHeartbeats 2000000 in
theorem specSnapNew_any(v0 v1 v2 v3:Value)(lo hi:Nat)(W:WorldD)(set name:ByteArray)(w:World)(h:WorldAt w lo hi v0 v1 v2 v3 W)(b1:poolN W.pool≤1048576)(b2:W.sn≤1048576)(b3:W.pn≤1048576)(b4:DeadsN W)(hset:set.size≤maxLen)(hname:name.size≤maxLen) :
  Calls Tryz.prog 15 #[worldV v0 v1 v2 v3 W,.string set,.string name] w (AnsSnapNew W set name w):=by
 have Hp:=hideW h
 obtain⟨a0,c0,a1,c1,a2,c2,a3,c3,rfl,rfl,rfl,rfl⟩:=h.form
 have m1:=h.sets.1
 have m2:=h.snaps.1
 unfold maxLen at m1 m2
 clear h
 have Hz1:=hideW hset
 have Hz2:=hideW hname
 unfold maxLen at hset hname
 have ha0:=below_alloc w (.cells #[.slice a0 W.pool.n c0,.slice a1 W.pool.hn c1,.int .i64 W.time,.int .i64 W.next,.slice a2 W.sn c2,.slice a3 W.pn c3] 37)
 have ha1:=below_alloc (w.alloc (.cells #[.slice a0 W.pool.n c0,.slice a1 W.pool.hn c1,.int .i64 W.time,.int .i64 W.next,.slice a2 W.sn c2,.slice a3 W.pn c3] 37)) (.cells #[.slice none 0 0,.slice none 0 0,.int .i64 0,.int .i64 0,.slice none 0 0,.slice none 0 0,.int .i64 0,.int .i64 0,.int .i64 0] 39)
 have hb:=below_next ha0 ha1
 have HX:=hideW ((Box6.new w (.slice a0 W.pool.n c0) (.slice a1 W.pool.hn c1) (.int .i64 W.time) (.int .i64 W.next) (.slice a2 W.sn c2) (.slice a3 W.pn c3) 37).below ha1)
 have hr:=Box9.new (w.alloc (.cells #[.slice a0 W.pool.n c0,.slice a1 W.pool.hn c1,.int .i64 W.time,.int .i64 W.next,.slice a2 W.sn c2,.slice a3 W.pn c3] 37)) (.slice none 0 0) (.slice none 0 0) (.int .i64 0) (.int .i64 0) (.slice none 0 0) (.slice none 0 0) (.int .i64 0) (.int .i64 0) (.int .i64 0) 39
 rw [World.size_alloc] at hr
 have HR:=hideW hr
 have hz:((w.alloc (.cells #[.slice a0 W.pool.n c0,.slice a1 W.pool.hn c1,.int .i64 W.time,.int .i64 W.next,.slice a2 W.sn c2,.slice a3 W.pn c3] 37)).alloc (.cells #[.slice none 0 0,.slice none 0 0,.int .i64 0,.int .i64 0,.slice none 0 0,.slice none 0 0,.int .i64 0,.int .i64 0,.int .i64 0] 39)).heap.size≥w.heap.size+2:=by rw [World.size_alloc,World.size_alloc]; omega
 clear hr
 go_enter Tryz.func15,Tryz.ntmps15
 go_upto_region 1 with fail
 generalize (w.alloc (.cells #[.slice a0 W.pool.n c0,.slice a1 W.pool.hn c1,.int .i64 W.time,.int .i64 W.next,.slice a2 W.sn c2,.slice a3 W.pn c3] 37)).alloc (.cells #[.slice none 0 0,.slice none 0 0,.int .i64 0,.int .i64 0,.slice none 0 0,.slice none 0 0,.int .i64 0,.int .i64 0,.int .i64 0] 39)=W1 at hb HX HR hz ⊢
 clear ha0 ha1
 by_cases hl1:8000<set.size
 ·have a1:(8000:Int)<(set.size:Int):=by omega
  go_wp2_with fail
  refine(l05Ill_any 2 _).mono ?_
  rintro e wz ⟨rfl,hbz⟩
  have hbY:=below_next hb hbz
  have HRy:=hideW (HR.out.below hbz)
  obtain⟨⟨r0,g0⟩,⟨r1,g1⟩,⟨r2,g2⟩,⟨r3,g3⟩,⟨r4,g4⟩,⟨r5,g5⟩,⟨r6,g6⟩,⟨r7,g7⟩,⟨r8,g8⟩⟩:=HRy.out
  go_wp2_with fail
  have HRz:=HRy.out.put (.slice none 0 0) (.slice none 0 0) (.int .i64 0) (.int .i64 0) (.slice none 0 0) (.slice none 0 0) (.int .i64 0) (.int .i64 0) (.int .i64 2)
  have hT:=Turned.put9 wz (w.heap.size+1) (.slice none 0 0) (.slice none 0 0) (.int .i64 0) (.int .i64 0) (.slice none 0 0) (.slice none 0 0) (.int .i64 0) (.int .i64 0) (.int .i64 2)
  clear r0 g0 r1 g1 r2 g2 r3 g3 r4 g4 r5 g5 r6 g6 r7 g7 r8 g8
  refine bodyPost_ret (v:=.agg #[.slice none 0 0,.slice none 0 0,.int .i64 0,.int .i64 0,.slice none 0 0,.slice none 0 0,.int .i64 0,.int .i64 0,.int .i64 2]) (by simp [results,Tryz.results15,go_sem,HRz.1.1,HRz.2.1.1,HRz.2.2.1.1,HRz.2.2.2.1.1,HRz.2.2.2.2.1.1,HRz.2.2.2.2.2.1.1,HRz.2.2.2.2.2.2.1.1,HRz.2.2.2.2.2.2.2.1.1,HRz.2.2.2.2.2.2.2.2.1]) rfl (AnsSnapNew.ill (i:=1) (Or.inl ⟨long2.2 (Or.inl hl1),rfl⟩) ?_)
  exact⟨_,_,_,_,rfl,noW_own,hbY.trans (hT.below (B:=w.heap.size) hbY.size (fun k e=>by omega))⟩
 have e1:¬(8000:Int)<(set.size:Int):=by omega
 by_cases hl2:8000<name.size
 ·have a2:(8000:Int)<(name.size:Int):=by omega
  go_wp2_with fail
  refine(l05Ill_any 2 _).mono ?_
  rintro e wz ⟨rfl,hbz⟩
  have hbY:=below_next hb hbz
  have HRy:=hideW (HR.out.below hbz)
  obtain⟨⟨r0,g0⟩,⟨r1,g1⟩,⟨r2,g2⟩,⟨r3,g3⟩,⟨r4,g4⟩,⟨r5,g5⟩,⟨r6,g6⟩,⟨r7,g7⟩,⟨r8,g8⟩⟩:=HRy.out
  go_wp2_with fail
  have HRz:=HRy.out.put (.slice none 0 0) (.slice none 0 0) (.int .i64 0) (.int .i64 0) (.slice none 0 0) (.slice none 0 0) (.int .i64 0) (.int .i64 0) (.int .i64 2)
  have hT:=Turned.put9 wz (w.heap.size+1) (.slice none 0 0) (.slice none 0 0) (.int .i64 0) (.int .i64 0) (.slice none 0 0) (.slice none 0 0) (.int .i64 0) (.int .i64 0) (.int .i64 2)
  clear r0 g0 r1 g1 r2 g2 r3 g3 r4 g4 r5 g5 r6 g6 r7 g7 r8 g8
  refine bodyPost_ret (v:=.agg #[.slice none 0 0,.slice none 0 0,.int .i64 0,.int .i64 0,.slice none 0 0,.slice none 0 0,.int .i64 0,.int .i64 0,.int .i64 2]) (by simp [results,Tryz.results15,go_sem,HRz.1.1,HRz.2.1.1,HRz.2.2.1.1,HRz.2.2.2.1.1,HRz.2.2.2.2.1.1,HRz.2.2.2.2.2.1.1,HRz.2.2.2.2.2.2.1.1,HRz.2.2.2.2.2.2.2.1.1,HRz.2.2.2.2.2.2.2.2.1]) rfl (AnsSnapNew.ill (i:=1) (Or.inl ⟨long2.2 (Or.inr hl2),rfl⟩) ?_)
  exact⟨_,_,_,_,rfl,noW_own,hbY.trans (hT.below (B:=w.heap.size) hbY.size (fun k e=>by omega))⟩
 have e2:¬(8000:Int)<(name.size:Int):=by omega
 have HL:=hideW (show ¬(∃i,i<2∧8000<((fun i=>match i with | 0=>set | _=>name) i).size)from fun h=>by have:=long2.1 h; omega)
 clear hl1 hl2
 obtain⟨⟨x0,-⟩,⟨x1,-⟩,⟨x2,-⟩,⟨x3,-⟩,⟨x4,-⟩,⟨x5,-⟩⟩:=HX.out
 go_wp2_with fail
 clear x0 x1 x2 x3 x4 x5 e1 e2
 refine(specWorldRight_any _ _ _ _ lo hi W W1 (Hp.out.below hb)).mono ?_
 rintro e w2 ⟨⟨t,rfl,ht⟩,hb2⟩
 have hB2:=below_next hb hb2
 have HR2:=hideW (HR.out.below hb2)
 have HX2:=hideW (HX.out.below hb2)
 have hz2:=hb2.size
 clear hb2
 by_cases hw:SpecW W
 rotate_left
 ·obtain rfl:t=false:=bool_no ht hw
  have Hw:=hideW hw
  clear ht hw
  go_wp2_with fail
  refine(l05Ill_any 1 _).mono ?_
  rintro e wz ⟨rfl,hbz⟩
  have hbY:=below_next hB2 hbz
  have HRy:=hideW (HR2.out.below hbz)
  obtain⟨⟨r0,g0⟩,⟨r1,g1⟩,⟨r2,g2⟩,⟨r3,g3⟩,⟨r4,g4⟩,⟨r5,g5⟩,⟨r6,g6⟩,⟨r7,g7⟩,⟨r8,g8⟩⟩:=HRy.out
  go_wp2_with fail
  have HRz:=HRy.out.put (.slice none 0 0) (.slice none 0 0) (.int .i64 0) (.int .i64 0) (.slice none 0 0) (.slice none 0 0) (.int .i64 0) (.int .i64 0) (.int .i64 1)
  have hT:=Turned.put9 wz (w.heap.size+1) (.slice none 0 0) (.slice none 0 0) (.int .i64 0) (.int .i64 0) (.slice none 0 0) (.slice none 0 0) (.int .i64 0) (.int .i64 0) (.int .i64 1)
  clear r0 g0 r1 g1 r2 g2 r3 g3 r4 g4 r5 g5 r6 g6 r7 g7 r8 g8
  refine bodyPost_ret (v:=.agg #[.slice none 0 0,.slice none 0 0,.int .i64 0,.int .i64 0,.slice none 0 0,.slice none 0 0,.int .i64 0,.int .i64 0,.int .i64 1]) (by simp [results,Tryz.results15,go_sem,HRz.1.1,HRz.2.1.1,HRz.2.2.1.1,HRz.2.2.2.1.1,HRz.2.2.2.2.1.1,HRz.2.2.2.2.2.1.1,HRz.2.2.2.2.2.2.1.1,HRz.2.2.2.2.2.2.2.1.1,HRz.2.2.2.2.2.2.2.2.1]) rfl (AnsSnapNew.ill (i:=0) (Or.inr (Or.inl ⟨HL.out,Or.inl (fun h=>Hw.out ((world_iff W).1 h)),rfl⟩)) ?_)
  exact⟨_,_,_,_,rfl,noW_own,hbY.trans (hT.below (B:=w.heap.size) hbY.size (fun k e=>by omega))⟩
 obtain rfl:t=true:=ht.2 hw
 have Hw:=hideW ((world_iff W).2 hw)
 clear ht hw
 go_wp2_with fail
 refine(specName_any name w2 Hz2.out).mono ?_
 rintro e w2' ⟨⟨t,rfl,ht⟩,rfl⟩
 by_cases hw:NameP name
 rotate_left
 ·obtain rfl:t=false:=bool_no ht hw
  have Hnm:=hideW hw
  clear ht hw
  go_wp2_with fail
  refine(l05Ill_any 1 _).mono ?_
  rintro e wz ⟨rfl,hbz⟩
  have hbY:=below_next hB2 hbz
  have HRy:=hideW (HR2.out.below hbz)
  obtain⟨⟨r0,g0⟩,⟨r1,g1⟩,⟨r2,g2⟩,⟨r3,g3⟩,⟨r4,g4⟩,⟨r5,g5⟩,⟨r6,g6⟩,⟨r7,g7⟩,⟨r8,g8⟩⟩:=HRy.out
  go_wp2_with fail
  have HRz:=HRy.out.put (.slice none 0 0) (.slice none 0 0) (.int .i64 0) (.int .i64 0) (.slice none 0 0) (.slice none 0 0) (.int .i64 0) (.int .i64 0) (.int .i64 1)
  have hT:=Turned.put9 wz (w.heap.size+1) (.slice none 0 0) (.slice none 0 0) (.int .i64 0) (.int .i64 0) (.slice none 0 0) (.slice none 0 0) (.int .i64 0) (.int .i64 0) (.int .i64 1)
  clear r0 g0 r1 g1 r2 g2 r3 g3 r4 g4 r5 g5 r6 g6 r7 g7 r8 g8
  refine bodyPost_ret (v:=.agg #[.slice none 0 0,.slice none 0 0,.int .i64 0,.int .i64 0,.slice none 0 0,.slice none 0 0,.int .i64 0,.int .i64 0,.int .i64 1]) (by simp [results,Tryz.results15,go_sem,HRz.1.1,HRz.2.1.1,HRz.2.2.1.1,HRz.2.2.2.1.1,HRz.2.2.2.2.1.1,HRz.2.2.2.2.2.1.1,HRz.2.2.2.2.2.2.1.1,HRz.2.2.2.2.2.2.2.1.1,HRz.2.2.2.2.2.2.2.2.1]) rfl (AnsSnapNew.ill (i:=0) (Or.inr (Or.inl ⟨HL.out,Or.inr (bad1.2 Hnm.out),rfl⟩)) ?_)
  exact⟨_,_,_,_,rfl,noW_own,hbY.trans (hT.below (B:=w.heap.size) hbY.size (fun k e=>by omega))⟩
 obtain rfl:t=true:=ht.2 hw
 have Hnm:=hideW (show ¬(∃i,i<1∧¬NameP ((fun i=>match i with  | _=>name) i))from fun h=>bad1.1 h hw)
 clear ht hw
 obtain⟨⟨x0,-⟩,⟨x1,-⟩,⟨x2,-⟩,⟨x3,-⟩,⟨x4,-⟩,⟨x5,-⟩⟩:=HX2.out
 go_wp2_with fail
 clear x0 x1 x2 x3 x4 x5
 refine(l04Set_any _ _ _ _ lo hi W set _ (Hp.out.below hB2)).mono ?_
 rintro e w3 ⟨r,rfl,hF,hb3⟩
 have hB3:=below_next hB2 hb3
 have HR3:=hideW (HR2.out.below hb3)
 have HX3:=hideW (HX2.out.below hb3)
 have hz3:=hb3.size
 clear hb3
 rcases hF with⟨k,hk,hPk,hnok,rfl⟩ | ⟨hno,rfl⟩
 rotate_left
 ·have Hno:=hideW hno
  clear hno
  go_wp2_with fail
  refine(l05Ill_any 4 _).mono ?_
  rintro e wz ⟨rfl,hbz⟩
  have hbY:=below_next hB3 hbz
  have HRy:=hideW (HR3.out.below hbz)
  obtain⟨⟨r0,g0⟩,⟨r1,g1⟩,⟨r2,g2⟩,⟨r3,g3⟩,⟨r4,g4⟩,⟨r5,g5⟩,⟨r6,g6⟩,⟨r7,g7⟩,⟨r8,g8⟩⟩:=HRy.out
  go_wp2_with fail
  have HRz:=HRy.out.put (.slice none 0 0) (.slice none 0 0) (.int .i64 0) (.int .i64 0) (.slice none 0 0) (.slice none 0 0) (.int .i64 0) (.int .i64 0) (.int .i64 4)
  have hT:=Turned.put9 wz (w.heap.size+1) (.slice none 0 0) (.slice none 0 0) (.int .i64 0) (.int .i64 0) (.slice none 0 0) (.slice none 0 0) (.int .i64 0) (.int .i64 0) (.int .i64 4)
  clear r0 g0 r1 g1 r2 g2 r3 g3 r4 g4 r5 g5 r6 g6 r7 g7 r8 g8
  refine bodyPost_ret (v:=.agg #[.slice none 0 0,.slice none 0 0,.int .i64 0,.int .i64 0,.slice none 0 0,.slice none 0 0,.int .i64 0,.int .i64 0,.int .i64 4]) (by simp [results,Tryz.results15,go_sem,HRz.1.1,HRz.2.1.1,HRz.2.2.1.1,HRz.2.2.2.1.1,HRz.2.2.2.2.1.1,HRz.2.2.2.2.2.1.1,HRz.2.2.2.2.2.2.1.1,HRz.2.2.2.2.2.2.2.1.1,HRz.2.2.2.2.2.2.2.2.1]) rfl (AnsSnapNew.ill (i:=2) (Or.inr (Or.inr (Or.inl ⟨HL.out,Hw.out,Hnm.out,0,by omega,fun ⟨j,hj,h⟩=>Hno.out j hj h,fun j hj=>absurd hj (Nat.not_lt_zero _),rfl⟩))) ?_)
  exact⟨_,_,_,_,rfl,noW_own,hbY.trans (hT.below (B:=w.heap.size) hbY.size (fun k e=>by omega))⟩
 have HN:=hideW (show SetNo W set k from⟨hk,hPk,hnok⟩)
 clear hPk hnok
 have k0:¬(k:Int)<0:=by omega
 obtain⟨⟨x0,-⟩,⟨x1,-⟩,⟨x2,-⟩,⟨x3,-⟩,⟨x4,-⟩,⟨x5,-⟩⟩:=HX3.out
 go_wp2_with fail
 clear x0 x1 x2 x3 x4 x5
 refine(l05Named_any _ _ _ _ lo hi W set name _ (Hp.out.below hB3)).mono ?_
 rintro e w4 ⟨⟨t,rfl,ht⟩,hb4⟩
 have hB4:=below_next hB3 hb4
 have HR4:=hideW (HR3.out.below hb4)
 have HX4:=hideW (HX3.out.below hb4)
 have hz4:=hb4.size
 clear hb4
 have HQ1:=hideW (show ∀j,j<1→(fun i=>match i with | 0=>HasSet W set | 1=>¬∃i,i<W.pn∧(W.snaps i).set=set∧(W.snaps i).name=name | _=>RoomSnap W) j from fun j hj=>by
  obtain rfl:j=0:=by omega
  exact⟨k,HN.out.1,HN.out.2.1⟩)
 by_cases hw:∃i,i<W.pn∧(W.snaps i).set=set∧(W.snaps i).name=name
 ·obtain rfl:t=true:=ht.2 hw
  have Hq:=hideW hw
  clear ht hw
  go_wp2_with fail
  refine(l05Ill_any 5 _).mono ?_
  rintro e wz ⟨rfl,hbz⟩
  have hbY:=below_next hB4 hbz
  have HRy:=hideW (HR4.out.below hbz)
  obtain⟨⟨r0,g0⟩,⟨r1,g1⟩,⟨r2,g2⟩,⟨r3,g3⟩,⟨r4,g4⟩,⟨r5,g5⟩,⟨r6,g6⟩,⟨r7,g7⟩,⟨r8,g8⟩⟩:=HRy.out
  go_wp2_with fail
  have HRz:=HRy.out.put (.slice none 0 0) (.slice none 0 0) (.int .i64 0) (.int .i64 0) (.slice none 0 0) (.slice none 0 0) (.int .i64 0) (.int .i64 0) (.int .i64 5)
  have hT:=Turned.put9 wz (w.heap.size+1) (.slice none 0 0) (.slice none 0 0) (.int .i64 0) (.int .i64 0) (.slice none 0 0) (.slice none 0 0) (.int .i64 0) (.int .i64 0) (.int .i64 5)
  clear r0 g0 r1 g1 r2 g2 r3 g3 r4 g4 r5 g5 r6 g6 r7 g7 r8 g8
  refine bodyPost_ret (v:=.agg #[.slice none 0 0,.slice none 0 0,.int .i64 0,.int .i64 0,.slice none 0 0,.slice none 0 0,.int .i64 0,.int .i64 0,.int .i64 5]) (by simp [results,Tryz.results15,go_sem,HRz.1.1,HRz.2.1.1,HRz.2.2.1.1,HRz.2.2.2.1.1,HRz.2.2.2.2.1.1,HRz.2.2.2.2.2.1.1,HRz.2.2.2.2.2.2.1.1,HRz.2.2.2.2.2.2.2.1.1,HRz.2.2.2.2.2.2.2.2.1]) rfl (AnsSnapNew.ill (i:=3) (Or.inr (Or.inr (Or.inl ⟨HL.out,Hw.out,Hnm.out,1,by omega,fun h=>h Hq.out,HQ1.out,rfl⟩))) ?_)
  exact⟨_,_,_,_,rfl,noW_own,hbY.trans (hT.below (B:=w.heap.size) hbY.size (fun k e=>by omega))⟩
 obtain rfl:t=false:=bool_no ht hw
 have Hq:=hideW hw
 clear ht hw
 have HQ2:=hideW (show ∀j,j<2→(fun i=>match i with | 0=>HasSet W set | 1=>¬∃i,i<W.pn∧(W.snaps i).set=set∧(W.snaps i).name=name | _=>RoomSnap W) j from fun j hj=>by
  rcases(by omega:j=0∨j=1)with rfl | rfl
  ·exact⟨k,HN.out.1,HN.out.2.1⟩
  ·exact Hq.out)
 obtain⟨⟨x0,-⟩,⟨x1,-⟩,⟨x2,-⟩,⟨x3,-⟩,⟨x4,-⟩,⟨x5,-⟩⟩:=HX4.out
 by_cases f1:W.pn<20
 rotate_left
 ·have g1:(20:Int)≤(W.pn:Int):=by omega
  have F1:=hideW f1
  go_wp2_with fail
  refine(l05Ill_any 6 _).mono ?_
  rintro e wz ⟨rfl,hbz⟩
  have hbY:=below_next hB4 hbz
  have HRy:=hideW (HR4.out.below hbz)
  obtain⟨⟨r0,g0⟩,⟨r1,g1⟩,⟨r2,g2⟩,⟨r3,g3⟩,⟨r4,g4⟩,⟨r5,g5⟩,⟨r6,g6⟩,⟨r7,g7⟩,⟨r8,g8⟩⟩:=HRy.out
  go_wp2_with fail
  have HRz:=HRy.out.put (.slice none 0 0) (.slice none 0 0) (.int .i64 0) (.int .i64 0) (.slice none 0 0) (.slice none 0 0) (.int .i64 0) (.int .i64 0) (.int .i64 6)
  have hT:=Turned.put9 wz (w.heap.size+1) (.slice none 0 0) (.slice none 0 0) (.int .i64 0) (.int .i64 0) (.slice none 0 0) (.slice none 0 0) (.int .i64 0) (.int .i64 0) (.int .i64 6)
  clear r0 g0 r1 g1 r2 g2 r3 g3 r4 g4 r5 g5 r6 g6 r7 g7 r8 g8
  refine bodyPost_ret (v:=.agg #[.slice none 0 0,.slice none 0 0,.int .i64 0,.int .i64 0,.slice none 0 0,.slice none 0 0,.int .i64 0,.int .i64 0,.int .i64 6]) (by simp [results,Tryz.results15,go_sem,HRz.1.1,HRz.2.1.1,HRz.2.2.1.1,HRz.2.2.2.1.1,HRz.2.2.2.2.1.1,HRz.2.2.2.2.2.1.1,HRz.2.2.2.2.2.2.1.1,HRz.2.2.2.2.2.2.2.1.1,HRz.2.2.2.2.2.2.2.2.1]) rfl (AnsSnapNew.ill (i:=4) (Or.inr (Or.inr (Or.inl ⟨HL.out,Hw.out,Hnm.out,2,by omega,fun h=>F1.out h.1,HQ2.out,rfl⟩))) ?_)
  exact⟨_,_,_,_,rfl,noW_own,hbY.trans (hT.below (B:=w.heap.size) hbY.size (fun k e=>by omega))⟩
 have g1:¬(20:Int)≤(W.pn:Int):=by omega
 by_cases f2:W.time<900000
 rotate_left
 ·have g2:(900000:Int)≤W.time:=by omega
  have F2:=hideW f2
  go_wp2_with fail
  refine(l05Ill_any 6 _).mono ?_
  rintro e wz ⟨rfl,hbz⟩
  have hbY:=below_next hB4 hbz
  have HRy:=hideW (HR4.out.below hbz)
  obtain⟨⟨r0,g0⟩,⟨r1,g1⟩,⟨r2,g2⟩,⟨r3,g3⟩,⟨r4,g4⟩,⟨r5,g5⟩,⟨r6,g6⟩,⟨r7,g7⟩,⟨r8,g8⟩⟩:=HRy.out
  go_wp2_with fail
  have HRz:=HRy.out.put (.slice none 0 0) (.slice none 0 0) (.int .i64 0) (.int .i64 0) (.slice none 0 0) (.slice none 0 0) (.int .i64 0) (.int .i64 0) (.int .i64 6)
  have hT:=Turned.put9 wz (w.heap.size+1) (.slice none 0 0) (.slice none 0 0) (.int .i64 0) (.int .i64 0) (.slice none 0 0) (.slice none 0 0) (.int .i64 0) (.int .i64 0) (.int .i64 6)
  clear r0 g0 r1 g1 r2 g2 r3 g3 r4 g4 r5 g5 r6 g6 r7 g7 r8 g8
  refine bodyPost_ret (v:=.agg #[.slice none 0 0,.slice none 0 0,.int .i64 0,.int .i64 0,.slice none 0 0,.slice none 0 0,.int .i64 0,.int .i64 0,.int .i64 6]) (by simp [results,Tryz.results15,go_sem,HRz.1.1,HRz.2.1.1,HRz.2.2.1.1,HRz.2.2.2.1.1,HRz.2.2.2.2.1.1,HRz.2.2.2.2.2.1.1,HRz.2.2.2.2.2.2.1.1,HRz.2.2.2.2.2.2.2.1.1,HRz.2.2.2.2.2.2.2.2.1]) rfl (AnsSnapNew.ill (i:=4) (Or.inr (Or.inr (Or.inl ⟨HL.out,Hw.out,Hnm.out,2,by omega,fun h=>absurd h.2.1 (Int.not_lt.2 F2.out),HQ2.out,rfl⟩))) ?_)
  exact⟨_,_,_,_,rfl,noW_own,hbY.trans (hT.below (B:=w.heap.size) hbY.size (fun k e=>by omega))⟩
 have g2:¬(900000:Int)≤W.time:=by omega
 by_cases f3:W.next<900000
 rotate_left
 ·have g3:(900000:Int)≤W.next:=by omega
  have F3:=hideW f3
  go_wp2_with fail
  refine(l05Ill_any 6 _).mono ?_
  rintro e wz ⟨rfl,hbz⟩
  have hbY:=below_next hB4 hbz
  have HRy:=hideW (HR4.out.below hbz)
  obtain⟨⟨r0,g0⟩,⟨r1,g1⟩,⟨r2,g2⟩,⟨r3,g3⟩,⟨r4,g4⟩,⟨r5,g5⟩,⟨r6,g6⟩,⟨r7,g7⟩,⟨r8,g8⟩⟩:=HRy.out
  go_wp2_with fail
  have HRz:=HRy.out.put (.slice none 0 0) (.slice none 0 0) (.int .i64 0) (.int .i64 0) (.slice none 0 0) (.slice none 0 0) (.int .i64 0) (.int .i64 0) (.int .i64 6)
  have hT:=Turned.put9 wz (w.heap.size+1) (.slice none 0 0) (.slice none 0 0) (.int .i64 0) (.int .i64 0) (.slice none 0 0) (.slice none 0 0) (.int .i64 0) (.int .i64 0) (.int .i64 6)
  clear r0 g0 r1 g1 r2 g2 r3 g3 r4 g4 r5 g5 r6 g6 r7 g7 r8 g8
  refine bodyPost_ret (v:=.agg #[.slice none 0 0,.slice none 0 0,.int .i64 0,.int .i64 0,.slice none 0 0,.slice none 0 0,.int .i64 0,.int .i64 0,.int .i64 6]) (by simp [results,Tryz.results15,go_sem,HRz.1.1,HRz.2.1.1,HRz.2.2.1.1,HRz.2.2.2.1.1,HRz.2.2.2.2.1.1,HRz.2.2.2.2.2.1.1,HRz.2.2.2.2.2.2.1.1,HRz.2.2.2.2.2.2.2.1.1,HRz.2.2.2.2.2.2.2.2.1]) rfl (AnsSnapNew.ill (i:=4) (Or.inr (Or.inr (Or.inl ⟨HL.out,Hw.out,Hnm.out,2,by omega,fun h=>absurd h.2.2 (Int.not_lt.2 F3.out),HQ2.out,rfl⟩))) ?_)
  exact⟨_,_,_,_,rfl,noW_own,hbY.trans (hT.below (B:=w.heap.size) hbY.size (fun k e=>by omega))⟩
 have g3:¬(900000:Int)≤W.next:=by omega
 have HQ3:=hideW (show ∀j,j<3→(fun i=>match i with | 0=>HasSet W set | 1=>¬∃i,i<W.pn∧(W.snaps i).set=set∧(W.snaps i).name=name | _=>RoomSnap W) j from fun j hj=>by
  rcases(by omega:j=0∨j=1∨j=2)with rfl | rfl | rfl
  ·exact⟨k,HN.out.1,HN.out.2.1⟩
  ·exact Hq.out
  ·exact⟨f1,f2,f3⟩)
 go_wp2_with fail
 clear x0 x1 x2 x3 x4 x5
 refine(l04CopyR_any _ _ _ _ lo hi W _ (Hp.out.below hB4) b1 b2 b3 b4).mono ?_
 rintro e w5 ⟨z0,z1,z2,z3,rfl,ho,hb5⟩
 obtain⟨l0,lc0,l1,lc1,l2,lc2,l3,lc3,rfl,rfl,rfl,rfl⟩:=ho.form
 have hB5:=below_next hB4 hb5
 have HR5:=hideW (HR4.out.below hb5)
 have HX5:=hideW (HX4.out.below hb5)
 have hz5:=hb5.size
 have hk':(k:Int)<(W.sn:Int):=by omega
 obtain⟨P,Q,R,hin,hltS⟩:=ho
 obtain⟨bs,kbS,kvS,hS,-,-,-,-⟩:=id hin.sets
 obtain⟨off2,c2',e2,hsk⟩:=hS.nth hk
 simp only [Value.slice.injEq,true_and] at e2
 obtain⟨rfl,rfl⟩:=e2
 obtain⟨da,dc,hdv⟩:∃a c,kvS k = .slice a (W.sets k).dn c:=by obtain⟨_,a,c,h,_⟩:=hsk.dead; exact⟨a,c,h⟩
 rw [hdv] at hsk
 have ha6:=below_alloc w5 (.cells #[.slice l0 W.pool.n lc0,.slice l1 W.pool.hn lc1,.int .i64 W.time,.int .i64 W.next,.slice (some ⟨bs,off2,none⟩) W.sn lc2,.slice l3 W.pn lc3] 37)
 have ha7:=below_alloc (w5.alloc (.cells #[.slice l0 W.pool.n lc0,.slice l1 W.pool.hn lc1,.int .i64 W.time,.int .i64 W.next,.slice (some ⟨bs,off2,none⟩) W.sn lc2,.slice l3 W.pn lc3] 37)) (.cells #[.string (W.sets k).name,.int .i64 (W.sets k).origin,.int .i64 (W.sets k).prev,.int .i64 (W.sets k).rs,.int .i64 (W.sets k).rb,.slice da (W.sets k).dn dc] 65)
 have hV:=Box6.new w5 (.slice l0 W.pool.n lc0) (.slice l1 W.pool.hn lc1) (.int .i64 W.time) (.int .i64 W.next) (.slice (some ⟨bs,off2,none⟩) W.sn lc2) (.slice l3 W.pn lc3) 37
 have hY:=Box6.new (w5.alloc (.cells #[.slice l0 W.pool.n lc0,.slice l1 W.pool.hn lc1,.int .i64 W.time,.int .i64 W.next,.slice (some ⟨bs,off2,none⟩) W.sn lc2,.slice l3 W.pn lc3] 37)) (.string (W.sets k).name) (.int .i64 (W.sets k).origin) (.int .i64 (W.sets k).prev) (.int .i64 (W.sets k).rs) (.int .i64 (W.sets k).rb) (.slice da (W.sets k).dn dc) 65
 rw [World.size_alloc] at hY
 have hz7:((w5.alloc (.cells #[.slice l0 W.pool.n lc0,.slice l1 W.pool.hn lc1,.int .i64 W.time,.int .i64 W.next,.slice (some ⟨bs,off2,none⟩) W.sn lc2,.slice l3 W.pn lc3] 37)).alloc (.cells #[.string (W.sets k).name,.int .i64 (W.sets k).origin,.int .i64 (W.sets k).prev,.int .i64 (W.sets k).rs,.int .i64 (W.sets k).rb,.slice da (W.sets k).dn dc] 65)).heap.size≥w5.heap.size+2:=by rw [World.size_alloc,World.size_alloc]; omega
 have HV7:=hideW (hV.below ha7)
 have HY7:=hideW hY
 have HX7:=hideW ((HX5.out.below ha6).below ha7)
 have HR7:=hideW ((HR5.out.below ha6).below ha7)
 have hb57:=below_next ha6 ha7
 have HIN:=hideW (hin.below hb57)
 have HSK:=hideW (hsk.below hb57)
 have HLT:=hideW hltS
 obtain⟨-,-,-,-,⟨y4,-⟩,-⟩:=hV
 have q0:=(hsk.c0.below ha6).1
 have q1:=(hsk.c1.below ha6).1
 have q2:=(hsk.c2.below ha6).1
 have q3:=(hsk.c3.below ha6).1
 have q4:=(hsk.c4.below ha6).1
 have q5:=(hsk.c5.below ha6).1
 clear hY hin hltS hS hsk
 go_upto_region 14 with fail
 clear y4 q0 q1 q2 q3 q4 q5 ha6 ha7
 generalize (w5.alloc (.cells #[.slice l0 W.pool.n lc0,.slice l1 W.pool.hn lc1,.int .i64 W.time,.int .i64 W.next,.slice (some ⟨bs,off2,none⟩) W.sn lc2,.slice l3 W.pn lc3] 37)).alloc (.cells #[.string (W.sets k).name,.int .i64 (W.sets k).origin,.int .i64 (W.sets k).prev,.int .i64 (W.sets k).rs,.int .i64 (W.sets k).rb,.slice da (W.sets k).dn dc] 65)=w7 at HV7 HY7 HX7 HR7 hb57 HIN HSK hz7 ⊢
 obtain⟨dv,nb,hsk',hlb,hub,g,cap,w8,hr8,hT8,hs8,hO8⟩:=run_addSnap w7 w4.heap.size w5.heap.size HIN.out HLT.out (by omega) (by omega) hk f1 name set Hz2.out Hz1.out 35
 obtain rfl:dv = .slice da (W.sets k).dn dc:=by
  have h1:=hsk'.c5.1
  have h2:=HSK.out.c5.1
  rw [h1] at h2
  injection h2
 have HRun:=hideW hr8
 have HX8:=hideW (HX7.out.turned hT8 (fun h=>by omega))
 have HV8:=hideW (HV7.out.turned hT8 (fun h=>by omega))
 have HR8:=hideW (HR7.out.turned hT8 (fun h=>by omega))
 have HO8:=hideW hO8
 have HT8:=hideW hT8
 obtain⟨t2,t2'⟩:=hsk'.c2.turned hT8 (fun h=>h.2.2 rfl)
 obtain⟨t5,t5'⟩:=hsk'.c5.turned hT8 (fun h=>h.2.2 rfl)
 have hti:=Hw.out.names.time.1
 have hne:=Hw.out.names.next.1
 have hw1:IntKind.i64.wrap (W.time+1)=W.time+1:=wrap_small (by omega) (by omega)
 have hw2:IntKind.i64.wrap (W.next+1)=W.next+1:=wrap_small (by omega) (by omega)
 have n1:w5.heap.size≠w.heap.size:=by omega
 have n2:w.heap.size≠w5.heap.size:=by omega
 have n3:bs≠w5.heap.size:=by omega
 have n4:w5.heap.size≠bs:=by omega
 have n5:bs≠w.heap.size:=by omega
 have n6:w.heap.size≠bs:=by omega
 clear hr8 hT8 hO8 hsk'
 obtain⟨-,-,⟨x2,-⟩,⟨x3,-⟩,-,-⟩:=HX7.out
 obtain⟨-,-,-,-,-,⟨v5,-⟩⟩:=HV7.out
 obtain⟨-,-,⟨y2,-⟩,⟨y3,-⟩,⟨y4,-⟩,⟨y5,-⟩⟩:=HY7.out
 obtain⟨p5,p5'⟩:=HV8.out.2.2.2.2.2
 go_upto_region 15 with(first
  | (at_builtin; refine wpList_append_run rfl _ _ 35 rfl _ _ _ rfl rfl HRun.out ?_)
  | fail)
 clear x2 x3 v5 y2 y3 y4 y5 p5 p5'
 have hT9:=Turned.put w8 w5.heap.size 5 (.slice (some ⟨g,0,none⟩) (W.pn+1) cap)
 have HV9:=hideW (show Box6 (w8.setCell ⟨w5.heap.size,5,none⟩ (.slice (some ⟨g,0,none⟩) (W.pn+1) cap)) w5.heap.size (.slice l0 W.pool.n lc0) (.slice l1 W.pool.hn lc1) (.int .i64 W.time) (.int .i64 W.next) (.slice (some ⟨bs,off2,none⟩) W.sn lc2) (.slice (some ⟨g,0,none⟩) (W.pn+1) cap)from⟨HV8.out.1.other _ (Or.inr (by decide)),HV8.out.2.1.other _ (Or.inr (by decide)),HV8.out.2.2.1.other _ (Or.inr (by decide)),HV8.out.2.2.2.1.other _ (Or.inr (by decide)),HV8.out.2.2.2.2.1.other _ (Or.inr (by decide)),HV8.out.2.2.2.2.2.set _⟩)
 have HX9:=hideW (HX8.out.turned hT9 (fun h=>by omega))
 have HR9:=hideW (HR8.out.turned hT9 (fun h=>by omega))
 obtain⟨t2,t2'⟩:=(show Cell w8 bs (off2+k*6+2) _ from⟨t2,t2'⟩).turned hT9 (fun h=>by omega)
 obtain⟨t5,t5'⟩:=(show Cell w8 bs (off2+k*6+5) _ from⟨t5,t5'⟩).turned hT9 (fun h=>by omega)
 have HO9:=hideW (show WorldOwn2 (((w8.setCell ⟨w5.heap.size,5,none⟩ (.slice (some ⟨g,0,none⟩) (W.pn+1) cap)).setCell ⟨bs,off2+k*6+2,none⟩ (.int .i64 W.next)).setCell ⟨bs,off2+k*6+5,none⟩ (.slice none 0 0)) w4.heap.size w5.heap.size (w7.heap.size+1) w8.heap.size (.slice l0 W.pool.n lc0) (.slice l1 W.pool.hn lc1) (.slice (some ⟨bs,off2,none⟩) W.sn lc2) (.slice (some ⟨g,0,none⟩) (W.pn+1) cap) (snapNewW W k name set)by
  rw [setCell_comm w8 5 (off2+k*6+2) _ _ n4,setCell_comm _ 5 (off2+k*6+5) _ _ n4]
  exact HO8.out.turned (Turned.put _ w5.heap.size 5 _) (fun j e=>by omega) (by omega) (by omega))
 have hB9:=(below_next hB5 hb57).trans ((HT8.out.below (B:=w.heap.size) (by omega) (fun j h=>by omega)).trans (hT9.below (B:=w.heap.size) (by omega) (fun j h=>by omega)))
 have hz9:=hT9.size
 clear hT9 HV8 HX8 HR8 HO8 HRun
 generalize (w8.setCell ⟨w5.heap.size,5,none⟩ (.slice (some ⟨g,0,none⟩) (W.pn+1) cap))=w9 at HV9 HX9 HR9 HO9 t2 t2' t5 t5' hB9 hz9 ⊢
 obtain⟨-,-,⟨u2,-⟩,⟨u3,-⟩,-,-⟩:=HX9.out
 obtain⟨-,-,⟨p2,p2'⟩,⟨p3,p3'⟩,⟨p4,-⟩,-⟩:=HV9.out
 go_upto_region 19 with fail
 have hTz:Turned (fun j=>j=bs∨j=w5.heap.size) w9 ((((w9.setCell ⟨bs,off2+k*6+2,none⟩ (.int .i64 W.next)).setCell ⟨bs,off2+k*6+5,none⟩ (.slice none 0 0)).setCell ⟨w5.heap.size,2,none⟩ (.int .i64 (W.time+1))).setCell ⟨w5.heap.size,3,none⟩ (.int .i64 (W.next+1))):=((((Turned.put _ bs _ _).mono (fun j e=>Or.inl e)).trans ((Turned.put _ bs _ _).mono (fun j e=>Or.inl e))).trans ((Turned.put _ w5.heap.size 2 _).mono (fun j e=>Or.inr e))).trans ((Turned.put _ w5.heap.size 3 _).mono (fun j e=>Or.inr e))
 have HVz:=hideW (show Box6 ((((w9.setCell ⟨bs,off2+k*6+2,none⟩ (.int .i64 W.next)).setCell ⟨bs,off2+k*6+5,none⟩ (.slice none 0 0)).setCell ⟨w5.heap.size,2,none⟩ (.int .i64 (W.time+1))).setCell ⟨w5.heap.size,3,none⟩ (.int .i64 (W.next+1))) w5.heap.size (.slice l0 W.pool.n lc0) (.slice l1 W.pool.hn lc1) (.int .i64 (W.time+1)) (.int .i64 (W.next+1)) (.slice (some ⟨bs,off2,none⟩) W.sn lc2) (.slice (some ⟨g,0,none⟩) (W.pn+1) cap)from⟨((((HV9.out.1.other _ (Or.inl n3)).other _ (Or.inl n3)).other _ (Or.inr (by decide))).other _ (Or.inr (by decide))),((((HV9.out.2.1.other _ (Or.inl n3)).other _ (Or.inl n3)).other _ (Or.inr (by decide))).other _ (Or.inr (by decide))),((((HV9.out.2.2.1.other _ (Or.inl n3)).other _ (Or.inl n3)).set _).other _ (Or.inr (by decide))),((((HV9.out.2.2.2.1.other _ (Or.inl n3)).other _ (Or.inl n3)).other _ (Or.inr (by decide))).set _),((((HV9.out.2.2.2.2.1.other _ (Or.inl n3)).other _ (Or.inl n3)).other _ (Or.inr (by decide))).other _ (Or.inr (by decide))),((((HV9.out.2.2.2.2.2.other _ (Or.inl n3)).other _ (Or.inl n3)).other _ (Or.inr (by decide))).other _ (Or.inr (by decide)))⟩)
 have HXz:=hideW (HX9.out.turned hTz (fun h=>by omega))
 have HRy:=hideW (HR9.out.turned hTz (fun h=>by omega))
 have HOz:=hideW ((HO9.out.turned ((Turned.put _ w5.heap.size 2 (.int .i64 (W.time+1))).trans (Turned.put _ w5.heap.size 3 (.int .i64 (W.next+1)))) (fun j e=>by omega) (by omega) (by omega)).own (by omega) (by omega))
 have hbY:=hB9.trans (hTz.below (B:=w.heap.size) (by omega) (fun j h=>by omega))
 have hzz:=hTz.size
 clear u2 u3 p2 p2' p3 p3' p4 t2 t2' t5 t5' hTz HV9 HX9 HR9 HO9
 generalize ((((w9.setCell ⟨bs,off2+k*6+2,none⟩ (.int .i64 W.next)).setCell ⟨bs,off2+k*6+5,none⟩ (.slice none 0 0)).setCell ⟨w5.heap.size,2,none⟩ (.int .i64 (W.time+1))).setCell ⟨w5.heap.size,3,none⟩ (.int .i64 (W.next+1)))=wz at HVz HXz HRy HOz hbY hzz ⊢
 obtain⟨-,-,-,⟨x3,-⟩,-,-⟩:=HXz.out
 obtain⟨⟨v0,-⟩,⟨v1,-⟩,⟨v2,-⟩,⟨v3,-⟩,⟨v4,-⟩,⟨v5,-⟩⟩:=HVz.out
 obtain⟨⟨r0,g0⟩,⟨r1,g1⟩,⟨r2,g2⟩,⟨r3,g3⟩,⟨r4,g4⟩,⟨r5,g5⟩,⟨r6,g6⟩,⟨r7,g7⟩,⟨r8,g8⟩⟩:=HRy.out
 go_wp2_with fail
 have HRz:=HRy.out.put (.slice l0 W.pool.n lc0) (.slice l1 W.pool.hn lc1) (.int .i64 (W.time+1)) (.int .i64 (W.next+1)) (.slice (some ⟨bs,off2,none⟩) W.sn lc2) (.slice (some ⟨g,0,none⟩) (W.pn+1) cap) (.int .i64 W.next) (.int .i64 0) (.int .i64 0)
 have hT:=Turned.put9 wz (w.heap.size+1) (.slice l0 W.pool.n lc0) (.slice l1 W.pool.hn lc1) (.int .i64 (W.time+1)) (.int .i64 (W.next+1)) (.slice (some ⟨bs,off2,none⟩) W.sn lc2) (.slice (some ⟨g,0,none⟩) (W.pn+1) cap) (.int .i64 W.next) (.int .i64 0) (.int .i64 0)
 clear r0 g0 r1 g1 r2 g2 r3 g3 r4 g4 r5 g5 r6 g6 r7 g7 r8 g8
 refine bodyPost_ret (v:=.agg #[.slice l0 W.pool.n lc0,.slice l1 W.pool.hn lc1,.int .i64 (W.time+1),.int .i64 (W.next+1),.slice (some ⟨bs,off2,none⟩) W.sn lc2,.slice (some ⟨g,0,none⟩) (W.pn+1) cap,.int .i64 W.next,.int .i64 0,.int .i64 0]) (by simp [results,Tryz.results15,go_sem,HRz.1.1,HRz.2.1.1,HRz.2.2.1.1,HRz.2.2.2.1.1,HRz.2.2.2.2.1.1,HRz.2.2.2.2.2.1.1,HRz.2.2.2.2.2.2.1.1,HRz.2.2.2.2.2.2.2.1.1,HRz.2.2.2.2.2.2.2.2.1]) rfl ⟨none,⟨snapNewW W k name set,W.next,0,0⟩,Or.inr (Or.inr (Or.inr ⟨HL.out,Hw.out,Hnm.out,HQ3.out,rfl⟩)),fun _=>⟨k,HN.out,rfl⟩,?_⟩
 show NewWOut ⟨snapNewW W k name set,W.next,0,0⟩ w _ _
 exact⟨_,_,_,_,rfl,(HOz.out.turned hT (fun j e=>by omega)).wide (by omega) (Nat.le_trans (show w8.heap.size≤wz.heap.size by omega) hT.size),hbY.trans (hT.below (B:=w.heap.size) hbY.size (fun k e=>by omega))⟩
end Go.Proofs.YteipkhpniokkgaaGreatDoor

namespace Go.Proofs.YteipkhpniokkgaaGreatDoor
open Go.RowKit
set_option linter.unusedVariables false
structure RowTurned (bs o n:Nat) (w w':World):Prop where
 turned:Turned (fun b=>b=bs) w w'
 kept:∀x v,(x<o∨o+n≤x)→Cell w bs x v→Cell w' bs x v
theorem RowTurned.refl(bs o n:Nat)(w:World):RowTurned bs o n w w:=⟨Turned.refl _ _,fun _ _ _ h=>h⟩
theorem RowTurned.set{bs o n:Nat}{w w':World}(h:RowTurned bs o n w w')(x:Nat)(u:Value)(h1:o≤x)(h2:x<o+n):RowTurned bs o n w (w'.setCell ⟨bs,x,none⟩ u):=
 ⟨h.turned.setCell (p:=⟨bs,x,none⟩) rfl u,fun y v hy hc=>(h.kept y v hy hc).other u (Or.inr (by omega))⟩
theorem RowTurned.below{bs o n:Nat}{w w' w2:World}(h:RowTurned bs o n w w')(t:Below w'.heap.size w' w2):RowTurned bs o n w w2:=
 ⟨h.turned.trans (Turned.of_below t),fun y v hy hc=>(h.kept y v hy hc).below t⟩
theorem Set_step{w w1 w2:World}{bs off n k:Nat}{kb:Nat→Nat}{kv:Nat→Value}{f:Nat→SetD}{s:SetD}(h:∀j,j<n→SetOwn w bs (off+j*6) (kb j) (kv j) (f j))(hap:SetsApart kb n f)(hk:k<n)
  (r:RowTurned bs (off+k*6) 6 w w1) (t:Turned (fun b=>0<(f k).dn∧b=kb k) w1 w2) (c0:Cell w1 bs (off+k*6) (.string s.name)) (c1:Cell w1 bs ((off+k*6)+1) (.int .i64 s.origin)) (c2:Cell w1 bs ((off+k*6)+2) (.int .i64 s.prev)) (c3:Cell w1 bs ((off+k*6)+3) (.int .i64 s.rs)) (c4:Cell w1 bs ((off+k*6)+4) (.int .i64 s.rb)) (c5:Cell w1 bs (off+k*6+5) (kv k)) (hdn:s.dn=(f k).dn) (hp:PtrsOwn w2 (kb k) (kv k) s.dn s.ds s.db) (hs:s.name.size≤maxLen) :
  ∀j,j<n→SetOwn w2 bs (off+j*6) (kb j) (kv j) (if j=k then s else f j):=by
 intro j hj
 have nb:¬(0<(f k).dn∧bs=kb k):=fun hx=>(h k hk).apart hx.1 hx.2.symm
 by_cases e:j=k
 ·subst e
  rw [if_pos rfl]
  exact⟨c0.turned t nb,c1.turned t nb,c2.turned t nb,c3.turned t nb,c4.turned t nb,c5.turned t nb,hp,hs,by rw [hdn]; exact(h j hj).apart⟩
 ·rw [if_neg e]
  have hj':=h j hj
  refine⟨(r.kept _ _ (by omega) hj'.c0).turned t nb,(r.kept _ _ (by omega) hj'.c1).turned t nb,(r.kept _ _ (by omega) hj'.c2).turned t nb,(r.kept _ _ (by omega) hj'.c3).turned t nb,(r.kept _ _ (by omega) hj'.c4).turned t nb,(r.kept _ _ (by omega) hj'.c5).turned t nb,?_,hj'.small,hj'.apart⟩
  exact(hj'.dead.turned r.turned (fun h0 hx=>hj'.apart h0 hx)).turned t (fun h0 hx=>hap j k hj hk e h0 hx.1 hx.2)
theorem Snap_step{w w1 w2:World}{bs off n k:Nat}{kb:Nat→Nat}{kv:Nat→Value}{f:Nat→SnapD}{s:SnapD}(h:∀j,j<n→SnapOwn w bs (off+j*8) (kb j) (kv j) (f j))(hap:SnapsApart kb n f)(hk:k<n)
  (r:RowTurned bs (off+k*8) 8 w w1) (t:Turned (fun b=>0<(f k).dn∧b=kb k) w1 w2) (c0:Cell w1 bs (off+k*8) (.int .i64 s.id)) (c1:Cell w1 bs ((off+k*8)+1) (.string s.name)) (c2:Cell w1 bs ((off+k*8)+2) (.string s.set)) (c3:Cell w1 bs ((off+k*8)+3) (.int .i64 s.prev)) (c4:Cell w1 bs ((off+k*8)+4) (.int .i64 s.time)) (c5:Cell w1 bs ((off+k*8)+5) (.int .i64 s.rs)) (c6:Cell w1 bs ((off+k*8)+6) (.int .i64 s.rb)) (c7:Cell w1 bs (off+k*8+7) (kv k)) (hdn:s.dn=(f k).dn) (hp:PtrsOwn w2 (kb k) (kv k) s.dn s.ds s.db) (hs:s.name.size≤maxLen∧s.set.size≤maxLen) :
  ∀j,j<n→SnapOwn w2 bs (off+j*8) (kb j) (kv j) (if j=k then s else f j):=by
 intro j hj
 have nb:¬(0<(f k).dn∧bs=kb k):=fun hx=>(h k hk).apart hx.1 hx.2.symm
 by_cases e:j=k
 ·subst e
  rw [if_pos rfl]
  exact⟨c0.turned t nb,c1.turned t nb,c2.turned t nb,c3.turned t nb,c4.turned t nb,c5.turned t nb,c6.turned t nb,c7.turned t nb,hp,hs,by rw [hdn]; exact(h j hj).apart⟩
 ·rw [if_neg e]
  have hj':=h j hj
  refine⟨(r.kept _ _ (by omega) hj'.c0).turned t nb,(r.kept _ _ (by omega) hj'.c1).turned t nb,(r.kept _ _ (by omega) hj'.c2).turned t nb,(r.kept _ _ (by omega) hj'.c3).turned t nb,(r.kept _ _ (by omega) hj'.c4).turned t nb,(r.kept _ _ (by omega) hj'.c5).turned t nb,(r.kept _ _ (by omega) hj'.c6).turned t nb,(r.kept _ _ (by omega) hj'.c7).turned t nb,?_,hj'.small,hj'.apart⟩
  exact(hj'.dead.turned r.turned (fun h0 hx=>hj'.apart h0 hx)).turned t (fun h0 hx=>hap j k hj hk e h0 hx.1 hx.2)
end Go.Proofs.YteipkhpniokkgaaGreatDoor
