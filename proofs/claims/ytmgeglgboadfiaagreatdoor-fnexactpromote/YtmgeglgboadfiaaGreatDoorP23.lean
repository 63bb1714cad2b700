/- impl.codeOf and impl.errorOf: the code of an error, the error of a code. -/
import Derived.Test.YtmgeglgboadfiaaGreatDoorP1
import Derived.Test.YtmgeglgboadfiaaGreatDoorP17
import Derived.Test.YtmgeglgboadfiaaGreatDoorP20
import Derived.Test.YtmgeglgboadfiaaGreatDoorP22
import Derived.Stop.IfaceNil
import Derived.Test.YtmgeglgboadfiaaGreatDoorP4
import Derived.Test.YtmgeglgboadfiaaGreatDoorP9
import Derived.Test.YtmgeglgboadfiaaGreatDoorP11
import Derived.Test.YtmgeglgboadfiaaGreatDoorP16
import Derived.Test.YtmgeglgboadfiaaGreatDoorP13
namespace Go.Proofs.YtmgeglgboadfiaaGreatDoor
open Go.RowKit Go.Extern.Stop Go.Stop Go.Extern
set_option linter.unusedVariables false
def RefAt(w:World)(b:Nat)(p:Nat→Addr):Prop:=∀k,k<7→w.cell? ⟨b,k*2,none⟩=some (errV (p k))∧w.cell? ⟨b,k*2+1,none⟩=some (.int .i64 (errC k))
theorem RefAt.below{w w':World}{b:Nat}{p:Nat→Addr}(h:RefAt w b p)(t:Below w.heap.size w w'):RefAt w' b p:=
 fun k hk=>⟨(t.cell (lt_of_cell (h k hk).1)).trans (h k hk).1,(t.cell (lt_of_cell (h k hk).2)).trans (h k hk).2⟩
theorem RefAt.new(p:Nat→Addr)(w:World):RefAt (w.alloc (.cells (refC p) 199)) w.heap.size p:=
 fun k hk=>⟨(cell_of_block (heap_alloc_new _ _) (refC_at p hk).1).1,(cell_of_block (heap_alloc_new _ _) (refC_at p hk).2).1⟩
set_option maxRecDepth 20000 in
set_option maxHeartbeats 400000 in
theorem codeOf_any(p:Nat→Addr)(i:Nat)(hi:i<7)(w:World)(h:Errs w p):Calls Tryz.prog 107 #[errV (p i)] w fun e w'=>e = .returned (.int .i64 (errC i))∧Below w.heap.size w w':=by
 have HE:=hideE h
 clear h
 have ha:=below_alloc w (.cells (refC p) 199)
 have HR:=hideE (RefAt.new p w)
 go_enter Tryz.func107,Tryz.ntmps107
 go_wp2_with fail
 refine(refusals_any p _ HE.out).mono ?_
 rintro e wa ⟨rfl,rfl⟩
 go_wp2
 go_loopw [7] (fun i' wr=>∃k:Nat,k≤i∧i' = .int .i64 k∧RefAt wr w.heap.size p∧Below w.heap.size w wr) (fun i _=>7 - (intOf i).toNat)
 case atStart=>exact⟨0,Nat.zero_le _,rfl,HR.out,ha⟩
 case round=>
  obtain⟨k,hk,rfl,hR,hb⟩:=hrel
  have hk7:(k:Int)<7:=by omega
  obtain⟨q0,q1⟩:=hR k (by omega)
  have hR2:=hideE hR
  clear hR
  have hn:=below_alloc wr (.cells #[errV (p k),.int .i64 (errC k)] 199)
  have hbn:=below_next hb hn
  have HRn:=hideE (hR2.out.below hn)
  have z0:(wr.alloc (.cells #[errV (p k),.int .i64 (errC k)] 199)).cell? ⟨wr.heap.size,0,none⟩=some (errV (p k)):=(cell_of_block (heap_alloc_new _ _) rfl).1
  have z1:(wr.alloc (.cells #[errV (p k),.int .i64 (errC k)] 199)).cell? ⟨wr.heap.size,1,none⟩=some (.int .i64 (errC k)):=(cell_of_block (heap_alloc_new _ _) rfl).1
  go_wp2_with fail
  generalize wr.alloc (.cells #[errV (p k),.int .i64 (errC k)] 199)=W5 at z0 z1 hn hbn HRn ⊢
  clear q0 q1
  by_cases he:k=i
  ·subst he
   refine(is_same (p k) _).mono ?_
   rintro e wz ⟨rfl,rfl⟩
   go_wp2
   go_ret
   exact⟨rfl,hbn⟩
  ·obtain⟨ca,ta,hca⟩:=(HE.out.below hbn).row i hi
   obtain⟨cb,tb,hcb⟩:=(HE.out.below hbn).row k (by omega)
   refine(is_other (p i) (p k) ca cb ta tb _ (HE.out.ne i k hi (by omega) (Ne.symm he)) hca hcb).mono ?_
   rintro e wz ⟨rfl,rfl⟩
   clear hca hcb
   go_wp2
   go_roundw
   case rel=>exact⟨k+1,by omega,by go_num,HRn.out,hbn⟩
   case measure=>simp [intOf]; omega
end Go.Proofs.YtmgeglgboadfiaaGreatDoor

namespace Go.Proofs.YtmgeglgboadfiaaGreatDoor
open Go.RowKit
set_option linter.unusedVariables false
def DoneI(p:Nat→Addr)(o:WOutD)(C:Nat)(w:World)(e:Ending)(w':World):Prop:=
 (∃v,e = .returned v)∧Below C w w'∧C<w'.heap.size∧((o.code=0∧∃z0 z1 z2 z3,Box9 w' C z0 z1 (.int .i64 o.world.time) (.int .i64 o.world.next) z2 z3 (.int .i64 o.id) (.int .i64 o.many) .nilIface∧WorldOwn w' (C+1) w'.heap.size z0 z1 z2 z3 o.world)∨(∃i,i<7∧o=refuseW (errC i)∧∃z0 z1 z2 z3 z4 z5 z6 z7,Box9 w' C z0 z1 z2 z3 z4 z5 z6 z7 (errV (p i))))
set_option maxRecDepth 20000 in
set_option maxHeartbeats 2000000 in
theorem on_any(p:Nat→Addr)(tv nv qv:Value)(gd:Nat)(lbd:Array Value)(nt nn m:Nat)(tx nx:Nat→ByteArray)(g:Nat→Nat)(lb:Nat→Array Value)(ei:Nat→Nat)(Q:Nat→Prop)(o:WOutD)(v0 v1 v2 v3:Value)(lo hi:Nat)(W:WorldD)(w:World)(hE:Errs w p)(h:WorldAt w lo hi v0 v1 v2 v3 W)(hwf:PrevsWf W)(b1:poolN W.pool≤1048576)(b2:W.sn≤1048576)(b3:W.pn≤1048576)(b4:DeadsN W)
  (ht:TextsAt w tv nt tx) (hn:TextsAt w nv nn nx) (hq:AskedAt w p qv m g lb ei) (hei:∀i,i<m→ei i<7) (eg:∀i,i<m→Enters Tryz.prog (g i)) (ed:Enters Tryz.prog gd)
  (hQ:∀i,i<m→∀w',Below w.heap.size w w'→ImplW W→(∀j,j<i→Q j)→Calls Tryz.prog (g i) (#[worldV v0 v1 v2 v3 W] ++ lb i) w' fun e w''=>BoolIs (Q i) e∧Below w'.heap.size w' w'')
  (hD:∀C w' z0 z1 z2 z3,w.heap.size≤C→Below w.heap.size w w'→C<w'.heap.size→ImplW W→(¬∃i,i<nt∧8000<(tx i).size)→(¬∃i,i<nn∧¬NameP (nx i))→(∀j,j<m→Q j)→WorldOwnR w' (C+1) w'.heap.size z0 z1 z2 z3 W→Box9 w' C z0 z1 (.int .i64 W.time) (.int .i64 W.next) z2 z3 (.int .i64 0) (.int .i64 0) .nilIface→Calls Tryz.prog gd (#[.pointer (some ⟨C,0,none⟩)] ++ lbd) w' (DoneI p o C w')) :
  Calls Tryz.prog 38 #[.agg #[tv,nv,qv,.func (.func gd) #[] lbd],worldV v0 v1 v2 v3 W] w fun e w'=>∃r,RefI W (∃i,i<nt∧8000<(tx i).size) (∃i,i<nn∧¬NameP (nx i)) m Q ei r∧NewWOut (outW r o) w e w':=by
 have Hp:=hideE h
 have HE:=hideE hE
 have Ht:=hideE ht
 have Hn:=hideE hn
 have Hq:=hideE hq
 have HQ:=hideE hQ
 have HDo:=hideE hD
 have Hg:=hideE eg
 have Hed:=hideE ed
 have Hei:=hideE hei
 obtain⟨t1,ta,tc,rfl,-⟩:=ht
 obtain⟨n1,na,nc,rfl,-⟩:=hn
 obtain⟨m1,qa,qc,rfl,-⟩:=hq
 clear h hE hQ eg hD ed hei
 have hb0:=below_alloc w (.cells #[.slice ta nt tc,.slice na nn nc,.slice qa m qc,.func (.func gd) #[] lbd] 86)
 have hb1:=below_alloc (w.alloc (.cells #[.slice ta nt tc,.slice na nn nc,.slice qa m qc,.func (.func gd) #[] lbd] 86)) (.cells #[v0,v1,.int .i64 W.time,.int .i64 W.next,v2,v3] 37)
 have hb2:=below_alloc ((w.alloc (.cells #[.slice ta nt tc,.slice na nn nc,.slice qa m qc,.func (.func gd) #[] lbd] 86)).alloc (.cells #[v0,v1,.int .i64 W.time,.int .i64 W.next,v2,v3] 37)) (.cells #[.slice none 0 0,.slice none 0 0,.int .i64 0,.int .i64 0,.slice none 0 0,.slice none 0 0,.int .i64 0,.int .i64 0,.int .i64 0] 39)
 have hb:=below_next (below_next hb0 hb1) hb2
 have hd:=((Box4.new w (.slice ta nt tc) (.slice na nn nc) (.slice qa m qc) (.func (.func gd) #[] lbd) 86).below hb1).below hb2
 have hx:=(Box6.new (w.alloc (.cells #[.slice ta nt tc,.slice na nn nc,.slice qa m qc,.func (.func gd) #[] lbd] 86)) (v0) (v1) (.int .i64 W.time) (.int .i64 W.next) (v2) (v3) 37).below hb2
 have hr:=Box9.new ((w.alloc (.cells #[.slice ta nt tc,.slice na nn nc,.slice qa m qc,.func (.func gd) #[] lbd] 86)).alloc (.cells #[v0,v1,.int .i64 W.time,.int .i64 W.next,v2,v3] 37)) (.slice none 0 0) (.slice none 0 0) (.int .i64 0) (.int .i64 0) (.slice none 0 0) (.slice none 0 0) (.int .i64 0) (.int .i64 0) (.int .i64 0) 39
 rw [World.size_alloc] at hx
 rw [World.size_alloc,World.size_alloc] at hr
 have hz:w.heap.size+3≤(((w.alloc (.cells #[.slice ta nt tc,.slice na nn nc,.slice qa m qc,.func (.func gd) #[] lbd] 86)).alloc (.cells #[v0,v1,.int .i64 W.time,.int .i64 W.next,v2,v3] 37)).alloc (.cells #[.slice none 0 0,.slice none 0 0,.int .i64 0,.int .i64 0,.slice none 0 0,.slice none 0 0,.int .i64 0,.int .i64 0,.int .i64 0] 39)).heap.size:=by rw [World.size_alloc,World.size_alloc,World.size_alloc]; omega
 have HD:=hideE hd
 have HX:=hideE hx
 have HR:=hideE hr
 clear hd hx hr
 have hst:=fun (w:World) (a:Addr)=>run_store Tryz.prog w a (.func (.func gd) #[] lbd) .plain rfl
 obtain⟨⟨d0,-⟩,⟨d1,-⟩,⟨d2,-⟩,⟨d3,-⟩⟩:=HD.out
 obtain⟨⟨x0,-⟩,⟨x1,-⟩,⟨x2,-⟩,⟨x3,-⟩,⟨x4,-⟩,⟨x5,-⟩⟩:=HX.out
 go_enter Tryz.func38,Tryz.ntmps38
 go_wp2_with fail
 clear d0 d1 d2 d3 x0 x1 x2 x3 x4 x5 hst
 generalize (((w.alloc (.cells #[.slice ta nt tc,.slice na nn nc,.slice qa m qc,.func (.func gd) #[] lbd] 86)).alloc (.cells #[v0,v1,.int .i64 W.time,.int .i64 W.next,v2,v3] 37)).alloc (.cells #[.slice none 0 0,.slice none 0 0,.int .i64 0,.int .i64 0,.slice none 0 0,.slice none 0 0,.int .i64 0,.int .i64 0,.int .i64 0] 39))=W1 at hb HD HX HR hz ⊢
 clear hb0 hb1 hb2
 refine(refused_any p _ _ _ _ nt nn m tx nx g lb ei Q _ _ _ _ lo hi W W1 (HE.out.below hb) (Hp.out.below hb) hwf (Ht.out.below hb) (Hn.out.below hb) (Hq.out.below hb) Hg.out (fun i hi w' hbw=>HQ.out i hi w' (below_next hb hbw))).mono ?_
 rintro e w2 ⟨r,rfl,href,hb2⟩
 have Href:=hideE href
 have hB2:=below_next hb hb2
 have hz2:=hb2.size
 have HD2:=hideE (HD.out.below hb2)
 have HX2:=hideE (HX.out.below hb2)
 have HR2:=hideE (HR.out.below hb2)
 clear href hb2 hb HD HX HR
 cases r with
 | some i=>
  have hi7:i<7:=by
   rcases Href.out with⟨_,e⟩ | ⟨_,_,e⟩ | ⟨_,_,_,k,hk,_,_,e⟩ | ⟨_,_,_,_,e⟩
   ·simp at e; omega
   ·simp at e; omega
   ·have:=Hei.out k hk; simp at e; omega
   ·simp at e
  unfold refV
  have hal:=below_alloc w2 (.cells #[.slice none 0 0,.slice none 0 0,.int .i64 0,.int .i64 0,.slice none 0 0,.slice none 0 0,.int .i64 0,.int .i64 0,errV (p i)] 81)
  have HC:=hideE (Box9.new w2 (.slice none 0 0) (.slice none 0 0) (.int .i64 0) (.int .i64 0) (.slice none 0 0) (.slice none 0 0) (.int .i64 0) (.int .i64 0) (errV (p i)) 81)
  have HR:=hideE (HR2.out.below hal)
  have hB3:=below_next hB2 hal
  obtain⟨-,-,-,-,-,-,-,-,⟨c8,-⟩⟩:=HC.out
  go_wp2_with fail
  clear c8
  generalize w2.alloc (.cells #[.slice none 0 0,.slice none 0 0,.int .i64 0,.int .i64 0,.slice none 0 0,.slice none 0 0,.int .i64 0,.int .i64 0,errV (p i)] 81)=W3 at HC HR hB3 ⊢
  generalize w2.heap.size=C at HC ⊢
  clear hal
  obtain⟨-,-,-,-,-,-,-,-,⟨c8,-⟩⟩:=HC.out
  go_wp2_with fail
  refine(codeOf_any p i hi7 _ (HE.out.below hB3)).mono ?_
  rintro e wz ⟨rfl,hbz⟩
  have hbY:=below_next hB3 hbz
  have HRy:=hideE (HR.out.below hbz)
  clear c8
  obtain⟨⟨r0,g0⟩,⟨r1,g1⟩,⟨r2,g2⟩,⟨r3,g3⟩,⟨r4,g4⟩,⟨r5,g5⟩,⟨r6,g6⟩,⟨r7,g7⟩,⟨r8,g8⟩⟩:=HRy.out
  go_wp2_with fail
  have HRz:=HRy.out.put (.slice none 0 0) (.slice none 0 0) (.int .i64 0) (.int .i64 0) (.slice none 0 0) (.slice none 0 0) (.int .i64 0) (.int .i64 0) (.int .i64 (errC i))
  have hT:=Turned.put9 wz (w.heap.size+1+1) (.slice none 0 0) (.slice none 0 0) (.int .i64 0) (.int .i64 0) (.slice none 0 0) (.slice none 0 0) (.int .i64 0) (.int .i64 0) (.int .i64 (errC i))
  clear r0 r1 r2 r3 r4 r5 r6 r7 r8 g0 g1 g2 g3 g4 g5 g6 g7 g8
  refine bodyPost_ret (v:=.agg #[.slice none 0 0,.slice none 0 0,.int .i64 0,.int .i64 0,.slice none 0 0,.slice none 0 0,.int .i64 0,.int .i64 0,.int .i64 (errC i)]) (by simp [results,Tryz.results38,go_sem,HRz.1.1,HRz.2.1.1,HRz.2.2.1.1,HRz.2.2.2.1.1,HRz.2.2.2.2.1.1,HRz.2.2.2.2.2.1.1,HRz.2.2.2.2.2.2.1.1,HRz.2.2.2.2.2.2.2.1.1,HRz.2.2.2.2.2.2.2.2.1]) rfl ⟨some i,Href.out,?_⟩
  exact⟨_,_,_,_,rfl,noW_own,hbY.trans (hT.below (B:=w.heap.size) hbY.size (fun k e=>by omega))⟩
 | none=>
  unfold refV
  have hal:=below_alloc w2 (.cells #[.slice none 0 0,.slice none 0 0,.int .i64 0,.int .i64 0,.slice none 0 0,.slice none 0 0,.int .i64 0,.int .i64 0,.nilIface] 81)
  have HC:=hideE (Box9.new w2 (.slice none 0 0) (.slice none 0 0) (.int .i64 0) (.int .i64 0) (.slice none 0 0) (.slice none 0 0) (.int .i64 0) (.int .i64 0) (.nilIface) 81)
  have HR3:=hideE (HR2.out.below hal)
  have HX3:=hideE (HX2.out.below hal)
  have HD3:=hideE (HD2.out.below hal)
  have hB3:=below_next hB2 hal
  have hz3:w2.heap.size<(w2.alloc (.cells #[.slice none 0 0,.slice none 0 0,.int .i64 0,.int .i64 0,.slice none 0 0,.slice none 0 0,.int .i64 0,.int .i64 0,.nilIface] 81)).heap.size:=by rw [World.size_alloc]; omega
  obtain⟨-,-,-,-,-,-,-,-,⟨c8,-⟩⟩:=HC.out
  obtain⟨⟨x0,-⟩,⟨x1,-⟩,⟨x2,-⟩,⟨x3,-⟩,⟨x4,-⟩,⟨x5,-⟩⟩:=HX3.out
  go_wp2_with fail
  clear c8 x0 x1 x2 x3 x4 x5
  generalize w2.alloc (.cells #[.slice none 0 0,.slice none 0 0,.int .i64 0,.int .i64 0,.slice none 0 0,.slice none 0 0,.int .i64 0,.int .i64 0,.nilIface] 81)=W3 at HC HR3 HX3 HD3 hB3 hz3 ⊢
  generalize hCe:w2.heap.size=C at HC hz3 ⊢
  clear hal
  refine(cloneWorldR_any _ _ _ _ lo hi W W3 (Hp.out.below hB3) b1 b2 b3 b4).mono ?_
  rintro e w4 ⟨z0,z1,z2,z3,rfl,ho,hb4⟩
  obtain⟨l0,lc0,l1,lc1,l2,lc2,l3,lc3,rfl,rfl,rfl,rfl⟩:=ho.form
  have hB4:=below_next hB3 hb4
  have hz4:=hb4.size
  have HC4:=hideE (HC.out.below hb4)
  have HR4:=hideE (HR3.out.below hb4)
  have HD4:=hideE (HD3.out.below hb4)
  have Ho:=hideE ho
  clear ho HC HR3 HX3 HD3 hb4
  obtain⟨⟨c0,f0⟩,⟨c1,f1⟩,⟨c2,f2⟩,⟨c3,f3⟩,⟨c4,f4⟩,⟨c5,f5⟩,⟨c6,f6⟩,⟨c7,f7⟩,⟨c8,f8⟩⟩:=HC4.out
  obtain⟨⟨d0,-⟩,⟨d1,-⟩,⟨d2,-⟩,⟨d3,-⟩⟩:=HD4.out
  have hne1:C≠w.heap.size:=by omega
  have hne2:w.heap.size≠C:=by omega
  have e0:∀(args:Array Value) (w:World),(callFunc gd args).run Tryz.prog w = .ok (.enter gd args) w:=Hed.out
  go_wp2_with fail
  clear c0 c1 c2 c3 c4 c5 c6 c7 c8 f0 f1 f2 f3 f4 f5 f6 f7 f8 d0 d1 d2 d3 e0
  have hT:Turned (fun k=>k=C) w4 ((((((w4.setCell ⟨C,0,none⟩ (.slice l0 W.pool.n lc0)).setCell ⟨C,1,none⟩ (.slice l1 W.pool.hn lc1)).setCell ⟨C,2,none⟩ (.int .i64 W.time)).setCell ⟨C,3,none⟩ (.int .i64 W.next)).setCell ⟨C,4,none⟩ (.slice l2 W.sn lc2)).setCell ⟨C,5,none⟩ (.slice l3 W.pn lc3)):=Turned.put6 w4 C (.slice l0 W.pool.n lc0) (.slice l1 W.pool.hn lc1) (.int .i64 W.time) (.int .i64 W.next) (.slice l2 W.sn lc2) (.slice l3 W.pn lc3)
  have hC5:Box9 ((((((w4.setCell ⟨C,0,none⟩ (.slice l0 W.pool.n lc0)).setCell ⟨C,1,none⟩ (.slice l1 W.pool.hn lc1)).setCell ⟨C,2,none⟩ (.int .i64 W.time)).setCell ⟨C,3,none⟩ (.int .i64 W.next)).setCell ⟨C,4,none⟩ (.slice l2 W.sn lc2)).setCell ⟨C,5,none⟩ (.slice l3 W.pn lc3)) C (.slice l0 W.pool.n lc0) (.slice l1 W.pool.hn lc1) (.int .i64 W.time) (.int .i64 W.next) (.slice l2 W.sn lc2) (.slice l3 W.pn lc3) (.int .i64 0) (.int .i64 0) (.nilIface):=Box9.six HC4.out (.slice l0 W.pool.n lc0) (.slice l1 W.pool.hn lc1) (.int .i64 W.time) (.int .i64 W.next) (.slice l2 W.sn lc2) (.slice l3 W.pn lc3)
  have hR5:=HR4.out.turned hT (by omega)
  have hO5:WorldOwnR ((((((w4.setCell ⟨C,0,none⟩ (.slice l0 W.pool.n lc0)).setCell ⟨C,1,none⟩ (.slice l1 W.pool.hn lc1)).setCell ⟨C,2,none⟩ (.int .i64 W.time)).setCell ⟨C,3,none⟩ (.int .i64 W.next)).setCell ⟨C,4,none⟩ (.slice l2 W.sn lc2)).setCell ⟨C,5,none⟩ (.slice l3 W.pn lc3)) W3.heap.size w4.heap.size (.slice l0 W.pool.n lc0) (.slice l1 W.pool.hn lc1) (.slice l2 W.sn lc2) (.slice l3 W.pn lc3) W:=Ho.out.put6 C (.slice l0 W.pool.n lc0) (.slice l1 W.pool.hn lc1) (.int .i64 W.time) (.int .i64 W.next) (.slice l2 W.sn lc2) (.slice l3 W.pn lc3) (Or.inl (by omega))
  have hB5:=hB4.trans (hT.below (B:=w.heap.size) hB4.size (fun k e=>by omega))
  have hz5:=hT.size
  generalize ((((((w4.setCell ⟨C,0,none⟩ (.slice l0 W.pool.n lc0)).setCell ⟨C,1,none⟩ (.slice l1 W.pool.hn lc1)).setCell ⟨C,2,none⟩ (.int .i64 W.time)).setCell ⟨C,3,none⟩ (.int .i64 W.next)).setCell ⟨C,4,none⟩ (.slice l2 W.sn lc2)).setCell ⟨C,5,none⟩ (.slice l3 W.pn lc3))=W5 at hC5 hR5 hO5 hB5 hz5 ⊢
  have HR5:=hideE hR5
  clear hR5 hT Ho HC4 HR4 HD4
  have hnb:(¬∃i,i<nt∧8000<(tx i).size)∧ImplW W∧(¬∃i,i<nn∧¬NameP (nx i))∧(∀j,j<m→Q j):=by
   rcases Href.out with⟨_,e⟩ | ⟨_,_,e⟩ | ⟨_,_,_,k,hk,_,_,e⟩ | ⟨h1,h2,h3,h4,e⟩
   ·cases e
   ·cases e
   ·cases e
   ·exact⟨h1,h2,h3,h4⟩
  refine(HDo.out C W5 _ _ _ _ (by omega) hB5 (by omega) hnb.2.1 hnb.1 hnb.2.2.1 hnb.2.2.2 (hO5.wide (by omega) (by omega)) hC5).mono ?_
  rintro e w6 ⟨⟨ve,rfl⟩,hb6,hz6,hcase⟩
  have hR6:Box9 w6 (w.heap.size+1+1) (.slice none 0 0) (.slice none 0 0) (.int .i64 0) (.int .i64 0) (.slice none 0 0) (.slice none 0 0) (.int .i64 0) (.int .i64 0) (.int .i64 0):=by
   obtain⟨r0,r1,r2,r3,r4,r5,r6,r7,r8⟩:=HR5.out
   have hlt9:w.heap.size+1+1<C:=by omega
   exact⟨r0.under hb6 hlt9,r1.under hb6 hlt9,r2.under hb6 hlt9,r3.under hb6 hlt9,r4.under hb6 hlt9,r5.under hb6 hlt9,r6.under hb6 hlt9,r7.under hb6 hlt9,r8.under hb6 hlt9⟩
  have HR:=hideE hR6
  have hB6:Below w.heap.size w w6:=hB5.trans (hb6.mono (by omega))
  clear hnb hC5 hO5 HR5 hR6
  rcases hcase with⟨hcode,z0,z1,z2,z3,hC6,hO6⟩ | ⟨i,hi7,ho,z0,z1,z2,z3,z4,z5,z6,z7,hC6⟩
  rotate_left
  ·have HC:=hideE hC6
   clear hC6
   obtain⟨-,-,-,-,-,-,-,-,⟨c8,-⟩⟩:=HC.out
   go_wp2_with fail
   refine(codeOf_any p i hi7 _ (HE.out.below hB6)).mono ?_
   rintro e wz ⟨rfl,hbz⟩
   have hbY:=below_next hB6 hbz
   have HRy:=hideE (HR.out.below hbz)
   clear c8
   obtain⟨⟨r0,g0⟩,⟨r1,g1⟩,⟨r2,g2⟩,⟨r3,g3⟩,⟨r4,g4⟩,⟨r5,g5⟩,⟨r6,g6⟩,⟨r7,g7⟩,⟨r8,g8⟩⟩:=HRy.out
   go_wp2_with fail
   have HRz:=HRy.out.put (.slice none 0 0) (.slice none 0 0) (.int .i64 0) (.int .i64 0) (.slice none 0 0) (.slice none 0 0) (.int .i64 0) (.int .i64 0) (.int .i64 (errC i))
   have hT:=Turned.put9 wz (w.heap.size+1+1) (.slice none 0 0) (.slice none 0 0) (.int .i64 0) (.int .i64 0) (.slice none 0 0) (.slice none 0 0) (.int .i64 0) (.int .i64 0) (.int .i64 (errC i))
   clear r0 r1 r2 r3 r4 r5 r6 r7 r8 g0 g1 g2 g3 g4 g5 g6 g7 g8
   refine bodyPost_ret (v:=.agg #[.slice none 0 0,.slice none 0 0,.int .i64 0,.int .i64 0,.slice none 0 0,.slice none 0 0,.int .i64 0,.int .i64 0,.int .i64 (errC i)]) (by simp [results,Tryz.results38,go_sem,HRz.1.1,HRz.2.1.1,HRz.2.2.1.1,HRz.2.2.2.1.1,HRz.2.2.2.2.1.1,HRz.2.2.2.2.2.1.1,HRz.2.2.2.2.2.2.1.1,HRz.2.2.2.2.2.2.2.1.1,HRz.2.2.2.2.2.2.2.2.1]) rfl ⟨none,Href.out,?_⟩
   show NewWOut o w _ _
   rw [ho]
   exact⟨_,_,_,_,rfl,noW_own,hbY.trans (hT.below (B:=w.heap.size) hbY.size (fun k e=>by omega))⟩
  ·have Ho:=hideE hO6
   obtain⟨n0,nc0,n1,nc1,n2,nc2,n3,nc3,rfl,rfl,rfl,rfl⟩:=hO6.form
   have HC:=hideE hC6
   have Hcode:=hideE hcode
   clear hC6 hO6 hcode
   obtain⟨⟨c0,-⟩,⟨c1,-⟩,⟨c2,-⟩,⟨c3,-⟩,⟨c4,-⟩,⟨c5,-⟩,⟨c6,-⟩,⟨c7,-⟩,⟨c8,-⟩⟩:=HC.out
   obtain⟨⟨r0,g0⟩,⟨r1,g1⟩,⟨r2,g2⟩,⟨r3,g3⟩,⟨r4,g4⟩,⟨r5,g5⟩,⟨r6,g6⟩,⟨r7,g7⟩,⟨r8,g8⟩⟩:=HR.out
   have hne3:C≠w.heap.size+1+1:=by omega
   have hne4:w.heap.size+1+1≠C:=by omega
   go_wp2_with fail
   have HRz:=HR.out.put (.slice n0 o.world.pool.n nc0) (.slice n1 o.world.pool.hn nc1) (.int .i64 o.world.time) (.int .i64 o.world.next) (.slice n2 o.world.sn nc2) (.slice n3 o.world.pn nc3) (.int .i64 o.id) (.int .i64 o.many) (.int .i64 0)
   have hT:=Turned.put9 w6 (w.heap.size+1+1) (.slice n0 o.world.pool.n nc0) (.slice n1 o.world.pool.hn nc1) (.int .i64 o.world.time) (.int .i64 o.world.next) (.slice n2 o.world.sn nc2) (.slice n3 o.world.pn nc3) (.int .i64 o.id) (.int .i64 o.many) (.int .i64 0)
   clear r0 r1 r2 r3 r4 r5 r6 r7 r8 g0 g1 g2 g3 g4 g5 g6 g7 g8 c0 c1 c2 c3 c4 c5 c6 c7 c8
   refine bodyPost_ret (v:=.agg #[.slice n0 o.world.pool.n nc0,.slice n1 o.world.pool.hn nc1,.int .i64 o.world.time,.int .i64 o.world.next,.slice n2 o.world.sn nc2,.slice n3 o.world.pn nc3,.int .i64 o.id,.int .i64 o.many,.int .i64 0]) (by simp [results,Tryz.results38,go_sem,HRz.1.1,HRz.2.1.1,HRz.2.2.1.1,HRz.2.2.2.1.1,HRz.2.2.2.2.1.1,HRz.2.2.2.2.2.1.1,HRz.2.2.2.2.2.2.1.1,HRz.2.2.2.2.2.2.2.1.1,HRz.2.2.2.2.2.2.2.2.1]) rfl ⟨none,Href.out,?_⟩
   show NewWOut o w _ _
   have hs9:=hT.size
   exact⟨_,_,_,_,by rw [←Hcode.out],(Ho.out.turned hT (fun k e=>by omega)).wide (by omega) hs9,hB6.trans (hT.below (B:=w.heap.size) hB6.size (fun k e=>by omega))⟩
theorem beq_no{j i:Nat}(h:j≠i):(j == i)=false:=by simpa using h
def putsA(d:Nat→Nat)(x:Nat→Value):List Nat→Act→Act
 | [],a=>a
 | i :: r,a=>putsA d x r (a.put (some (d i)) (x i))
theorem put_same(a:Act)(k:Nat)(u v:Value):(a.put (some k) u).put (some k) v=a.put (some k) v:=by
 unfold Act.put
 simp [Array.setIfInBounds_setIfInBounds]
theorem put_other(a:Act){k j:Nat}(u v:Value)(h:k≠j):(a.put (some k) u).put (some j) v=(a.put (some j) v).put (some k) u:=
 Act.put_comm a u v (fun d e e'=>h (by injection e with e; injection e' with e'; omega))
theorem putsA_put(d:Nat→Nat)(x:Nat→Value)(k:Nat)(v:Value):∀(M:List Nat) (a:Act),(∀i∈M,d i≠k)→(putsA d x M a).put (some k) v=putsA d x M (a.put (some k) v)
 | [],_,_=>rfl
 | i :: r,a,h=>by
  show(putsA d x r (a.put (some (d i)) (x i))).put (some k) v=putsA d x r ((a.put (some k) v).put (some (d i)) (x i))
  rw [putsA_put d x k v r _ (fun j hj=>h j (List.mem_cons_of_mem _ hj)),put_other a _ _ (h i List.mem_cons_self)]
theorem putsA_congr{d:Nat→Nat}{x y:Nat→Value}:∀{M:List Nat} {a:Act},(∀i∈M,x i=y i)→putsA d x M a=putsA d y M a
 | [],_,_=>rfl
 | i :: r,a,h=>by
  show putsA d x r (a.put (some (d i)) (x i))=putsA d y r (a.put (some (d i)) (y i))
  rw [h i List.mem_cons_self]
  exact putsA_congr (fun j hj=>h j (List.mem_cons_of_mem _ hj))
def setX(x:Nat→Value)(i:Nat)(v:Value)(j:Nat):Value:=if j=i then v else x j
theorem putsA_set(d:Nat→Nat)(x:Nat→Value)(i:Nat)(v:Value):∀(M:List Nat) (a:Act),i∈M→M.Pairwise (fun p q=>d p≠d q)→(putsA d x M a).put (some (d i)) v=putsA d (setX x i v) M a
 | [],_,h,_=>by cases h
 | j :: r,a,h,hp=>by
  obtain⟨h1,h2⟩:=List.pairwise_cons.1 hp
  show(putsA d x r (a.put (some (d j)) (x j))).put (some (d i)) v=putsA d (setX x i v) r (a.put (some (d j)) (setX x i v j))
  by_cases e:j=i
  ·subst e
   have hni:∀p∈r,d p≠d j:=fun p hp e=>h1 p hp e.symm
   rw [putsA_put d x (d j) v r _ hni,put_same]
   have e1:setX x j v j=v:=by unfold setX; rw [if_pos rfl]
   rw [e1]
   refine putsA_congr (fun p hp=>?_)
   unfold setX
   rw [if_neg (fun e=>hni p hp (by rw [e]))]
  ·have e1:setX x i v j=x j:=by unfold setX; rw [if_neg e]
   rw [e1]
   rcases List.mem_cons.1 h with h | h
   ·exact absurd h.symm e
   ·exact putsA_set d x i v r _ h h2
def listS(b:Nat→Bool):List Nat→Array Bool→Array Bool
 | [],l=>l
 | i :: r,l=>listS b r (if b i then l.setIfInBounds i true else l)
def setB(b:Nat→Bool)(i:Nat)(j:Nat):Bool:=j == i || b j
theorem listS_set(b:Nat→Bool)(k:Nat):∀(M:List Nat) (l:Array Bool),(listS b M l).setIfInBounds k true=listS b M (l.setIfInBounds k true)
 | [],_=>rfl
 | i :: r,l=>by
  show(listS b r (if b i then l.setIfInBounds i true else l)).setIfInBounds k true=listS b r (if b i then(l.setIfInBounds k true).setIfInBounds i true else l.setIfInBounds k true)
  rw [listS_set b k r]
  by_cases h:b i
  ·rw [if_pos h,if_pos h]
   by_cases e:i=k
   ·subst e; rfl
   ·rw [Array.setIfInBounds_comm _ _ e]
  ·rw [if_neg h,if_neg h]
theorem listS_congr{b c:Nat→Bool}:∀{M:List Nat} {l:Array Bool},(∀i∈M,b i=c i)→listS b M l=listS c M l
 | [],_,_=>rfl
 | i :: r,l,h=>by
  show listS b r (if b i then _ else _)=listS c r (if c i then _ else _)
  rw [h i List.mem_cons_self]
  exact listS_congr (fun j hj=>h j (List.mem_cons_of_mem _ hj))
theorem listS_step(b:Nat→Bool)(k:Nat):∀(M:List Nat) (l:Array Bool),k∈M→(listS b M l).setIfInBounds k true=listS (setB b k) M l
 | [],_,h=>by cases h
 | i :: r,l,h=>by
  show(listS b r (if b i then l.setIfInBounds i true else l)).setIfInBounds k true=listS (setB b k) r (if setB b k i then l.setIfInBounds i true else l)
  by_cases e:i=k
  ·subst e
   have e1:setB b i i=true:=by unfold setB; simp
   rw [if_pos e1,listS_set]
   have e2:(if b i then l.setIfInBounds i true else l).setIfInBounds i true=l.setIfInBounds i true:=by
    by_cases h':b i
    ·rw [if_pos h',Array.setIfInBounds_setIfInBounds]
    ·rw [if_neg h']
   rw [e2]
   by_cases hr:i∈r
   ·rw [←listS_step b i r _ hr,listS_set,Array.setIfInBounds_setIfInBounds]
   ·refine listS_congr (fun j hj=>?_)
    unfold setB
    have:(j == i)=false:=beq_no fun e=>hr (e▸hj)
    rw [this,Bool.false_or]
  ·have e1:setB b k i=b i:=by
    unfold setB
    have:(i == k)=false:=beq_no e
    rw [this,Bool.false_or]
   rw [e1]
   rcases List.mem_cons.1 h with h | h
   ·exact absurd h.symm e
   ·exact listS_step b k r _ h
def partsB:List Nat→List (Nat→Bool)
 | []=>[fun _=>false]
 | i :: r=>(partsB r).flatMap fun b=>[b,setB b i]
theorem partsB_all(c:Nat→Bool):∀M:List Nat,M.Nodup→∃b∈partsB M,(∀i∈M,b i=c i)∧∀i,i∉M→b i=false
 | [],_=>⟨_,List.mem_singleton.2 rfl,fun i h=>(by cases h),fun _ _=>rfl⟩
 | i :: r,hn=>by
  obtain⟨h1,h2⟩:=List.nodup_cons.1 hn
  obtain⟨b,hb,hc,ho⟩:=partsB_all c r h2
  by_cases e:c i
  ·refine⟨setB b i,List.mem_flatMap.2 ⟨b,hb,by simp⟩,fun j hj=>?_,fun j hj=>?_⟩
   ·unfold setB
    rcases List.mem_cons.1 hj with rfl | hj
    ·simp [e]
    ·have:(j == i)=false:=beq_no fun e=>h1 (e▸hj)
     rw [this,Bool.false_or]; exact hc j hj
   ·unfold setB
    have h3:(j == i)=false:=beq_no fun e=>hj (e▸List.mem_cons_self)
    rw [h3,Bool.false_or]
    exact ho j (fun h=>hj (List.mem_cons_of_mem _ h))
  ·refine⟨b,List.mem_flatMap.2 ⟨b,hb,by simp⟩,fun j hj=>?_,fun j hj=>?_⟩
   ·rcases List.mem_cons.1 hj with rfl | hj
    ·rw [ho j h1]; simpa using e
    ·exact hc j hj
   ·exact ho j (fun h=>hj (List.mem_cons_of_mem _ h))
theorem count_set(b:Nat→Bool)(i:Nat):∀M:List Nat,M.Nodup→i∈M→b i=false→(M.countP fun j=>!b j)=(M.countP fun j=>!setB b i j)+1
 | [],_,h,_=>by cases h
 | j :: r,hn,h,hbi=>by
  obtain⟨g1,g2⟩:=List.nodup_cons.1 hn
  rw [List.countP_cons,List.countP_cons]
  rcases List.mem_cons.1 h with e | hir
  ·subst e
   have e1:(r.countP fun j=>!b j)=r.countP fun j=>!setB b i j:=by
    refine List.countP_congr fun p hp=>?_
    unfold setB
    have:(p == i)=false:=beq_no fun e=>g1 (e▸hp)
    rw [this,Bool.false_or]
   have e2:setB b i i=true:=by unfold setB; simp
   rw [e1,hbi,e2]; simp
  ·have hne:(j == i)=false:=beq_no fun e=>g1 (e▸hir)
   have e2:setB b i j=b j:=by unfold setB; rw [hne,Bool.false_or]
   have h3:=count_set b i r g2 hir hbi
   rw [e2]
   omega
def monoChk(md:Region.Mode)(ops:Array Oper)(M:List Nat)(D:Nat→List Nat)(l0:Array Bool):Bool:=
 (partsB M).all fun b=>!(M.all fun i=>!b i || (D i).all b) || (M.all b || (!(Region.ready md ops (listS b M l0)).isEmpty && (Region.ready md ops (listS b M l0)).all fun i=>M.contains i && !b i && (D i).all b))
section
variable {P : Program} {md : Region.Mode} {ops : Array Oper} {Q : Exit → Act → World → Prop} {S G : World → Prop}
theorem mono_from{M:List Nat}{D:Nat→List Nat}{d:Nat→Nat}{F:Nat→Value→World→Prop}{l0:Array Bool}{a0:Act}{fuel:Nat}
  (hchk:monoChk md ops M D l0=true) (hn:M.Nodup) (hd:M.Pairwise (fun p q=>d p≠d q)) (hDM:∀i∈M,∀j∈D i,j∈M)
  (hF:∀i v w w',F i v w→Below w.heap.size w w'→F i v w') (hG:∀w w',G w→Below w.heap.size w w'→G w')
  (hstep:∀i∈M,∀x w,S w→G w→(∀j∈D i,F j (x j) w)→∀K:Act→World→Prop,Shut (∀a' v w',a'=(putsA d x M a0).put (some (d i)) v→S w'→F i v w'→Below w.heap.size w w'→K a' w')→wpOp P ops Q i K (putsA d x M a0) w)
  (hend:∀x w,S w→G w→(∀i∈M,F i (x i) w)→wpAnyH P md ops Q S fuel (listS (fun _=>true) M l0) (putsA d x M a0) w) :
  ∀(n:Nat) (b:Nat→Bool),(M.countP fun i=>!b i)=n→(∀i∈M,b i=true→∀j∈D i,b j=true)→∀x w,S w→G w→(∀i∈M,b i=true→F i (x i) w)→wpAnyH P md ops Q S (fuel+n) (listS b M l0) (putsA d x M a0) w:=by
 intro n
 induction n with
 | zero=>
  intro b hc hb x w hS hg hf
  have hall:∀i∈M,b i=true:=fun i hi=>by
   have:=(List.countP_eq_zero.1 hc) i hi
   simpa using this
  rw [listS_congr (c:=fun _=>true) hall]
  exact hend x w hS hg (fun i hi=>hf i hi (hall i hi))
 | succ n ih=>
  intro b hc hb x w hS hg hf
  obtain⟨c,hcm,hcb,hco⟩:=partsB_all b M hn
  have hk:=List.all_eq_true.1 hchk c hcm
  have hcl:(M.all fun i=>!c i || (D i).all c)=true:=List.all_eq_true.2 fun i hi=>by
   rw [hcb i hi]
   by_cases e:b i=true
   ·have:(D i).all c=true:=List.all_eq_true.2 fun j hj=>by rw [hcb j (hDM i hi j hj)]; exact hb i hi e j hj
    rw [this]; simp
   ·have:b i=false:=by simpa using e
    rw [this]; rfl
  have hna:(M.all c)=false:=by
   cases h:M.all c with
   | false=>rfl
   | true=>
    have h0:(M.countP fun i=>!b i)=0:=List.countP_eq_zero.2 fun i hi=>by rw [←hcb i hi,List.all_eq_true.1 h i hi]; simp
    omega
  rw [hcl,hna] at hk
  simp only [Bool.not_true,Bool.false_or,Bool.and_eq_true] at hk
  rw [listS_congr (c:=c) (fun i hi=>(hcb i hi).symm)]
  refine⟨fun h0=>?_,fun i hi=>?_⟩
  ·rw [h0] at hk; simp at hk
  ·have hq:=List.all_eq_true.1 hk.2 i hi
   simp only [Bool.and_eq_true,Bool.not_eq_true'] at hq
   have hiM:i∈M:=by simpa using hq.1.1
   have hbi:b i=false:=by rw [←hcb i hiM]; exact hq.1.2
   have hDi:∀j∈D i,b j=true:=fun j hj=>by rw [←hcb j (hDM i hiM j hj)]; exact List.all_eq_true.1 hq.2 j hj
   refine hstep i hiM x w hS hg (fun j hj=>hf j (hDM i hiM j hj) (hDi j hj)) _ ?_
   intro a' v w' ha hS' hFv hbw
   refine⟨hS',?_⟩
   rw [ha,putsA_set d x i v M a0 hiM hd,listS_step c i M l0 hiM]
   have hcb2:∀j∈M,setB c i j=setB b i j:=fun j hj=>by unfold setB; rw [hcb j hj]
   rw [listS_congr (c:=setB b i) hcb2]
   refine ih (setB b i) ?_ ?_ (setX x i v) w' hS' (hG w w' hg hbw) ?_
   ·have h1:(M.countP fun j=>!b j)=(M.countP fun j=>!setB b i j)+1:=count_set b i M hn hiM hbi
    omega
   ·intro p hp hbp j hj
    unfold setB at hbp ⊢
    by_cases e:p=i
    ·subst e; rw [hDi j hj]; simp
    ·have hne:(p == i)=false:=beq_no e
     rw [hne,Bool.false_or] at hbp
     rw [hb p hp hbp j hj]; simp
   ·intro p hp hbp
    unfold setX
    by_cases e:p=i
    ·subst e; rw [if_pos rfl]; exact hFv
    ·rw [if_neg e]
     unfold setB at hbp
     have hne:(p == i)=false:=beq_no e
     rw [hne,Bool.false_or] at hbp
     exact hF p _ w w' (hf p hp hbp) hbw
theorem mono_all{M:List Nat}{D:Nat→List Nat}{d:Nat→Nat}{F:Nat→Value→World→Prop}{l0:Array Bool}{a0:Act}{fuel:Nat}(x0:Nat→Value)
  (hchk:monoChk md ops M D l0=true) (hn:M.Nodup) (hd:M.Pairwise (fun p q=>d p≠d q)) (hDM:∀i∈M,∀j∈D i,j∈M)
  (hF:∀i v w w',F i v w→Below w.heap.size w w'→F i v w') (hG:∀w w',G w→Below w.heap.size w w'→G w')
  (hstep:∀i∈M,∀x w,S w→G w→(∀j∈D i,F j (x j) w)→∀K:Act→World→Prop,Shut (∀a' v w',a'=(putsA d x M a0).put (some (d i)) v→S w'→F i v w'→Below w.heap.size w w'→K a' w')→wpOp P ops Q i K (putsA d x M a0) w)
  (hend:∀x w,S w→G w→(∀i∈M,F i (x i) w)→wpAnyH P md ops Q S fuel (listS (fun _=>true) M l0) (putsA d x M a0) w)
  {a:Act} {w:World} {f:Nat} (ha:a=putsA d x0 M a0) (hf:f=fuel+M.length) (hS:S w) (hg:G w):wpAnyH P md ops Q S f l0 a w:=by
 subst ha hf
 have e0:listS (fun _=>false) M l0=l0:=by
  clear hchk hn hd hDM hstep hend
  induction M with
  | nil=>rfl
  | cons i r ih=>exact ih
 have:=mono_from (P:=P) (Q:=Q) hchk hn hd hDM hF hG hstep hend M.length (fun _=>false) (by simp [List.countP_true]) (fun i hi h=>by cases h) x0 w hS hg (fun i hi h=>by cases h)
 rwa [e0] at this
theorem put_self(a:Act)(k:Nat):a.put (some k) (a.tmps.getD k undef)=a:=by
 unfold Act.put
 have:a.tmps.setIfInBounds k (a.tmps.getD k undef)=a.tmps:=by
  refine Array.ext_getElem? fun j=>?_
  rw [Array.getElem?_setIfInBounds]
  by_cases e:k=j
  ·subst e
   by_cases h:k<a.tmps.size
   ·simp [h,Array.getD]
   ·simp [h]
  ·simp [e]
 cases a
 simp only [this]
theorem putsA_self(d:Nat→Nat)(a:Act):∀M:List Nat,putsA d (fun i=>a.tmps.getD (d i) undef) M a=a
 | []=>rfl
 | i :: r=>by
  show putsA d _ r (a.put (some (d i)) (a.tmps.getD (d i) undef))=a
  rw [put_self]
  exact putsA_self d a r
theorem mono_here(M:List Nat)(D:Nat→List Nat)(d:Nat→Nat)(F:Nat→Value→World→Prop)(fuel:Nat){l0:Array Bool}{a:Act}{w:World}
  (hchk:monoChk md ops M D l0=true) (hn:M.Nodup) (hd:M.Pairwise (fun p q=>d p≠d q)) (hDM:∀i∈M,∀j∈D i,j∈M)
  (hF:∀i v w w',F i v w→Below w.heap.size w w'→F i v w') (hG:∀w w',G w→Below w.heap.size w w'→G w') (hS:S w) (hg:G w)
  (hstep:∀i∈M,∀x w,S w→G w→(∀j∈D i,F j (x j) w)→∀K:Act→World→Prop,Shut (∀a' v w',a'=(putsA d x M a).put (some (d i)) v→S w'→F i v w'→Below w.heap.size w w'→K a' w')→wpOp P ops Q i K (putsA d x M a) w)
  (hend:∀x w,S w→G w→(∀i∈M,F i (x i) w)→wpAnyH P md ops Q S fuel (listS (fun _=>true) M l0) (putsA d x M a) w):wpAnyH P md ops Q S (fuel+M.length) l0 a w:=
 mono_all (fun i=>a.tmps.getD (d i) undef) hchk hn hd hDM hF hG hstep hend (putsA_self d a M).symm rfl hS hg
end
def CapsAt(w:World)(lb:Array Value)(caps:List Value):Prop:=lb.size=caps.length∧∀(k:Nat) (u:Value),caps[k]?=some u→∃B,lb[k]?=some (.pointer (some ⟨B,0,none⟩))∧w.cell? ⟨B,0,none⟩=some u
theorem CapsAt.below{w w':World}{lb:Array Value}{caps:List Value}(h:CapsAt w lb caps)(t:Below w.heap.size w w'):CapsAt w' lb caps:=
 ⟨h.1,fun k u hk=>by
  obtain⟨B,h1,h2⟩:=h.2 k u hk
  exact⟨B,h1,(t.cell (lt_of_cell h2)).trans h2⟩⟩
theorem CapsAt.zero{w:World}:CapsAt w #[] []:=⟨rfl,fun k u h=>by simp at h⟩
theorem CapsAt.one{w:World}{B:Nat}{u:Value}(h:w.cell? ⟨B,0,none⟩=some u):CapsAt w #[.pointer (some ⟨B,0,none⟩)] [u]:=
 ⟨rfl,fun k x hk=>by
  match k,hk with
  | 0,hk=>simp at hk; subst hk; exact⟨B,rfl,h⟩
  | k+1,hk=>simp at hk⟩
theorem CapsAt.two{w:World}{B C:Nat}{u v:Value}(h:w.cell? ⟨B,0,none⟩=some u)(h':w.cell? ⟨C,0,none⟩=some v):CapsAt w #[.pointer (some ⟨B,0,none⟩),.pointer (some ⟨C,0,none⟩)] [u,v]:=
 ⟨rfl,fun k x hk=>by
  match k,hk with
  | 0,hk=>simp at hk; subst hk; exact⟨B,rfl,h⟩
  | 1,hk=>simp at hk; subst hk; exact⟨C,rfl,h'⟩
  | k+2,hk=>simp at hk⟩
theorem CapsAt.is1{w:World}{lb:Array Value}{u:Value}(h:CapsAt w lb [u]):∃B,lb=#[.pointer (some ⟨B,0,none⟩)]∧w.cell? ⟨B,0,none⟩=some u:=by
 obtain⟨B,h1,h2⟩:=h.2 0 u rfl
 refine⟨B,?_,h2⟩
 have hs:=h.1
 obtain⟨l⟩:=lb
 match l,hs,h1 with
 | [x],_,h1=>simp at h1; rw [h1]
def QAt(w:World)(p:Nat→Addr)(g i:Nat)(caps:List Value)(v:Value):Prop:=∃lb,v = .agg #[.func (.func g) #[] lb,errV (p i)]∧CapsAt w lb caps
theorem QAt.below{w w':World}{p:Nat→Addr}{g i:Nat}{caps:List Value}{v:Value}(h:QAt w p g i caps v)(t:Below w.heap.size w w'):QAt w' p g i caps v:=by
 obtain⟨lb,hv,hc⟩:=h
 exact⟨lb,hv,hc.below t⟩
theorem texts_one{w:World}{s:ByteArray}{t:TypeId}{f:Nat→ByteArray}(hs:s.size≤maxLen)(h0:f 0=s):TextsAt (w.alloc (.cells #[.string s] t)) (.slice (some ⟨w.heap.size,0,none⟩) 1 1) 1 f:=by
 refine⟨by omega,_,_,rfl,fun i hi=>?_,fun _=>⟨_,_,rfl,fun i hi=>?_⟩⟩
 ·obtain rfl:i=0:=by omega
  rw [h0]; exact hs
 ·obtain rfl:i=0:=by omega
  rw [h0]; exact World.cell?_alloc_at _ _ _ _ rfl
def AskedQ(w:World)(p:Nat→Addr)(m:Nat)(g ei:Nat→Nat)(caps:Nat→List Value)(v:Value):Prop:=∃lb:Nat→Array Value,AskedAt w p v m g lb ei∧∀k,k<m→CapsAt w (lb k) (caps k)
theorem AskedQ.below{w w':World}{p:Nat→Addr}{m:Nat}{g ei:Nat→Nat}{caps:Nat→List Value}{v:Value}(h:AskedQ w p m g ei caps v)(t:Below w.heap.size w w'):AskedQ w' p m g ei caps v:=by
 obtain⟨lb,h1,h2⟩:=h
 exact⟨lb,h1.below t,fun k hk=>(h2 k hk).below t⟩
theorem asked3{w:World}{p:Nat→Addr}{g ei:Nat→Nat}{caps:Nat→List Value}{lb0 lb1 lb2:Array Value}{t:TypeId}(h0:CapsAt w lb0 (caps 0))(h1:CapsAt w lb1 (caps 1))(h2:CapsAt w lb2 (caps 2)):AskedQ (w.alloc (.cells #[.func (.func (g 0)) #[] lb0,errV (p (ei 0)),.func (.func (g 1)) #[] lb1,errV (p (ei 1)),.func (.func (g 2)) #[] lb2,errV (p (ei 2))] t)) p 3 g ei caps (.slice (some ⟨w.heap.size,0,none⟩) 3 3):=by
 have hal:=below_alloc w (.cells #[.func (.func (g 0)) #[] lb0,errV (p (ei 0)),.func (.func (g 1)) #[] lb1,errV (p (ei 1)),.func (.func (g 2)) #[] lb2,errV (p (ei 2))] t)
 refine⟨(fun i=>match i with | 0=>lb0 | 1=>lb1 | _=>lb2),⟨by omega,_,_,rfl,fun _=>⟨_,_,rfl,fun i hi=>?_⟩⟩,fun i hi=>?_⟩
 ·rcases(by omega:i=0∨i=1∨i=2)with rfl | rfl | rfl
  all_goals exact⟨World.cell?_alloc_at _ _ _ _ rfl,World.cell?_alloc_at _ _ _ _ rfl⟩
 ·rcases(by omega:i=0∨i=1∨i=2)with rfl | rfl | rfl
  ·exact h0.below hal
  ·exact h1.below hal
  ·exact h2.below hal
noncomputable def comeN(W:WorldD)(st:ByteArray):Nat→Int→List SnapD
 | 0,_=>[]
 | n+1,x=>open Classical in if (aheadOf W x).id=0∨(aheadOf W x).set≠st then [] else aheadOf W x :: comeN W st n (aheadOf W x).prev
noncomputable def comeL(W:WorldD)(st:ByteArray)(x:Int):List SnapD:=comeN W st (x.toNat+1) x
theorem ahead_falls{W:WorldD}(h:ImplN W){x:Int}(h0:(aheadOf W x).id≠0):(aheadOf W x).id=x∧1≤x∧(aheadOf W x).prev<x∧∃k,SnapNo W x k:=by
 by_cases hx:∃k,SnapNo W x k
 ·obtain⟨k,hk⟩:=hx
  rw [aheadOf_at hk]
  have h1:=(h.range k hk.1).1
  have h2:=(h.snaps.2.1 k hk.1).2.2.1
  have h3:=hk.2.1
  exact⟨hk.2.1,by omega,by omega,k,hk⟩
 ·have e:aheadOf W x=zeroSnap:=by unfold aheadOf; rw [dif_neg hx]
  rw [e] at h0
  exact absurd rfl h0
theorem comeN_fuel{W:WorldD}(h:ImplN W)(st:ByteArray):∀(n:Nat) (x:Int),x.toNat+1≤n→comeN W st n x=comeN W st (x.toNat+1) x:=by
 intro n
 induction n using Nat.strongRecOn with
 | _ n ih=>
  intro x hn
  obtain⟨m,rfl⟩:∃m,n=m+1:=⟨n - 1,by omega⟩
  unfold comeN
  by_cases hq:(aheadOf W x).id=0∨(aheadOf W x).set≠st
  ·rw [if_pos hq,if_pos hq]
  ·rw [if_neg hq,if_neg hq]
   have hf:=ahead_falls h (fun e=>hq (Or.inl e))
   congr 1
   by_cases e:m=x.toNat
   ·rw [e]
   ·have hp:(aheadOf W x).prev.toNat+1≤x.toNat:=by omega
    rw [ih m (by omega) _ (by omega),ih x.toNat (by omega) _ hp]
theorem comeL_stop{W:WorldD}{st:ByteArray}{x:Int}(hq:(aheadOf W x).id=0∨(aheadOf W x).set≠st):comeL W st x = []:=by
 unfold comeL comeN
 rw [if_pos hq]
theorem comeL_next{W:WorldD}(h:ImplN W){st:ByteArray}{x:Int}(hq:¬((aheadOf W x).id=0∨(aheadOf W x).set≠st)):comeL W st x=aheadOf W x :: comeL W st (aheadOf W x).prev:=by
 have hf:=ahead_falls h (fun e=>hq (Or.inl e))
 unfold comeL
 rw [show comeN W st (x.toNat+1) x=aheadOf W x :: comeN W st x.toNat (aheadOf W x).prev by
  show(if _ then _ else _)=_
  rw [if_neg hq]]
 rw [comeN_fuel h st x.toNat _ (by omega)]
theorem comeL_at{W:WorldD}(h:ImplN W)(st:ByteArray):∀(n k:Nat) (x:Int),k<n→SnapNo W x k→(comeL W st x).length≤k+1:=by
 intro n
 induction n with
 | zero=>intro k x hk _; omega
 | succ n ih=>
  intro k x hk hx
  by_cases hq:(aheadOf W x).id=0∨(aheadOf W x).set≠st
  ·rw [comeL_stop hq]; exact Nat.zero_le _
  ·have hf:=ahead_falls h (fun e=>hq (Or.inl e))
   rw [comeL_next h hq,List.length_cons]
   by_cases h0:(aheadOf W (aheadOf W x).prev).id=0
   ·rw [comeL_stop (Or.inl h0)]
    exact Nat.succ_le_succ (Nat.zero_le _)
   ·obtain⟨e1,_,_,k',hk'⟩:=ahead_falls h h0
    have hlt:k'<k:=by
     rcases Nat.lt_trichotomy k' k with h1 | h1 | h1
     ·exact h1
     ·subst h1
      have a1:=hk'.2.1
      have a2:=hx.2.1
      omega
     ·have:=h.rise k' hk'.1 k h1
      have a1:=hk'.2.1
      have a2:=hx.2.1
      omega
    have:=ih k' _ (by omega) hk'
    omega
theorem comeL_len{W:WorldD}(h:ImplN W)(st:ByteArray)(x:Int):(comeL W st x).length≤20:=by
 by_cases h0:(aheadOf W x).id=0
 ·rw [comeL_stop (Or.inl h0)]; exact Nat.zero_le _
 ·obtain⟨_,_,_,k,hk⟩:=ahead_falls h h0
  have h1:=comeL_at h st (k+1) k x (by omega) hk
  have h2:=hk.1
  have h3:=h.snaps.1
  omega
end Go.Proofs.YtmgeglgboadfiaaGreatDoor

namespace Go.Proofs.YtmgeglgboadfiaaGreatDoor
open Go.RowKit Go.Maps
set_option linter.unusedVariables false
theorem sets_run{w:World}{W:WorldD}{M:Nat}{vd:Nat→Value}(h:SetsMap w W M W.sn vd){x:ByteArray}(hx:x.size≤maxLen){v:Value}(hat:(putD (fun i=>keyS (W.sets i).name) (fun i=>setV (vd i) (W.sets i)) W.sn).atKey (keyS x) (.held (.agg #[.string ⟨#[]⟩,.int .i64 0,.int .i64 0,.int .i64 0,.int .i64 0,.slice none 0 0])) = .held v) :
  (Instr.lookup 177 (.map (some M)) (.string x) false).run Tryz.prog w = .ok v w:=by
 obtain⟨v',ps,hrun,hv⟩:=World.ownsMap.lookup h lawS setsT (zeroSetV w) (rawE_mk _) (keyS_of hx)
 have e1:=rawE_inv hv
 rw [hat] at e1
 have e2:=DataW.held.inj e1
 rw [e2]
 exact hrun
end Go.Proofs.YtmgeglgboadfiaaGreatDoor
