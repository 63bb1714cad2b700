/- impl.codeOf and impl.errorOf: the code of an error, the error of a code. -/
import Derived.Test.YtmgeglgboadfiaaGreatDoorT17
import Derived.Test.YtmgeglgboadfiaaGreatDoorT22
import Derived.Stop.IfaceNil
set_option linter.unusedVariables false
set_option maxRecDepth 20000
set_option maxHeartbeats 4000000
namespace Go.Proofs.YtmgeglgboadfiaaGreatDoor
open Go.RowKit Go.Extern.Stop Go.Stop Go.Extern
def zFo(w:World)(b:Nat)(p:Nat->Addr):Prop:=∀k,k<7->w.cell? ⟨b,k*2,none⟩=some(qP(p k))/\w.cell? ⟨b,k*2+1,none⟩=some(.int .i64(zBO k))
theorem zFo.zRJ{w w':World}{b:Nat}{p:Nat->Addr}(h:zFo w b p)(t:Below w.heap.size w w'):zFo w' b p:=
 fun k hk=>⟨(t.cell(zD(h k hk).1)).trans(h k hk).1,(t.cell(zD(h k hk).2)).trans(h k hk).2⟩
theorem zFo.zRL(p:Nat->Addr)(w:World):zFo(w.alloc(.cells(zOX p) 199)) w.heap.size p:=
 fun k hk=>⟨(zI(heap_alloc_new _ _)(zNN p hk).1).1,(zI(heap_alloc_new _ _)(zNN p hk).2).1⟩
theorem zHd(p:Nat->Addr)(i:Nat)(hi:i<7)(w:World)(h:zEt w p):Calls Tryz.prog 107 #[qP(p i)] w fun e w'=>e = .returned(.int .i64(zBO i))/\Below w.heap.size w w':=by
 have HE:=zd h;clear h;have ha:=zC w(.cells(zOX p) 199);have HR:=zd(zFo.zRL p w);go_enter Tryz.func107,Tryz.ntmps107;go_wp2_with fail;refine(zFx p _ HE.out).mono ?_;rintro e wa ⟨rfl,rfl⟩;go_wp2
 go_loopw [7](fun i' wr=>∃k:Nat,k<=i/\i' = .int .i64 k/\zFo wr w.heap.size p/\Below w.heap.size w wr)(fun i _=>7 - (intOf i).toNat)
 case atStart=>exact⟨0,Nat.zero_le _,rfl,HR.out,ha⟩
 case round=>
  obtain⟨k,hk,rfl,hR,hb⟩:=hrel;have dA:(k:Int)<7:=(by omega);obtain⟨q0,q1⟩:=hR k(by omega);have cA:=zd hR;clear hR;have hn:=zC wr(.cells #[qP(p k),.int .i64(zBO k)] 199);have aA:=zA hb hn;have bA:=zd(cA.out.zRJ hn);have z0:(wr.alloc(.cells #[qP(p k),.int .i64(zBO k)] 199)).cell? ⟨wr.heap.size,0,none⟩=some(qP(p k)):=(zI(heap_alloc_new _ _) rfl).1;have z1:(wr.alloc(.cells #[qP(p k),.int .i64(zBO k)] 199)).cell? ⟨wr.heap.size,1,none⟩=some(.int .i64(zBO k)):=(zI(heap_alloc_new _ _) rfl).1;go_wp2_with fail;generalize wr.alloc(.cells #[qP(p k),.int .i64(zBO k)] 199)=W5 at z0 z1 hn aA bA ⊢;clear q0 q1;by_cases he:k=i
  ·subst he;refine(zP0(p k) _).mono ?_;rintro e wz ⟨rfl,rfl⟩;go_wp2;go_ret;exact⟨rfl,aA⟩
  ·obtain⟨ca,ta,hca⟩:=(HE.out.zRJ aA).row i hi;obtain⟨cb,tb,hcb⟩:=(HE.out.zRJ aA).row k(by omega);refine(zPr(p i)(p k) ca cb ta tb _(HE.out.ne i k hi(by omega)(Ne.symm he)) hca hcb).mono ?_;rintro e wz ⟨rfl,rfl⟩;clear hca hcb;go_wp2;go_roundw
   case rel=>exact⟨k+1,by omega,by go_num,bA.out,aA⟩
   case measure=>simp [intOf];omega
theorem zQL{k i:Nat}(hk:k<7)(hi:i<7)(h:k≠i):zBO k≠zBO i:=by
 revert h;revert k;revert i;decide
theorem zPl(k:Nat):zBO k≠0:=by unfold zBO;split<;>decide
def zLI(p:Nat->Addr)(o:zBz)(C:Nat)(w:World)(e:Ending)(w':World):Prop:=
 (∃v,e = .returned v)/\Below C w w'/\C<w'.heap.size/\((o.code=0/\∃z0 z1 z2 z3,yq w' C z0 z1(.int .i64 o.world.time)(.int .i64 o.world.next) z2 z3(.int .i64 o.id)(.int .i64 o.zRb) .nilIface/\qO w'(C+1) w'.heap.size z0 z1 z2 z3 o.world)\/(∃i,i<7/\o=zBr(zBO i)/\∃z0 z1 z2 z3 z4 z5 z6 z7,yq w' C z0 z1 z2 z3 z4 z5 z6 z7(qP(p i))))
theorem zQs(p:Nat->Addr)(tv nv qv:Value)(gd:Nat)(cA:Array Value)(nt nn m:Nat)(tx nx:Nat->ByteArray)(g:Nat->Nat)(lb:Nat->Array Value)(ei:Nat->Nat)(Q:Nat->Prop)(o:zBz)(v0 v1 v2 v3:Value)(lo hi:Nat)(W:zH)(w:World)(hE:zEt w p)(h:zl w lo hi v0 v1 v2 v3 W)(kC:zCJ W)(b1:qE W.zRQ<=1048576)(b2:W.sn<=1048576)(b3:W.pn<=1048576)(b4:zDf W)
  (ht:zAH w tv nt tx)(hn:zAH w nv nn nx)(hq:zCw w p qv m g lb ei)(eB:∀i,i<m->ei i<7)(eg:∀i,i<m->Enters Tryz.prog(g i))(ed:Enters Tryz.prog gd)
  (hQ:∀i,i<m->∀w',Below w.heap.size w w'->zAt W->(∀j,j<i->Q j)->Calls Tryz.prog(g i)(#[zz v0 v1 v2 v3 W] ++ lb i) w' fun e sB=>zG(Q i) e/\Below w'.heap.size w' sB)
  (hD:∀C w' z0 z1 z2 z3,w.heap.size<=C->Below w.heap.size w w'->C<w'.heap.size->zAt W->(¬∃i,i<nt/\8000<(tx i).size)->(¬∃i,i<nn/\¬yM(nx i))->(∀j,j<m->Q j)->qR w'(C+1) w'.heap.size z0 z1 z2 z3 W->yq w' C z0 z1(.int .i64 W.time)(.int .i64 W.next) z2 z3(.int .i64 0)(.int .i64 0) .nilIface->Calls Tryz.prog gd(#[.pointer(some ⟨C,0,none⟩)] ++ cA) w'(zLI p o C w')) :
  Calls Tryz.prog 38 #[.agg #[tv,nv,qv,.func(.func gd) #[] cA],zz v0 v1 v2 v3 W] w fun e w'=>∃r,zIH W(∃i,i<nt/\8000<(tx i).size)(∃i,i<nn/\¬yM(nx i)) m Q ei r/\zBp(zMf r o) w e w':=by
 have Hp:=zd h;have HE:=zd hE;have Ht:=zd ht;have Hn:=zd hn;have Hq:=zd hq;have HQ:=zd hQ;have fC:=zd hD;have Hg:=zd eg;have vB:=zd ed;have rB:=zd eB;obtain⟨t1,ta,tc,rfl,-⟩:=ht;obtain⟨n1,na,nc,rfl,-⟩:=hn;obtain⟨m1,qa,qc,rfl,-⟩:=hq;clear h hE hQ eg hD ed eB;have iB:=zC w(.cells #[.slice ta nt tc,.slice na nn nc,.slice qa m qc,.func(.func gd) #[] cA] 86);have aB:=zC(w.alloc(.cells #[.slice ta nt tc,.slice na nn nc,.slice qa m qc,.func(.func gd) #[] cA] 86))(.cells #[v0,v1,.int .i64 W.time,.int .i64 W.next,v2,v3] 37);have eA:=zC((w.alloc(.cells #[.slice ta nt tc,.slice na nn nc,.slice qa m qc,.func(.func gd) #[] cA] 86)).alloc(.cells #[v0,v1,.int .i64 W.time,.int .i64 W.next,v2,v3] 37))(.cells #[.slice none 0 0,.slice none 0 0,.int .i64 0,.int .i64 0,.slice none 0 0,.slice none 0 0,.int .i64 0,.int .i64 0,.int .i64 0] 39);have hb:=zA(zA iB aB) eA;have hd:=((zMl.zRL w(.slice ta nt tc)(.slice na nn nc)(.slice qa m qc)(.func(.func gd) #[] cA) 86).zRJ aB).zRJ eA;have hx:=(zi.zRL(w.alloc(.cells #[.slice ta nt tc,.slice na nn nc,.slice qa m qc,.func(.func gd) #[] cA] 86))(v0)(v1)(.int .i64 W.time)(.int .i64 W.next)(v2)(v3) 37).zRJ eA;have hr:=yq.zRL((w.alloc(.cells #[.slice ta nt tc,.slice na nn nc,.slice qa m qc,.func(.func gd) #[] cA] 86)).alloc(.cells #[v0,v1,.int .i64 W.time,.int .i64 W.next,v2,v3] 37))(.slice none 0 0)(.slice none 0 0)(.int .i64 0)(.int .i64 0)(.slice none 0 0)(.slice none 0 0)(.int .i64 0)(.int .i64 0)(.int .i64 0) 39;rw [World.size_alloc] at hx;rw [World.size_alloc,World.size_alloc] at hr;have hz:w.heap.size+3<=(((w.alloc(.cells #[.slice ta nt tc,.slice na nn nc,.slice qa m qc,.func(.func gd) #[] cA] 86)).alloc(.cells #[v0,v1,.int .i64 W.time,.int .i64 W.next,v2,v3] 37)).alloc(.cells #[.slice none 0 0,.slice none 0 0,.int .i64 0,.int .i64 0,.slice none 0 0,.slice none 0 0,.int .i64 0,.int .i64 0,.int .i64 0] 39)).heap.size:=by rw [World.size_alloc,World.size_alloc,World.size_alloc];omega
 have HD:=zd hd;have HX:=zd hx;have HR:=zd hr;clear hd hx hr;have jC:=fun(w:World)(a:Addr)=>run_store Tryz.prog w a(.func(.func gd) #[] cA) .plain rfl
 obtain⟨⟨d0,-⟩,⟨d1,-⟩,⟨d2,-⟩,⟨d3,-⟩⟩:=HD.out;obtain⟨⟨x0,-⟩,⟨x1,-⟩,⟨x2,-⟩,⟨x3,-⟩,⟨x4,-⟩,⟨x5,-⟩⟩:=HX.out;go_enter Tryz.func38,Tryz.ntmps38;go_wp2_with fail;clear d0 d1 d2 d3 x0 x1 x2 x3 x4 x5 jC;generalize(((w.alloc(.cells #[.slice ta nt tc,.slice na nn nc,.slice qa m qc,.func(.func gd) #[] cA] 86)).alloc(.cells #[v0,v1,.int .i64 W.time,.int .i64 W.next,v2,v3] 37)).alloc(.cells #[.slice none 0 0,.slice none 0 0,.int .i64 0,.int .i64 0,.slice none 0 0,.slice none 0 0,.int .i64 0,.int .i64 0,.int .i64 0] 39))=W1 at hb HD HX HR hz ⊢;clear iB aB eA;refine(zL8 p _ _ _ _ nt nn m tx nx g lb ei Q _ _ _ _ lo hi W W1(HE.out.zRJ hb)(Hp.out.zRJ hb) kC(Ht.out.zRJ hb)(Hn.out.zRJ hb)(Hq.out.zRJ hb) Hg.out(fun i hi w' aC=>HQ.out i hi w'(zA hb aC))).mono ?_;rintro e w2 ⟨r,rfl,href,eA⟩;have dA:=zd href;have gB:=zA hb eA;have nC:=eA.size;have bC:=zd(HD.out.zRJ eA);have dC:=zd(HX.out.zRJ eA);have kB:=zd(HR.out.zRJ eA);clear href eA hb HD HX HR;cases r with
 |some i=>
  have dB:i<7:=by
   rcases dA.out with⟨_,e⟩ | ⟨_,_,e⟩ | ⟨_,_,_,k,hk,_,_,e⟩ | ⟨_,_,_,_,e⟩
   ·simp at e;omega
   ·simp at e;omega
   ·have:=rB.out k hk;simp at e;omega
   ·simp at e
  unfold zQq;have fA:=zC w2(.cells #[.slice none 0 0,.slice none 0 0,.int .i64 0,.int .i64 0,.slice none 0 0,.slice none 0 0,.int .i64 0,.int .i64 0,qP(p i)] 81);have HC:=zd(yq.zRL w2(.slice none 0 0)(.slice none 0 0)(.int .i64 0)(.int .i64 0)(.slice none 0 0)(.slice none 0 0)(.int .i64 0)(.int .i64 0)(qP(p i)) 81);have HR:=zd(kB.out.zRJ fA);have iA:=zA gB fA;obtain⟨-,-,-,-,-,-,-,-,⟨c8,-⟩⟩:=HC.out;go_wp2_with fail;clear c8;generalize w2.alloc(.cells #[.slice none 0 0,.slice none 0 0,.int .i64 0,.int .i64 0,.slice none 0 0,.slice none 0 0,.int .i64 0,.int .i64 0,qP(p i)] 81)=W3 at HC HR iA ⊢;generalize w2.heap.size=C at HC ⊢;clear fA;obtain⟨-,-,-,-,-,-,-,-,⟨c8,-⟩⟩:=HC.out;go_wp2_with fail;refine(zHd p i dB _(HE.out.zRJ iA)).mono ?_;rintro e wz ⟨rfl,hbz⟩;have lA:=zA iA hbz;have mA:=zd(HR.out.zRJ hbz);clear c8;obtain⟨⟨r0,g0⟩,⟨r1,g1⟩,⟨r2,g2⟩,⟨r3,g3⟩,⟨r4,g4⟩,⟨r5,g5⟩,⟨r6,g6⟩,⟨r7,g7⟩,⟨r8,g8⟩⟩:=mA.out;go_wp2_with fail;have aA:=mA.out.put(.slice none 0 0)(.slice none 0 0)(.int .i64 0)(.int .i64 0)(.slice none 0 0)(.slice none 0 0)(.int .i64 0)(.int .i64 0)(.int .i64(zBO i));have hT:=zF.put9 wz(w.heap.size+1+1)(.slice none 0 0)(.slice none 0 0)(.int .i64 0)(.int .i64 0)(.slice none 0 0)(.slice none 0 0)(.int .i64 0)(.int .i64 0)(.int .i64(zBO i));clear r0 r1 r2 r3 r4 r5 r6 r7 r8 g0 g1 g2 g3 g4 g5 g6 g7 g8;refine bodyPost_ret(v:=.agg #[.slice none 0 0,.slice none 0 0,.int .i64 0,.int .i64 0,.slice none 0 0,.slice none 0 0,.int .i64 0,.int .i64 0,.int .i64(zBO i)])(by simp [results,Tryz.results38,go_sem,aA.1.1,aA.2.1.1,aA.2.2.1.1,aA.2.2.2.1.1,aA.2.2.2.2.1.1,aA.2.2.2.2.2.1.1,aA.2.2.2.2.2.2.1.1,aA.2.2.2.2.2.2.2.1.1,aA.2.2.2.2.2.2.2.2.1]) rfl ⟨some i,dA.out,?_⟩;exact⟨_,_,_,_,rfl,zEh,lA.trans(hT.zRJ(B:=w.heap.size) lA.size(fun k e=>by omega))⟩
 |none=>
  unfold zQq;have fA:=zC w2(.cells #[.slice none 0 0,.slice none 0 0,.int .i64 0,.int .i64 0,.slice none 0 0,.slice none 0 0,.int .i64 0,.int .i64 0,.nilIface] 81);have HC:=zd(yq.zRL w2(.slice none 0 0)(.slice none 0 0)(.int .i64 0)(.int .i64 0)(.slice none 0 0)(.slice none 0 0)(.int .i64 0)(.int .i64 0)(.nilIface) 81);have rA:=zd(kB.out.zRJ fA);have oA:=zd(dC.out.zRJ fA);have cB:=zd(bC.out.zRJ fA);have iA:=zA gB fA;have jB:w2.heap.size<(w2.alloc(.cells #[.slice none 0 0,.slice none 0 0,.int .i64 0,.int .i64 0,.slice none 0 0,.slice none 0 0,.int .i64 0,.int .i64 0,.nilIface] 81)).heap.size:=(by rw [World.size_alloc];omega);obtain⟨-,-,-,-,-,-,-,-,⟨c8,-⟩⟩:=HC.out;obtain⟨⟨x0,-⟩,⟨x1,-⟩,⟨x2,-⟩,⟨x3,-⟩,⟨x4,-⟩,⟨x5,-⟩⟩:=oA.out;go_wp2_with fail;clear c8 x0 x1 x2 x3 x4 x5;generalize w2.alloc(.cells #[.slice none 0 0,.slice none 0 0,.int .i64 0,.int .i64 0,.slice none 0 0,.slice none 0 0,.int .i64 0,.int .i64 0,.nilIface] 81)=W3 at HC rA oA cB iA jB ⊢;generalize mC:w2.heap.size=C at HC jB ⊢;clear fA;refine(zHA _ _ _ _ lo hi W W3(Hp.out.zRJ iA) b1 b2 b3 b4).mono ?_;rintro e w4 ⟨z0,z1,z2,z3,rfl,ho,hb4⟩;obtain⟨l0,lc0,l1,lc1,l2,lc2,l3,lc3,rfl,rfl,rfl,rfl⟩:=ho.form;have lB:=zA iA hb4;have lC:=hb4.size;have sA:=zd(HC.out.zRJ hb4);have oB:=zd(rA.out.zRJ hb4);have mB:=zd(cB.out.zRJ hb4);have Ho:=zd ho;clear ho HC rA oA cB hb4;obtain⟨⟨c0,f0⟩,⟨c1,f1⟩,⟨c2,f2⟩,⟨c3,f3⟩,⟨c4,f4⟩,⟨c5,f5⟩,⟨c6,f6⟩,⟨c7,f7⟩,⟨c8,f8⟩⟩:=sA.out;obtain⟨⟨d0,-⟩,⟨d1,-⟩,⟨d2,-⟩,⟨d3,-⟩⟩:=mB.out;have tB:C≠w.heap.size:=(by omega);have pB:w.heap.size≠C:=(by omega);have e0:∀(args:Array Value)(w:World),(callFunc gd args).run Tryz.prog w = .ok(.enter gd args) w:=vB.out;go_wp2_with fail;clear c0 c1 c2 c3 c4 c5 c6 c7 c8 f0 f1 f2 f3 f4 f5 f6 f7 f8 d0 d1 d2 d3 e0;have hT:zF(fun k=>k=C) w4((((((w4.setCell ⟨C,0,none⟩(.slice l0 W.zRQ.n lc0)).setCell ⟨C,1,none⟩(.slice l1 W.zRQ.hn lc1)).setCell ⟨C,2,none⟩(.int .i64 W.time)).setCell ⟨C,3,none⟩(.int .i64 W.next)).setCell ⟨C,4,none⟩(.slice l2 W.sn lc2)).setCell ⟨C,5,none⟩(.slice l3 W.pn lc3)):=zF.put6 w4 C(.slice l0 W.zRQ.n lc0)(.slice l1 W.zRQ.hn lc1)(.int .i64 W.time)(.int .i64 W.next)(.slice l2 W.sn lc2)(.slice l3 W.pn lc3);have bB:yq((((((w4.setCell ⟨C,0,none⟩(.slice l0 W.zRQ.n lc0)).setCell ⟨C,1,none⟩(.slice l1 W.zRQ.hn lc1)).setCell ⟨C,2,none⟩(.int .i64 W.time)).setCell ⟨C,3,none⟩(.int .i64 W.next)).setCell ⟨C,4,none⟩(.slice l2 W.sn lc2)).setCell ⟨C,5,none⟩(.slice l3 W.pn lc3)) C(.slice l0 W.zRQ.n lc0)(.slice l1 W.zRQ.hn lc1)(.int .i64 W.time)(.int .i64 W.next)(.slice l2 W.sn lc2)(.slice l3 W.pn lc3)(.int .i64 0)(.int .i64 0)(.nilIface):=yq.six sA.out(.slice l0 W.zRQ.n lc0)(.slice l1 W.zRQ.hn lc1)(.int .i64 W.time)(.int .i64 W.next)(.slice l2 W.sn lc2)(.slice l3 W.pn lc3);have tA:=oB.out.zRR hT(by omega);have pA:qR((((((w4.setCell ⟨C,0,none⟩(.slice l0 W.zRQ.n lc0)).setCell ⟨C,1,none⟩(.slice l1 W.zRQ.hn lc1)).setCell ⟨C,2,none⟩(.int .i64 W.time)).setCell ⟨C,3,none⟩(.int .i64 W.next)).setCell ⟨C,4,none⟩(.slice l2 W.sn lc2)).setCell ⟨C,5,none⟩(.slice l3 W.pn lc3)) W3.heap.size w4.heap.size(.slice l0 W.zRQ.n lc0)(.slice l1 W.zRQ.hn lc1)(.slice l2 W.sn lc2)(.slice l3 W.pn lc3) W:=Ho.out.put6 C(.slice l0 W.zRQ.n lc0)(.slice l1 W.zRQ.hn lc1)(.int .i64 W.time)(.int .i64 W.next)(.slice l2 W.sn lc2)(.slice l3 W.pn lc3)(Or.inl(by omega));have vA:=lB.trans(hT.zRJ(B:=w.heap.size) lB.size(fun k e=>by omega));have eC:=hT.size;generalize((((((w4.setCell ⟨C,0,none⟩(.slice l0 W.zRQ.n lc0)).setCell ⟨C,1,none⟩(.slice l1 W.zRQ.hn lc1)).setCell ⟨C,2,none⟩(.int .i64 W.time)).setCell ⟨C,3,none⟩(.int .i64 W.next)).setCell ⟨C,4,none⟩(.slice l2 W.sn lc2)).setCell ⟨C,5,none⟩(.slice l3 W.pn lc3))=W5 at bB tA pA vA eC ⊢;have nB:=zd tA;clear tA hT Ho sA oB mB;have jA:(¬∃i,i<nt/\8000<(tx i).size)/\zAt W/\(¬∃i,i<nn/\¬yM(nx i))/\(∀j,j<m->Q j):=by
   rcases dA.out with⟨_,e⟩ | ⟨_,_,e⟩ | ⟨_,_,_,k,hk,_,_,e⟩ | ⟨h1,h2,h3,h4,e⟩
   ·cases e
   ·cases e
   ·cases e
   ·exact⟨h1,h2,h3,h4⟩
  refine(fC.out C W5 _ _ _ _(by omega) vA(by omega) jA.2.1 jA.1 jA.2.2.1 jA.2.2.2(pA.zRO(by omega)(by omega)) bB).mono ?_;rintro e w6 ⟨⟨ve,rfl⟩,hb6,hz6,hcase⟩;have fB:yq w6(w.heap.size+1+1)(.slice none 0 0)(.slice none 0 0)(.int .i64 0)(.int .i64 0)(.slice none 0 0)(.slice none 0 0)(.int .i64 0)(.int .i64 0)(.int .i64 0):=by
   obtain⟨r0,r1,r2,r3,r4,r5,r6,r7,r8⟩:=nB.out;have bA:w.heap.size+1+1<C:=(by omega);exact⟨r0.under hb6 bA,r1.under hb6 bA,r2.under hb6 bA,r3.under hb6 bA,r4.under hb6 bA,r5.under hb6 bA,r6.under hb6 bA,r7.under hb6 bA,r8.under hb6 bA⟩
  have HR:=zd fB;have nA:Below w.heap.size w w6:=vA.trans(hb6.mono(by omega));clear jA bB pA nB fB;rcases hcase with⟨gA,z0,z1,z2,z3,hC6,hO6⟩ | ⟨i,dB,ho,z0,z1,z2,z3,z4,z5,z6,z7,hC6⟩;rotate_left
  ·have HC:=zd hC6;clear hC6;obtain⟨-,-,-,-,-,-,-,-,⟨c8,-⟩⟩:=HC.out;go_wp2_with fail;refine(zHd p i dB _(HE.out.zRJ nA)).mono ?_;rintro e wz ⟨rfl,hbz⟩;have lA:=zA nA hbz;have mA:=zd(HR.out.zRJ hbz);clear c8;obtain⟨⟨r0,g0⟩,⟨r1,g1⟩,⟨r2,g2⟩,⟨r3,g3⟩,⟨r4,g4⟩,⟨r5,g5⟩,⟨r6,g6⟩,⟨r7,g7⟩,⟨r8,g8⟩⟩:=mA.out;go_wp2_with fail;have aA:=mA.out.put(.slice none 0 0)(.slice none 0 0)(.int .i64 0)(.int .i64 0)(.slice none 0 0)(.slice none 0 0)(.int .i64 0)(.int .i64 0)(.int .i64(zBO i));have hT:=zF.put9 wz(w.heap.size+1+1)(.slice none 0 0)(.slice none 0 0)(.int .i64 0)(.int .i64 0)(.slice none 0 0)(.slice none 0 0)(.int .i64 0)(.int .i64 0)(.int .i64(zBO i));clear r0 r1 r2 r3 r4 r5 r6 r7 r8 g0 g1 g2 g3 g4 g5 g6 g7 g8;refine bodyPost_ret(v:=.agg #[.slice none 0 0,.slice none 0 0,.int .i64 0,.int .i64 0,.slice none 0 0,.slice none 0 0,.int .i64 0,.int .i64 0,.int .i64(zBO i)])(by simp [results,Tryz.results38,go_sem,aA.1.1,aA.2.1.1,aA.2.2.1.1,aA.2.2.2.1.1,aA.2.2.2.2.1.1,aA.2.2.2.2.2.1.1,aA.2.2.2.2.2.2.1.1,aA.2.2.2.2.2.2.2.1.1,aA.2.2.2.2.2.2.2.2.1]) rfl ⟨none,dA.out,?_⟩;show zBp o w _ _;rw [ho];exact⟨_,_,_,_,rfl,zEh,lA.trans(hT.zRJ(B:=w.heap.size) lA.size(fun k e=>by omega))⟩
  ·have Ho:=zd hO6;obtain⟨n0,nc0,n1,nc1,n2,nc2,n3,nc3,rfl,rfl,rfl,rfl⟩:=hO6.form;have HC:=zd hC6;have kA:=zd gA;clear hC6 hO6 gA;obtain⟨⟨c0,-⟩,⟨c1,-⟩,⟨c2,-⟩,⟨c3,-⟩,⟨c4,-⟩,⟨c5,-⟩,⟨c6,-⟩,⟨c7,-⟩,⟨c8,-⟩⟩:=HC.out;obtain⟨⟨r0,g0⟩,⟨r1,g1⟩,⟨r2,g2⟩,⟨r3,g3⟩,⟨r4,g4⟩,⟨r5,g5⟩,⟨r6,g6⟩,⟨r7,g7⟩,⟨r8,g8⟩⟩:=HR.out;have gC:C≠w.heap.size+1+1:=(by omega);have cC:w.heap.size+1+1≠C:=(by omega);go_wp2_with fail;have aA:=HR.out.put(.slice n0 o.world.zRQ.n nc0)(.slice n1 o.world.zRQ.hn nc1)(.int .i64 o.world.time)(.int .i64 o.world.next)(.slice n2 o.world.sn nc2)(.slice n3 o.world.pn nc3)(.int .i64 o.id)(.int .i64 o.zRb)(.int .i64 0);have hT:=zF.put9 w6(w.heap.size+1+1)(.slice n0 o.world.zRQ.n nc0)(.slice n1 o.world.zRQ.hn nc1)(.int .i64 o.world.time)(.int .i64 o.world.next)(.slice n2 o.world.sn nc2)(.slice n3 o.world.pn nc3)(.int .i64 o.id)(.int .i64 o.zRb)(.int .i64 0);clear r0 r1 r2 r3 r4 r5 r6 r7 r8 g0 g1 g2 g3 g4 g5 g6 g7 g8 c0 c1 c2 c3 c4 c5 c6 c7 c8;refine bodyPost_ret(v:=.agg #[.slice n0 o.world.zRQ.n nc0,.slice n1 o.world.zRQ.hn nc1,.int .i64 o.world.time,.int .i64 o.world.next,.slice n2 o.world.sn nc2,.slice n3 o.world.pn nc3,.int .i64 o.id,.int .i64 o.zRb,.int .i64 0])(by simp [results,Tryz.results38,go_sem,aA.1.1,aA.2.1.1,aA.2.2.1.1,aA.2.2.2.1.1,aA.2.2.2.2.1.1,aA.2.2.2.2.2.1.1,aA.2.2.2.2.2.2.1.1,aA.2.2.2.2.2.2.2.1.1,aA.2.2.2.2.2.2.2.2.1]) rfl ⟨none,dA.out,?_⟩;show zBp o w _ _;have iC:=hT.size;exact⟨_,_,_,_,by rw [<-kA.out],(Ho.out.zRR hT(fun k e=>by omega)).zRO(by omega) iC,nA.trans(hT.zRJ(B:=w.heap.size) nA.size(fun k e=>by omega))⟩
theorem zD1{j i:Nat}(h:j≠i):(j == i)=false:=by simpa using h
def qb(d:Nat->Nat)(x:Nat->Value):List Nat->Act->Act
 |[],a=>a
 |i :: r,a=>qb d x r(a.put(some(d i))(x i))
theorem zPO(a:Act)(k:Nat)(u v:Value):(a.put(some k) u).put(some k) v=a.put(some k) v:=by
 unfold Act.put;simp [Array.setIfInBounds_setIfInBounds]
theorem zOT(a:Act){k j:Nat}(u v:Value)(h:k≠j):(a.put(some k) u).put(some j) v=(a.put(some j) v).put(some k) u:=
 Act.put_comm a u v(fun d e e'=>h(by injection e with e;injection e' with e';omega))
theorem zJC(d:Nat->Nat)(x:Nat->Value)(k:Nat)(v:Value):∀(M:List Nat)(a:Act),(∀i∈M,d i≠k)->(qb d x M a).put(some k) v=qb d x M(a.put(some k) v)
 |[],_,_=>rfl
 |i :: r,a,h=>by
  show(qb d x r(a.put(some(d i))(x i))).put(some k) v=qb d x r((a.put(some k) v).put(some(d i))(x i));rw [zJC d x k v r _(fun j hj=>h j(List.mem_cons_of_mem _ hj)),zOT a _ _(h i List.mem_cons_self)]
theorem zGu{d:Nat->Nat}{x y:Nat->Value}:∀{M:List Nat} {a:Act},(∀i∈M,x i=y i)->qb d x M a=qb d y M a
 |[],_,_=>rfl
 |i :: r,a,h=>by
  show qb d x r(a.put(some(d i))(x i))=qb d y r(a.put(some(d i))(y i));rw [h i List.mem_cons_self];exact zGu(fun j hj=>h j(List.mem_cons_of_mem _ hj))
def zIr(x:Nat->Value)(i:Nat)(v:Value)(j:Nat):Value:=if j=i then v else x j
theorem zJq(d:Nat->Nat)(x:Nat->Value)(i:Nat)(v:Value):∀(M:List Nat)(a:Act),i∈M->M.Pairwise(fun p q=>d p≠d q)->(qb d x M a).put(some(d i)) v=qb d(zIr x i v) M a
 |[],_,h,_=>by cases h
 |j :: r,a,h,hp=>by
  obtain⟨h1,h2⟩:=List.pairwise_cons.1 hp;show(qb d x r(a.put(some(d j))(x j))).put(some(d i)) v=qb d(zIr x i v) r(a.put(some(d j))(zIr x i v j));by_cases e:j=i
  ·subst e;have aA:∀p∈r,d p≠d j:=fun p hp e=>h1 p hp e.symm
   rw [zJC d x(d j) v r _ aA,zPO];have e1:zIr x j v j=v:=(by unfold zIr;rw [if_pos rfl]);rw [e1];refine zGu(fun p hp=>?_);unfold zIr;rw [if_neg(fun e=>aA p hp(by rw [e]))]
  ·have e1:zIr x i v j=x j:=(by unfold zIr;rw [if_neg e]);rw [e1];rcases List.mem_cons.1 h with h | h
   ·exact absurd h.symm e
   ·exact zJq d x i v r _ h h2
def zAu(b:Nat->Bool):List Nat->Array Bool->Array Bool
 |[],l=>l
 |i :: r,l=>zAu b r(if b i then l.setIfInBounds i true else l)
def zBd(b:Nat->Bool)(i:Nat)(j:Nat):Bool:=j == i || b j
theorem zGV(b:Nat->Bool)(k:Nat):∀(M:List Nat)(l:Array Bool),(zAu b M l).setIfInBounds k true=zAu b M(l.setIfInBounds k true)
 |[],_=>rfl
 |i :: r,l=>by
  show(zAu b r(if b i then l.setIfInBounds i true else l)).setIfInBounds k true=zAu b r(if b i then(l.setIfInBounds k true).setIfInBounds i true else l.setIfInBounds k true);rw [zGV b k r];by_cases h:b i
  ·rw [if_pos h,if_pos h];by_cases e:i=k
   ·subst e;rfl
   ·rw [Array.setIfInBounds_comm _ _ e]
  ·rw [if_neg h,if_neg h]
theorem zB2{b c:Nat->Bool}:∀{M:List Nat} {l:Array Bool},(∀i∈M,b i=c i)->zAu b M l=zAu c M l
 |[],_,_=>rfl
 |i :: r,l,h=>by
  show zAu b r(if b i then _ else _)=zAu c r(if c i then _ else _);rw [h i List.mem_cons_self];exact zB2(fun j hj=>h j(List.mem_cons_of_mem _ hj))
theorem zFM(b:Nat->Bool)(k:Nat):∀(M:List Nat)(l:Array Bool),k∈M->(zAu b M l).setIfInBounds k true=zAu(zBd b k) M l
 |[],_,h=>by cases h
 |i :: r,l,h=>by
  show(zAu b r(if b i then l.setIfInBounds i true else l)).setIfInBounds k true=zAu(zBd b k) r(if zBd b k i then l.setIfInBounds i true else l);by_cases e:i=k
  ·subst e;have e1:zBd b i i=true:=(by unfold zBd;simp);rw [if_pos e1,zGV];have e2:(if b i then l.setIfInBounds i true else l).setIfInBounds i true=l.setIfInBounds i true:=by
    by_cases h':b i
    ·rw [if_pos h',Array.setIfInBounds_setIfInBounds]
    ·rw [if_neg h']
   rw [e2];by_cases hr:i∈r
   ·rw [<-zFM b i r _ hr,zGV,Array.setIfInBounds_setIfInBounds]
   ·refine zB2(fun j hj=>?_);unfold zBd;have:(j == i)=false:=zD1 fun e=>hr(e▸hj)
    rw [this,Bool.false_or]
  ·have e1:zBd b k i=b i:=by
    unfold zBd;have:(i == k)=false:=zD1 e;rw [this,Bool.false_or]
   rw [e1];rcases List.mem_cons.1 h with h | h
   ·exact absurd h.symm e
   ·exact zFM b k r _ h
def zMP:List Nat->List(Nat->Bool)
 |[]=>[fun _=>false]
 |i :: r=>(zMP r).flatMap fun b=>[b,zBd b i]
theorem zHn(c:Nat->Bool):∀M:List Nat,M.Nodup->∃b∈zMP M,(∀i∈M,b i=c i)/\∀i,i∉M->b i=false
 |[],_=>⟨_,List.mem_singleton.2 rfl,fun i h=>(by cases h),fun _ _=>rfl⟩
 |i :: r,hn=>by
  obtain⟨h1,h2⟩:=List.nodup_cons.1 hn;obtain⟨b,hb,hc,ho⟩:=zHn c r h2;by_cases e:c i
  ·refine⟨zBd b i,List.mem_flatMap.2 ⟨b,hb,by simp⟩,fun j hj=>?_,fun j hj=>?_⟩
   ·unfold zBd;rcases List.mem_cons.1 hj with rfl | hj
    ·simp [e]
    ·have:(j == i)=false:=zD1 fun e=>h1(e▸hj)
     rw [this,Bool.false_or];exact hc j hj
   ·unfold zBd;have h3:(j == i)=false:=zD1 fun e=>hj(e▸List.mem_cons_self)
    rw [h3,Bool.false_or];exact ho j(fun h=>hj(List.mem_cons_of_mem _ h))
  ·refine⟨b,List.mem_flatMap.2 ⟨b,hb,by simp⟩,fun j hj=>?_,fun j hj=>?_⟩
   ·rcases List.mem_cons.1 hj with rfl | hj
    ·rw [ho j h1];simpa using e
    ·exact hc j hj
   ·exact ho j(fun h=>hj(List.mem_cons_of_mem _ h))
theorem zJQ(b:Nat->Bool)(i:Nat):∀M:List Nat,M.Nodup->i∈M->b i=false->(M.countP fun j=>!b j)=(M.countP fun j=>!zBd b i j)+1
 |[],_,h,_=>by cases h
 |j :: r,hn,h,hbi=>by
  obtain⟨g1,g2⟩:=List.nodup_cons.1 hn;rw [List.countP_cons,List.countP_cons];rcases List.mem_cons.1 h with e | aA
  ·subst e;have e1:(r.countP fun j=>!b j)=r.countP fun j=>!zBd b i j:=by
    refine List.countP_congr fun p hp=>?_
    unfold zBd;have:(p == i)=false:=zD1 fun e=>g1(e▸hp)
    rw [this,Bool.false_or]
   have e2:zBd b i i=true:=(by unfold zBd;simp);rw [e1,hbi,e2];simp
  ·have bA:(j == i)=false:=zD1 fun e=>g1(e▸aA)
   have e2:zBd b i j=b j:=(by unfold zBd;rw [bA,Bool.false_or]);have h3:=zJQ b i r g2 aA hbi;rw [e2];omega
def zKL(md:Region.Mode)(ops:Array Oper)(M:List Nat)(D:Nat->List Nat)(l0:Array Bool):Bool:=
 (zMP M).all fun b=>!(M.all fun i=>!b i || (D i).all b) || (M.all b || (!(Region.ready md ops(zAu b M l0)).isEmpty && (Region.ready md ops(zAu b M l0)).all fun i=>M.contains i && !b i && (D i).all b))
section
variable {P : Program} {md : Region.Mode} {ops : Array Oper} {Q : Exit -> Act -> World -> Prop} {S G : World -> Prop}
theorem zOM{M:List Nat}{D:Nat->List Nat}{d:Nat->Nat}{F:Nat->Value->World->Prop}{l0:Array Bool}{a0:Act}{eA:Nat}
  (kA:zKL md ops M D l0=true)(hn:M.Nodup)(hd:M.Pairwise(fun p q=>d p≠d q))(gA:∀i∈M,∀j∈D i,j∈M)
  (hF:∀i v w w',F i v w->Below w.heap.size w w'->F i v w')(hG:∀w w',G w->Below w.heap.size w w'->G w')
  (dA:∀i∈M,∀x w,S w->G w->(∀j∈D i,F j(x j) w)->∀K:Act->World->Prop,Shut(∀a' v w',a'=(qb d x M a0).put(some(d i)) v->S w'->F i v w'->Below w.heap.size w w'->K a' w')->wpOp P ops Q i K(qb d x M a0) w)
  (jA:∀x w,S w->G w->(∀i∈M,F i(x i) w)->wpAnyH P md ops Q S eA(zAu(fun _=>true) M l0)(qb d x M a0) w) :
  ∀(n:Nat)(b:Nat->Bool),(M.countP fun i=>!b i)=n->(∀i∈M,b i=true->∀j∈D i,b j=true)->∀x w,S w->G w->(∀i∈M,b i=true->F i(x i) w)->wpAnyH P md ops Q S(eA+n)(zAu b M l0)(qb d x M a0) w:=by
 intro n
 induction n with
 |zero=>
  intro b hc hb x w hS hg hf;have cA:∀i∈M,b i=true:=fun i hi=>by
   have:=(List.countP_eq_zero.1 hc) i hi;simpa using this
  rw [zB2(c:=fun _=>true) cA];exact jA x w hS hg(fun i hi=>hf i hi(cA i hi))
 |succ n ih=>
  intro b hc hb x w hS hg hf;obtain⟨c,hcm,hcb,hco⟩:=zHn b M hn;have hk:=List.all_eq_true.1 kA c hcm;have oA:(M.all fun i=>!c i || (D i).all c)=true:=List.all_eq_true.2 fun i hi=>by
   rw [hcb i hi];by_cases e:b i=true
   ·have:(D i).all c=true:=List.all_eq_true.2 fun j hj=>by rw [hcb j(gA i hi j hj)];exact hb i hi e j hj
    rw [this];simp
   ·have:b i=false:=(by simpa using e);rw [this];rfl
  have sA:(M.all c)=false:=by
   cases h:M.all c with
   |false=>rfl
   |true=>
    have h0:(M.countP fun i=>!b i)=0:=List.countP_eq_zero.2 fun i hi=>by rw [<-hcb i hi,List.all_eq_true.1 h i hi];simp
    omega
  rw [oA,sA] at hk;simp only [Bool.not_true,Bool.false_or,Bool.and_eq_true] at hk;rw [zB2(c:=c)(fun i hi=>(hcb i hi).symm)];refine⟨fun h0=>?_,fun i hi=>?_⟩
  ·rw [h0] at hk;simp at hk
  ·have hq:=List.all_eq_true.1 hk.2 i hi;simp only [Bool.and_eq_true,Bool.not_eq_true'] at hq;have aA:i∈M:=(by simpa using hq.1.1);have pA:b i=false:=(by rw [<-hcb i aA];exact hq.1.2);have lA:∀j∈D i,b j=true:=fun j hj=>by rw [<-hcb j(gA i aA j hj)];exact List.all_eq_true.1 hq.2 j hj
   refine dA i aA x w hS hg(fun j hj=>hf j(gA i aA j hj)(lA j hj)) _ ?_;intro a' v w' ha nA rA mA;refine⟨nA,?_⟩;rw [ha,zJq d x i v M a0 aA hd,zFM c i M l0 aA];have iA:∀j∈M,zBd c i j=zBd b i j:=fun j hj=>by unfold zBd;rw [hcb j hj]
   rw [zB2(c:=zBd b i) iA];refine ih(zBd b i) ?_ ?_(zIr x i v) w' nA(hG w w' hg mA) ?_
   ·have h1:(M.countP fun j=>!b j)=(M.countP fun j=>!zBd b i j)+1:=zJQ b i M hn aA pA;omega
   ·intro p hp bA j hj;unfold zBd at bA ⊢;by_cases e:p=i
    ·subst e;rw [lA j hj];simp
    ·have fA:(p == i)=false:=zD1 e;rw [fA,Bool.false_or] at bA;rw [hb p hp bA j hj];simp
   ·intro p hp bA;unfold zIr;by_cases e:p=i
    ·subst e;rw [if_pos rfl];exact rA
    ·rw [if_neg e];unfold zBd at bA;have fA:(p == i)=false:=zD1 e;rw [fA,Bool.false_or] at bA;exact hF p _ w w'(hf p hp bA) mA
theorem zPH{M:List Nat}{D:Nat->List Nat}{d:Nat->Nat}{F:Nat->Value->World->Prop}{l0:Array Bool}{a0:Act}{dA:Nat}(x0:Nat->Value)
  (cA:zKL md ops M D l0=true)(hn:M.Nodup)(hd:M.Pairwise(fun p q=>d p≠d q))(eA:∀i∈M,∀j∈D i,j∈M)
  (hF:∀i v w w',F i v w->Below w.heap.size w w'->F i v w')(hG:∀w w',G w->Below w.heap.size w w'->G w')
  (aA:∀i∈M,∀x w,S w->G w->(∀j∈D i,F j(x j) w)->∀K:Act->World->Prop,Shut(∀a' v w',a'=(qb d x M a0).put(some(d i)) v->S w'->F i v w'->Below w.heap.size w w'->K a' w')->wpOp P ops Q i K(qb d x M a0) w)
  (bA:∀x w,S w->G w->(∀i∈M,F i(x i) w)->wpAnyH P md ops Q S dA(zAu(fun _=>true) M l0)(qb d x M a0) w)
  {a:Act} {w:World} {f:Nat}(ha:a=qb d x0 M a0)(hf:f=dA+M.length)(hS:S w)(hg:G w):wpAnyH P md ops Q S f l0 a w:=by
 subst ha hf;have e0:zAu(fun _=>false) M l0=l0:=by
  clear cA hn hd eA aA bA
  induction M with
  |nil=>rfl
  |cons i r ih=>exact ih
 have:=zOM(P:=P)(Q:=Q) cA hn hd eA hF hG aA bA M.length(fun _=>false)(by simp [List.countP_true])(fun i hi h=>by cases h) x0 w hS hg(fun i hi h=>by cases h)
 rwa [e0] at this
theorem zPb(a:Act)(k:Nat):a.put(some k)(a.tmps.getD k undef)=a:=by
 unfold Act.put;have:a.tmps.setIfInBounds k(a.tmps.getD k undef)=a.tmps:=by
  refine Array.ext_getElem? fun j=>?_
  rw [Array.getElem?_setIfInBounds];by_cases e:k=j
  ·subst e;by_cases h:k<a.tmps.size
   ·simp [h,Array.getD]
   ·simp [h]
  ·simp [e]
 cases a;simp only [this]
theorem zHX(d:Nat->Nat)(a:Act):∀M:List Nat,qb d(fun i=>a.tmps.getD(d i) undef) M a=a
 |[]=>rfl
 |i :: r=>by
  show qb d _ r(a.put(some(d i))(a.tmps.getD(d i) undef))=a;rw [zPb];exact zHX d a r
theorem zJO(M:List Nat)(D:Nat->List Nat)(d:Nat->Nat)(F:Nat->Value->World->Prop)(bA:Nat){l0:Array Bool}{a:Act}{w:World}
  (dA:zKL md ops M D l0=true)(hn:M.Nodup)(hd:M.Pairwise(fun p q=>d p≠d q))(eA:∀i∈M,∀j∈D i,j∈M)
  (hF:∀i v w w',F i v w->Below w.heap.size w w'->F i v w')(hG:∀w w',G w->Below w.heap.size w w'->G w')(hS:S w)(hg:G w)
  (aA:∀i∈M,∀x w,S w->G w->(∀j∈D i,F j(x j) w)->∀K:Act->World->Prop,Shut(∀a' v w',a'=(qb d x M a).put(some(d i)) v->S w'->F i v w'->Below w.heap.size w w'->K a' w')->wpOp P ops Q i K(qb d x M a) w)
  (cA:∀x w,S w->G w->(∀i∈M,F i(x i) w)->wpAnyH P md ops Q S bA(zAu(fun _=>true) M l0)(qb d x M a) w):wpAnyH P md ops Q S(bA+M.length) l0 a w:=
 zPH(fun i=>a.tmps.getD(d i) undef) dA hn hd eA hF hG aA cA(zHX d a M).symm rfl hS hg
end
def zCV(w:World)(lb:Array Value)(caps:List Value):Prop:=lb.size=caps.length/\∀(k:Nat)(u:Value),caps[k]?=some u->∃B,lb[k]?=some(.pointer(some ⟨B,0,none⟩))/\w.cell? ⟨B,0,none⟩=some u
theorem zCV.zRJ{w w':World}{lb:Array Value}{caps:List Value}(h:zCV w lb caps)(t:Below w.heap.size w w'):zCV w' lb caps:=
 ⟨h.1,fun k u hk=>by
  obtain⟨B,h1,h2⟩:=h.2 k u hk;exact⟨B,h1,(t.cell(zD h2)).trans h2⟩⟩
theorem zCV.one{w:World}{B:Nat}{u:Value}(h:w.cell? ⟨B,0,none⟩=some u):zCV w #[.pointer(some ⟨B,0,none⟩)] [u]:=
 ⟨rfl,fun k x hk=>by
  match k,hk with
  |0,hk=>simp at hk;subst hk;exact⟨B,rfl,h⟩
  |k+1,hk=>simp at hk⟩
theorem zCV.is1{w:World}{lb:Array Value}{u:Value}(h:zCV w lb [u]):∃B,lb=#[.pointer(some ⟨B,0,none⟩)]/\w.cell? ⟨B,0,none⟩=some u:=by
 obtain⟨B,h1,h2⟩:=h.2 0 u rfl;refine⟨B,?_,h2⟩;have hs:=h.1;obtain⟨l⟩:=lb
 match l,hs,h1 with
 |[x],_,h1=>simp at h1;rw [h1]
def QAt(w:World)(p:Nat->Addr)(g i:Nat)(caps:List Value)(v:Value):Prop:=∃lb,v = .agg #[.func(.func g) #[] lb,qP(p i)]/\zCV w lb caps
theorem QAt.zRJ{w w':World}{p:Nat->Addr}{g i:Nat}{caps:List Value}{v:Value}(h:QAt w p g i caps v)(t:Below w.heap.size w w'):QAt w' p g i caps v:=by
 obtain⟨lb,hv,hc⟩:=h;exact⟨lb,hv,hc.zRJ t⟩
theorem zOS{w:World}{s:ByteArray}{t:TypeId}{f:Nat->ByteArray}(hs:s.size<=maxLen)(h0:f 0=s):zAH(w.alloc(.cells #[.string s] t))(.slice(some ⟨w.heap.size,0,none⟩) 1 1) 1 f:=by
 refine⟨by omega,_,_,rfl,fun i hi=>?_,fun _=>⟨_,_,rfl,fun i hi=>?_⟩⟩
 ·obtain rfl:i=0:=(by omega);rw [h0];exact hs
 ·obtain rfl:i=0:=(by omega);rw [h0];exact World.cell?_alloc_at _ _ _ _ rfl
def zGW(w:World)(p:Nat->Addr)(m:Nat)(g ei:Nat->Nat)(caps:Nat->List Value)(v:Value):Prop:=∃lb:Nat->Array Value,zCw w p v m g lb ei/\∀k,k<m->zCV w(lb k)(caps k)
theorem zGW.zRJ{w w':World}{p:Nat->Addr}{m:Nat}{g ei:Nat->Nat}{caps:Nat->List Value}{v:Value}(h:zGW w p m g ei caps v)(t:Below w.heap.size w w'):zGW w' p m g ei caps v:=by
 obtain⟨lb,h1,h2⟩:=h;exact⟨lb,h1.zRJ t,fun k hk=>(h2 k hk).zRJ t⟩
theorem zQp{w:World}{p:Nat->Addr}{g ei:Nat->Nat}{caps:Nat->List Value}{aA:Array Value}{t:TypeId}(h0:zCV w aA(caps 0)):zGW(w.alloc(.cells #[.func(.func(g 0)) #[] aA,qP(p(ei 0))] t)) p 1 g ei caps(.slice(some ⟨w.heap.size,0,none⟩) 1 1):=by
 have bA:=zC w(.cells #[.func(.func(g 0)) #[] aA,qP(p(ei 0))] t);refine⟨(fun i=>match i with  | _=>aA),⟨by omega,_,_,rfl,fun _=>⟨_,_,rfl,fun i hi=>?_⟩⟩,fun i hi=>?_⟩
 ·obtain rfl:i=0:=(by omega);exact⟨World.cell?_alloc_at _ _ _ _ rfl,World.cell?_alloc_at _ _ _ _ rfl⟩
 ·obtain rfl:i=0:=(by omega);exact h0.zRJ bA
theorem zMy(v0 v1 v2 v3:Value)(lo hi:Nat)(W:zH)(name:ByteArray)(w:World)(h:zl w lo hi v0 v1 v2 v3 W)(iA:W.sn<=8)(jA:name.size<=maxLen) :
  Calls Tryz.prog 92 #[zz v0 v1 v2 v3 W,.string name] w fun e w'=>zG(zAP W name) e/\Below w.heap.size w w':=by
 have Hp:=zB h;clear h;have ha:=zC w(.cells #[v0,v1,.int .i64 W.time,.int .i64 W.next,v2,v3] 37);obtain⟨⟨x0,-⟩,⟨x1,-⟩,⟨x2,-⟩,⟨x3,-⟩,⟨x4,-⟩,⟨x5,-⟩⟩:=zi.zRL w(v0)(v1)(.int .i64 W.time)(.int .i64 W.next)(v2)(v3) 37;go_enter Tryz.func92,Tryz.ntmps92;go_wp2_with fail;clear x0 x1 x2 x3 x4 x5;generalize w.alloc(.cells #[v0,v1,.int .i64 W.time,.int .i64 W.next,v2,v3] 37)=W0 at ha ⊢;refine(zEQ v0 v1 v2 v3 lo hi W W0(Hp.out.zRJ ha) iA).mono ?_;rintro e w1 ⟨vd,rfl,hmap,hvd,hb1⟩;have eA:∀i,i<W.sn->∃a n c,vd i = .slice a n c:=fun i hi'=>by
  obtain⟨_,aa,cc,hv,_⟩:=hvd i hi';exact⟨aa,_,cc,hv⟩
 obtain⟨s0,i1,i2,i3,i4,sa,sn,sc,hat⟩:=zJo eA name;have gA:=zB hat;have bA:=zB(zK6(W:=W)(vd:=vd));have dA:=zB hmap;have cA:=zB(zKI jA);have fA:=zA ha hb1;clear hmap hvd eA hb1 ha hat;obtain⟨M,hM⟩:∃M,M=W0.heap.size+1:=⟨_,rfl⟩;rw [<-hM] at dA ⊢;clear hM;by_cases aA:zAP W name
 ·skip;have Hc:=zB(show Maps.has(putD(fun i=>zCq(W.zRS i).name)(fun i=>zDH(vd i)(W.zRS i)) W.sn)(zCq name)=true from(bA.out name).2 aA);have Hn:=zB aA;clear aA;go_wp2_with(first
   |(at_lookup;refine zAD _ rfl _ _ 177 rfl 9 67 zOv zLa(zFq _) M W.sn _ rfl dA.out _ _ rfl cA.out _ gA.out true Hc.out ?_)
   |go_in)
  go_ret;exact⟨zG.yes Hn.out,zA fA(zC w1(.cells #[.string s0,.int .i64 i1,.int .i64 i2,.int .i64 i3,.int .i64 i4,.slice sa sn sc] 67))⟩
 ·skip;have Hc:=zB(show Maps.has(putD(fun i=>zCq(W.zRS i).name)(fun i=>zDH(vd i)(W.zRS i)) W.sn)(zCq name)=false from by rw [Bool.eq_false_iff];exact fun h=>aA((bA.out name).1 h));have Hn:=zB aA;clear aA;go_wp2_with(first
   |(at_lookup;refine zAD _ rfl _ _ 177 rfl 9 67 zOv zLa(zFq _) M W.sn _ rfl dA.out _ _ rfl cA.out _ gA.out false Hc.out ?_)
   |go_in)
  go_ret;exact⟨zG.no Hn.out,zA fA(zC w1(.cells #[.string s0,.int .i64 i1,.int .i64 i2,.int .i64 i3,.int .i64 i4,.slice sa sn sc] 67))⟩
theorem zIh(v0 v1 v2 v3:Value)(lo hi:Nat)(W:zH)(B:Nat)(name:ByteArray)(w:World)(h:zl w lo hi v0 v1 v2 v3 W)(cA:W.sn<=8)(dA:name.size<=maxLen)(hc:w.cell? ⟨B,0,none⟩=some(.string name)) :
  Calls Tryz.prog 91 #[zz v0 v1 v2 v3 W,.pointer(some ⟨B,0,none⟩)] w fun e w'=>zG(zAP W name) e/\Below w.heap.size w w':=by
 have Hp:=zB h;clear h;have ha:=zC w(.cells #[v0,v1,.int .i64 W.time,.int .i64 W.next,v2,v3] 37);have bA:=(ha.cell(zD hc)).trans hc;obtain⟨⟨x0,-⟩,⟨x1,-⟩,⟨x2,-⟩,⟨x3,-⟩,⟨x4,-⟩,⟨x5,-⟩⟩:=zi.zRL w(v0)(v1)(.int .i64 W.time)(.int .i64 W.next)(v2)(v3) 37;go_enter Tryz.func91,Tryz.ntmps91;go_wp2_with fail;clear x0 x1 x2 x3 x4 x5 hc bA;generalize w.alloc(.cells #[v0,v1,.int .i64 W.time,.int .i64 W.next,v2,v3] 37)=W0 at ha ⊢;refine(zMy v0 v1 v2 v3 lo hi W name W0(Hp.out.zRJ ha) cA dA).mono ?_;rintro e w1 ⟨⟨t,rfl,ht⟩,hb1⟩;have aA:=zA ha hb1;by_cases hf:zAP W name
 ·obtain rfl:t=true:=ht.2 hf;have HF:=zB hf;clear ht hf;go_wp2;go_ret;exact⟨zG.yes HF.out,aA⟩
 ·obtain rfl:t=false:=zQ ht hf;have HF:=zB hf;clear ht hf;go_wp2;go_ret;exact⟨zG.no HF.out,aA⟩
theorem zKy(p:Nat->Addr)(s0:ByteArray)(w:World)(hE:zEt w p) :
  Calls Tryz.prog 33 #[.string s0] w fun e w'=>∃B0:Nat,e = .returned(.agg #[.func(.func 91) #[] #[.pointer(some ⟨B0,0,none⟩)],qP(p 2)])/\w'.cell? ⟨B0,0,none⟩=some(.string s0)/\Below w.heap.size w w':=by
 have cA:=zC w(.cells #[.string s0] 9);have dA:=zC(w.alloc(.cells #[.string s0] 9))(.cells #[.nilFunc,.nilIface] 75);have hb:=zA(cA) dA;have c0:(w.alloc(.cells #[.string s0] 9)).cell? ⟨w.heap.size,0,none⟩=some(.string s0):=World.cell?_alloc_at _ _ _ _ rfl;have hg:((w.alloc(.cells #[.string s0] 9)).alloc(.cells #[.nilFunc,.nilIface] 75)).cell? ⟨0,0,none⟩=some(qP(p 2)):=(hE.zRJ hb).cell 2(by omega);have bA:=zC(w.alloc(.cells #[.string s0] 9))(.cells #[.func(.func 91) #[] #[.pointer(some ⟨w.heap.size,0,none⟩)],qP(p 2)] 75);have fA:=zA(cA) bA;have eA:=zB((bA.cell(zD c0)).trans c0);clear c0;go_enter Tryz.func33,Tryz.ntmps33;have gA:=fun(ww:World)(a:Addr)=>run_store Tryz.prog ww a(.func(.func 91) #[] #[.pointer(some ⟨w.heap.size,0,none⟩)]) .plain rfl
 go_wp2_with fail;have aA:=zc.zRL(w.alloc(.cells #[.string s0] 9))(.func(.func 91) #[] #[.pointer(some ⟨w.heap.size,0,none⟩)])(qP(p 2)) 75;rw [World.size_alloc] at aA;refine bodyPost_ret(v:=.agg #[.func(.func 91) #[] #[.pointer(some ⟨w.heap.size,0,none⟩)],qP(p 2)])(by simp [results,Tryz.results33,go_sem,aA.1.1,aA.2.1]) rfl ⟨_,rfl,eA.out,fA⟩
end Go.Proofs.YtmgeglgboadfiaaGreatDoor
