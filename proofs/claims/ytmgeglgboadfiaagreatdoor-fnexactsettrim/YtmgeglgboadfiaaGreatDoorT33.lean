/- A set gets another tree in a change: (*impl.change).lay. -/
import Derived.Test.YtmgeglgboadfiaaGreatDoorT32
set_option linter.unusedVariables false
set_option maxRecDepth 20000
set_option maxHeartbeats 4000000
namespace Go.Proofs.YtmgeglgboadfiaaGreatDoor
open Go.RowKit
theorem zQD(p:Nat->Addr)(C k hw lB sB:Nat)(z0 z1 z2 z3 bE jE vo:Value)(W:zH)(y:zCB)(name:ByteArray)(w:World)(hE:zEt w p)(hI:zAt W)(hy:zGt y)(ht:zB3(zN W(W.zRS k).zRT).time)(hx:(Lit.int .i64(W.zRS k).zRT).wf=true)(hk:zFc W name k)(hD:(W.zRS k).dn<=1048576)(iG:C<hw)(eG:hw<=w.heap.size)
  (ho:qR w(C+1) hw z0 z1 z2 z3 W)(hC:yq w C z0 z1(.int .i64 W.time)(.int .i64 W.next) z2 z3(.int .i64 0)(.int .i64 0) .nilIface)(iD:zt w lB sB bE jE y.zRQ)(kG:hw<=lB)(bG:sB<=w.heap.size)(cD:zR w hw w.heap.size vo y.old.length(zf y.old)(zh y.old)) :
  Calls Tryz.prog 35 #[.pointer(some ⟨C,0,none⟩),.string name,.agg #[bE,jE,.int .i64 y.rs,.int .i64 y.rb,vo,.int .i64 y.code]] w(zLI p(zA8 W k y) C w):=by
 have h8:=hI.zRa.zRS.1;have rE:=hI.zRa.zRP.1;have gA:=hk.1;have jG:=hy.2.1;have HE:=zB hE;have HC:=zB hC;have HI:=zB hI;have HY:=zB hy;have Ht:=zB ht;have Hx:=zB hx;have Hk:=zB hk;obtain⟨fA,oc0,oa1,oc1,rfl,rfl⟩:=iD.at.form;obtain⟨-,oo,oc,rfl,-,-⟩:=id cD;obtain⟨P,Q,R,hinR,hltS⟩:=ho;obtain⟨fB,kb,kv,hS,hSa,hSq,-,hRB⟩:=hinR.zRS;obtain⟨off,c,rfl,hsk⟩:=hS.nth gA;have kD:Q fB:=hSq _(Or.inl ⟨by omega,rfl⟩);have lG:=hltS fB(Or.inr(Or.inl kD));obtain⟨bs,hbs⟩:∃bs,bs=fB:=⟨_,rfl⟩;obtain⟨o2,ho2⟩:∃o2,o2=off+k*6:=⟨_,rfl⟩;have nB:=zB(show ∀w',yN w' fB kb kv(.slice(some ⟨fB,off,none⟩) W.sn c) W.sn W.zRS->w'.cell? ⟨C,4,none⟩=some(.slice(some ⟨fB,off,none⟩) W.sn c)->Calls Tryz.prog 37 #[.pointer(some ⟨C,0,none⟩),.string name] w' fun e sC=>e = .returned(.pointer(some ⟨bs,o2,none⟩))/\Below w'.heap.size w' sC from fun w' bF hc=>by
  refine(zJK C(C+1) hw W.sn k c _ W.zRS name w' hc(bF.at(lo:=C+1)(hi:=hw)(fun j hj=>hltS j(Or.inr(Or.inl(hSq j hj))))) h8 gA hk.2.1 hk.2.2).mono ?_;rintro e w2 ⟨⟨b,off',e1,rfl⟩,hb2⟩;simp only [Option.some.injEq,Addr.mk.injEq,and_true] at e1;obtain⟨rfl,rfl⟩:=e1;exact⟨by rw [hbs,ho2],hb2⟩)
 subst hbs;have dA:=zB hltS;have eF:=zB hS;have nE:=zB hSa;have bB:=zB hSq;have aB:=zB hsk;have nF:=zB kD;have pF:=zB(hRB k gA);have HZ:=zB hinR.zRP.isIn;have rC:=zB hinR.qr;have sE:=zB ho2;have fF:=zB iD;have vE:=zB cD;clear hinR hltS hS hSa hSq hsk hC hI hE hy ht hx hk kD hRB iD cD;rw [<-ho2] at aB;clear ho2;have ha:=zC w(.cells #[.slice fA y.zRQ.n oc0,.slice oa1 y.zRQ.hn oc1,.int .i64 y.rs,.int .i64 y.rb,.slice oo y.old.length oc,.int .i64 y.code] 64);have HX:=zB(zi.zRL w(.slice fA y.zRQ.n oc0)(.slice oa1 y.zRQ.hn oc1)(.int .i64 y.rs)(.int .i64 y.rb)(.slice oo y.old.length oc)(.int .i64 y.code) 64);have oD:(w.alloc(.cells #[.slice fA y.zRQ.n oc0,.slice oa1 y.zRQ.hn oc1,.int .i64 y.rs,.int .i64 y.rb,.slice oo y.old.length oc,.int .i64 y.code] 64)).heap.size=w.heap.size+1:=World.size_alloc _ _;have gG:C<w.heap.size:=by omega
 obtain⟨⟨x0,-⟩,⟨x1,-⟩,⟨x2,-⟩,⟨x3,-⟩,⟨x4,-⟩,⟨x5,-⟩⟩:=HX.out;by_cases fC:y.code=0;rotate_left
 ·obtain⟨i,hi7,hci⟩:=HY.out.1.resolve_left fC;have sD:=zB hci;clear hci;go_enter Tryz.func35,Tryz.ntmps35;go_wp2_with fail;generalize w.alloc(.cells #[.slice fA y.zRQ.n oc0,.slice oa1 y.zRQ.hn oc1,.int .i64 y.rs,.int .i64 y.rb,.slice oo y.old.length oc,.int .i64 y.code] 64)=w1 at ha HX oD x0 x1 x2 x3 x4 x5 ⊢;refine(zGr p y.code i(qP(p i))(Or.inr ⟨hi7,sD.out,rfl⟩) w1(HE.out.zRJ ha)).mono ?_;rintro e w2 ⟨rfl,hb2⟩;have cB:=zA ha hb2;have tA:=zB(HC.out.zRJ cB);clear x0 x1 x2 x3 x4 x5;obtain⟨-,-,-,-,-,-,-,-,⟨x8,x8'⟩⟩:=tA.out;go_wp2_with fail;go_end0;have hT:=zF.put w2 C 8(qP(p i));have tE:=cB.size;have iF:=hT.size;have kA:=tA.out;refine⟨⟨_,rfl⟩,((zF.zRM cB).trans hT).zRJ(B:=C)(by omega)(fun j(h:j=C)=>by omega),Nat.lt_of_lt_of_le(show C<w2.heap.size by omega) iF,Or.inr ⟨i,hi7,?_,_,_,_,_,_,_,_,_,⟨kA.1.zRK _(Or.inr(by decide)),kA.2.1.zRK _(Or.inr(by decide)),kA.2.2.1.zRK _(Or.inr(by decide)),kA.2.2.2.1.zRK _(Or.inr(by decide)),kA.2.2.2.2.1.zRK _(Or.inr(by decide)),kA.2.2.2.2.2.1.zRK _(Or.inr(by decide)),kA.2.2.2.2.2.2.1.zRK _(Or.inr(by decide)),kA.2.2.2.2.2.2.2.1.zRK _(Or.inr(by decide)),kA.2.2.2.2.2.2.2.2.set _⟩⟩⟩;unfold zA8;rw [if_neg fC,sD.out]
 have vB:=zB fC;obtain⟨yc,hyc⟩:∃yc,yc=y.code:=⟨_,rfl⟩;go_enter Tryz.func35,Tryz.ntmps35;clear fC hyc yc;go_wp2_with fail;generalize w.alloc(.cells #[.slice fA y.zRQ.n oc0,.slice oa1 y.zRQ.hn oc1,.int .i64 y.rs,.int .i64 y.rb,.slice oo y.old.length oc,.int .i64 y.code] 64)=w1 at ha HX oD x0 x1 x2 x3 x4 x5 ⊢;refine(zGr p y.code 7 .nilIface(Or.inl ⟨rfl,vB.out,rfl⟩) w1(HE.out.zRJ ha)).mono ?_;rintro e w2 ⟨rfl,hb2⟩;have cB:=zA ha hb2;have tA:=zB(HC.out.zRJ cB);have gE:=zB(HX.out.zRJ hb2);have tE:=hb2.size;clear x0 x1 x2 x3 x4 x5;obtain⟨-,-,-,-,-,-,-,-,⟨x8,x8'⟩⟩:=tA.out;go_upto_region 3 with fail;clear x8 x8';have aC:=zF.put w2 C 8 .nilIface;have tC:=zB(show zF(fun j=>j=C) w(w2.setCell ⟨C,8,none⟩ .nilIface)from(zF.zRM cB).trans aC);have gC:=zB(show yq(w2.setCell ⟨C,8,none⟩ .nilIface) C z0 z1(.int .i64 W.time)(.int .i64 W.next)(.slice(some ⟨bs,off,none⟩) W.sn c) z3(.int .i64 0)(.int .i64 0) .nilIface from by
  have h:=tA.out;exact⟨h.1.zRK _(Or.inr(by decide)),h.2.1.zRK _(Or.inr(by decide)),h.2.2.1.zRK _(Or.inr(by decide)),h.2.2.2.1.zRK _(Or.inr(by decide)),h.2.2.2.2.1.zRK _(Or.inr(by decide)),h.2.2.2.2.2.1.zRK _(Or.inr(by decide)),h.2.2.2.2.2.2.1.zRK _(Or.inr(by decide)),h.2.2.2.2.2.2.2.1.zRK _(Or.inr(by decide)),h.2.2.2.2.2.2.2.2.set _⟩)
 have cC:=zB(gE.out.zRR aC(by omega));have mF:=aC.size;clear aC tA gE;generalize w2.setCell ⟨C,8,none⟩ .nilIface=w3 at tC gC cC mF ⊢;obtain⟨⟨x0,-⟩,⟨x1,-⟩,⟨x2,-⟩,⟨x3,-⟩,⟨x4,-⟩,⟨x5,-⟩⟩:=cC.out;obtain⟨⟨c0,c0'⟩,⟨c1,c1'⟩,-⟩:=gC.out;have n1:w.heap.size≠C:=by omega
 have n2:C≠w.heap.size:=by omega
 go_upto_region 4 with fail;clear x0 x1 x2 x3 x4 x5 c0 c0' c1 c1';have dC:zF(fun j=>j=C) w3((w3.setCell ⟨C,0,none⟩(.slice fA y.zRQ.n oc0)).setCell ⟨C,1,none⟩(.slice oa1 y.zRQ.hn oc1)):=(zF.put _ C _ _).trans(zF.put _ C _ _);have gD:=zB(tC.out.trans dC);have jC:=zB(show yq((w3.setCell ⟨C,0,none⟩(.slice fA y.zRQ.n oc0)).setCell ⟨C,1,none⟩(.slice oa1 y.zRQ.hn oc1)) C(.slice fA y.zRQ.n oc0)(.slice oa1 y.zRQ.hn oc1)(.int .i64 W.time)(.int .i64 W.next)(.slice(some ⟨bs,off,none⟩) W.sn c) z3(.int .i64 0)(.int .i64 0) .nilIface from by
  have h:=gC.out;exact⟨(h.1.set _).zRK _(Or.inr(by decide)),(h.2.1.zRK _(Or.inr(by decide))).set _,(h.2.2.1.zRK _(Or.inr(by decide))).zRK _(Or.inr(by decide)),(h.2.2.2.1.zRK _(Or.inr(by decide))).zRK _(Or.inr(by decide)),(h.2.2.2.2.1.zRK _(Or.inr(by decide))).zRK _(Or.inr(by decide)),(h.2.2.2.2.2.1.zRK _(Or.inr(by decide))).zRK _(Or.inr(by decide)),(h.2.2.2.2.2.2.1.zRK _(Or.inr(by decide))).zRK _(Or.inr(by decide)),(h.2.2.2.2.2.2.2.1.zRK _(Or.inr(by decide))).zRK _(Or.inr(by decide)),(h.2.2.2.2.2.2.2.2.zRK _(Or.inr(by decide))).zRK _(Or.inr(by decide))⟩)
 have eE:=zB(cC.out.zRR dC(by omega));have dF:=dC.size;clear dC gC cC tC;generalize((w3.setCell ⟨C,0,none⟩(.slice fA y.zRQ.n oc0)).setCell ⟨C,1,none⟩(.slice oa1 y.zRQ.hn oc1))=w4 at gD jC eE dF ⊢;have rA:∀j,zCA bs kb W.sn W.zRS j->¬j=C:=fun j hj e=>by have:=dA.out j(Or.inr(Or.inl(bB.out j hj)));omega
 have kE:=zB(eF.out.zRR gD.out rA);have eA:=zB rA;clear rA;obtain⟨c4,-⟩:=jC.out.2.2.2.2.1;go_wp2_with fail;refine(nB.out w4 kE.out c4).mono ?_;clear nB c4;rintro e w5 ⟨rfl,hb5⟩;have cG:=hb5.size;have vA:=zB(gD.out.trans(zF.zRM hb5));have dE:=zB(jC.out.zRJ hb5);have fE:=zB(eE.out.zRJ hb5);have aE:=zB(kE.out.zRJ hb5);have pA:=aB.out.zRR vA.out(by omega)(fun h0=>eA.out _(Or.inr ⟨k,gA,h0,rfl⟩));have oC:=zB pA;have lE:=zB((fF.out.zRR vA.out(fun j e=>by omega)).isIn(S:=fun j=>lB<=j/\j<sB)(fun j h1 h2=>⟨h1,h2⟩));have lD:=zB(vE.out.same(fun j h1 h2=>vA.out.block j h2(by omega)));have bD:=zB(pF.out.kept(zB5 vA.out)(fun h0=>by
  rw [(show(kv k).ownBlock=some(kb k)by
   obtain⟨_,a,c,hv,_,hx⟩:=aB.out.zRX;obtain⟨off,ha,_⟩:=hx h0;rw [hv,ha];rfl)]
  intro e;injection e with e;exact eA.out _(Or.inr ⟨k,gA,h0,rfl⟩) e))
 have cE:=zB(HZ.out.zRR vA.out(fun j hj e=>by have:=dA.out j(Or.inr(Or.inr hj));omega));have aD:bs≠C:=by omega
 have oB:zl w5 0 w5.heap.size(.slice fA y.zRQ.n oc0)(.slice oa1 y.zRQ.hn oc1)(.slice(some ⟨bs,off,none⟩) W.sn c) z3 {W with zRQ:=y.zRQ}:=⟨lE.out.at(fun j hj=>⟨Nat.zero_le _,by omega⟩),aE.out.at(fun j hj=>⟨Nat.zero_le _,by have:=dA.out j(Or.inr(Or.inl(bB.out j hj)));omega⟩),cE.out.at(fun j hj=>⟨Nat.zero_le _,by have:=dA.out j(Or.inr(Or.inr hj));omega⟩)⟩;have eC:=zB(show ∀w',Below w5.heap.size w5 w'->Calls Tryz.prog 95 #[.pointer(some ⟨C,0,none⟩),.int .i64(W.zRS k).zRT] w' fun e sC=>(∃a c,e = .returned(yg(.slice a(zN W(W.zRS k).zRT).dn c)(zN W(W.zRS k).zRT)))/\Below w'.heap.size w' sC from fun w' vD=>by
  refine(zLq C 0 w5.heap.size _ _ _ _ _ _ _ {W with zRQ:=y.zRQ}(W.zRS k).zRT w'(oB.zRJ vD)(dE.out.zRJ vD) rE HI.out.zRa.idsWf HI.out.zRa.dist Hx.out).mono ?_;rw [zIs];rintro e w2 ⟨a,c,rfl,hb2⟩;exact⟨⟨a,c,rfl⟩,hb2⟩)
 have dD:bs<w5.heap.size:=by omega
 obtain⟨x4,-⟩:=fE.out.2.2.2.2.1;obtain⟨q2,-⟩:=pA.c2;have iC:=zB(show ∀w',Below w5.heap.size w5 w'->(fun w':World=>w'.cell? ⟨w.heap.size,4,none⟩=some(.slice oo y.old.length oc)/\w'.cell? ⟨bs,o2+2,none⟩=some(.int .i64(W.zRS k).zRT)) w' from fun w' hb=>⟨(hb.cell(p:=⟨w.heap.size,4,none⟩)(zD x4)).trans x4,(hb.cell(p:=⟨bs,o2+2,none⟩) dD).trans q2⟩);have fG:∀(fn:Fn)(nA tD:Array Value)(w:World),(Instr.makeFunc fn nA tD).run Tryz.prog w = .ok(.func fn nA tD) w:=fun _ _ _ _=>rfl
 have bC:Below w5.heap.size w5 w5.drew:=(Below.refl _ _).drew;have mC:=zB(zPF(W:=W)(k:=k) HY.out vB.out);have jF:=zB((HY.out.2.2 vB.out).ptrs(by omega));obtain⟨A,hA⟩:∃A,A=zN W(W.zRS k).zRT:=⟨_,rfl⟩;have HA:=zB hA;unfold zEr at mC;rw [<-hA] at eC mC Ht;unfold yg at eC;have lF:=fun(a:Option Addr)(c:Nat)(w:World)=>zLy(.slice a A.dn c) A w
 clear hA oB x4 q2 pA;go_upto_region 5 with fail;refine wp_region_held_drew(S:=(fun w':World=>w'.cell? ⟨w.heap.size,4,none⟩=some(.slice oo y.old.length oc)/\w'.cell? ⟨bs,o2+2,none⟩=some(.int .i64(W.zRS k).zRT)))(by kernel_rfl)(iC.out _ bC)(fun hHeld=>?_);generalize w5.drew=q0 at hHeld bC ⊢;refine tk 0(h:=tk 1(h:=tk 2(h:=tk 3(h:=tk 4(h:=tk 5(h:=tk 6(h:=tk 9(h:=tk 10(h:=?_)))))))));refine rd [7](rc(fun K hK=>?_) .nil);go_simp;go_at_call 95;refine(eC.out _ bC).mono ?_;rintro e w6 ⟨⟨a6,c6,rfl⟩,hb6⟩;have bA:=zA bC hb6
 (try go_wp2_with fail)
 refine hK.out _ _(iC.out _ bA) ?_;clear hK K;intro hHeld
 try simp only [Act.put,s1,s2,s3]
 refine tk 8(h:=?_);refine rd [11](rc(fun K hK=>?_) .nil);go_simp;go_at_call 94;have aG:=bA.size;refine(zNi C hw w.heap.size y.old.length(fun j=>lB<=j/\j<sB) _ _ _ _ .nilIface _ W.time W.next 0 0 A.time y.zRQ(zf y.old)(zh y.old) w6(lD.out.zRJ bA) jF.out Ht.out mC.out(dE.out.zRJ bA)(lE.out.zRJ bA)(fun k hk=>by omega)(by omega)(by omega)).mono ?_;rintro e w7 ⟨v7,y0,y1,rfl,dB,hC7,hP7,hT7⟩;obtain⟨a7,c7,rfl,-⟩:=zW dB;have mE:(fun w':World=>w'.cell? ⟨w.heap.size,4,none⟩=some(.slice oo y.old.length oc)/\w'.cell? ⟨bs,o2+2,none⟩=some(.int .i64(W.zRS k).zRT)) w7:=by
  have h:=iC.out _ bA;exact⟨(hT7.cell(o:=4)(show w.heap.size<w6.heap.size by omega)(by omega)).trans h.1,(hT7.cell(o:=o2+2)(show bs<w6.heap.size by omega) aD).trans h.2⟩
 have pD:=zB dB;have kF:=zB hC7;have rF:=zB hP7;have nC:zF(fun j=>j=C) w5 w7:=(zF.zRM bA).trans hT7;have mG:=hT7.size;have eB:=zB nC;clear hC7 hP7 dB
 (try go_wp2_with fail)
 refine hK.out _ _ mE ?_;clear hK K hHeld mE hT7;intro hHeld
 try simp only [Act.put,s1,s2,s3]
 refine tk 12(h:=?_);refine wpAnyH_done(by kernel_rfl) ?_ _;clear hHeld lF eC iC;go_upto_region 6 with fail;have aA:=oC.out.zRR eB.out aD(fun h0=>eA.out _(Or.inr ⟨k,gA,h0,rfl⟩));have rD:=fE.out.zRR eB.out(show ¬w.heap.size=C by omega);have rB:=bD.out.kept(zB5 eB.out)(fun h0=>by
  rw [(show(kv k).ownBlock=some(kb k)by
   obtain⟨_,a,c,hv,_,hx⟩:=aB.out.zRX;obtain⟨off,ha,_⟩:=hx h0;rw [hv,ha];rfl)]
  intro e;injection e with e;exact eA.out _(Or.inr ⟨k,gA,h0,rfl⟩) e)
 have pE:=zB(aE.out.zRR eB.out eA.out);obtain⟨L,hL⟩:∃L,L=zBg(zf y.old)(zh y.old) A.time y.old.length:=⟨_,rfl⟩;rw [<-hL] at pD;simp only [<-hL];have oG:L.length<=3:=by
  rw [hL];have:=zLO(zf y.old)(zh y.old) A.time y.old.length;omega
 have aF:=zB hL;have cA:Below w7.heap.size w7 w7.drew:=(Below.refl _ _).drew;have dB:=zw.zRJ pD.out cA;obtain⟨-,ak,ck,ekv,-,-⟩:=id aA.zRX;have fD:=aA.zRX.zRJ cA;have vC:=rB.zRJ cA;rw [ekv] at fD vC;obtain⟨da,dc,wb,nb,hrun,hnew,hTb,hnb⟩:=zGq(lo:=0)(hi:=w7.drew.heap.size) fD vC(by
  obtain⟨bb,ho,hbb⟩:=zw.own dB(by unfold maxLen;omega);exact ho.at(fun h0=>⟨Nat.zero_le _,(hbb h0).2.2⟩))(by omega) 62
 have pC:=zB hnew;have sA:=zB hTb;have iE:=zB hnb;have mA:∀j,(0<(W.zRS k).dn/\j=kb k)->j≠bs/\j≠C/\j≠w.heap.size:=fun j hj=>by
  have h1:=dA.out j(Or.inr(Or.inl(bB.out j(Or.inr ⟨k,gA,hj.1,hj.2⟩))));exact⟨fun e=>aB.out.zRW hj.1(by rw [<-hj.2];exact e),by omega,by omega⟩
 have lC:bs<w7.drew.heap.size:=show bs<w7.heap.size by omega
 have iB:=rD.zRJ cA;have gF:=iB.zRR hTb(fun h=>(mA _ h).2.2 rfl);have jA:=fun(r:Nat)(u:Value)(h:zX w7 bs(o2+r) u)=>(h.zRJ cA).zRR hTb(fun h=>(mA _ h).1 rfl)
 have c5:=aA.c5;rw [ekv] at c5;obtain⟨d5,d5'⟩:=c5.zRJ cA;obtain⟨m3,m3'⟩:=jA 3 _ aA.c3;obtain⟨m4,m4'⟩:=jA 4 _ aA.c4;obtain⟨m5,m5'⟩:=jA 5 _ c5;obtain⟨-,-,⟨x2,-⟩,⟨x3,-⟩,-⟩:=iB;obtain⟨-,-,⟨u2,-⟩,⟨u3,-⟩,-⟩:=gF;have kC:=zB aA;have iA:=zB mA;have tF:=zB ekv;have n3:bs≠w.heap.size:=by omega
 have n4:w.heap.size≠bs:=by omega
 clear rD jA c5 fD vC hnew hTb hnb aA rB dB hL mA ekv;have E1:zF(fun j=>j=bs) wb((wb.setCell ⟨bs,o2+3,none⟩(.int .i64 y.rs)).setCell ⟨bs,o2+3+1,none⟩(.int .i64 y.rb)):=(zF.put _ bs _ _).trans(zF.put _ bs _ _);have E2:zF(fun j=>j=bs) wb(((wb.setCell ⟨bs,o2+3,none⟩(.int .i64 y.rs)).setCell ⟨bs,o2+3+1,none⟩(.int .i64 y.rb)).setCell ⟨bs,o2+5,none⟩(.slice da((W.zRS k).dn+L.length) dc)):=E1.trans(zF.put _ bs _ _);have tB:w.heap.size<wb.heap.size:=zD u2;have oF:=zB(show(fun w':World=>w'.cell? ⟨w.heap.size,2,none⟩=some(.int .i64 y.rs)/\w'.cell? ⟨w.heap.size,3,none⟩=some(.int .i64 y.rb))((wb.setCell ⟨bs,o2+3,none⟩(.int .i64 y.rs)).setCell ⟨bs,o2+3+1,none⟩(.int .i64 y.rb))from⟨(E1.cell(o:=2) tB n4).trans u2,(E1.cell(o:=3) tB n4).trans u3⟩);have oE:=zB(show(fun w':World=>w'.cell? ⟨w.heap.size,2,none⟩=some(.int .i64 y.rs)/\w'.cell? ⟨w.heap.size,3,none⟩=some(.int .i64 y.rb))(((wb.setCell ⟨bs,o2+3,none⟩(.int .i64 y.rs)).setCell ⟨bs,o2+3+1,none⟩(.int .i64 y.rb)).setCell ⟨bs,o2+5,none⟩(.slice da((W.zRS k).dn+L.length) dc))from⟨(E2.cell(o:=2) tB n4).trans u2,(E2.cell(o:=3) tB n4).trans u3⟩);have mB:=zB E2;have jB:=zB hrun;have HU:=zB(show(fun w':World=>w'.cell? ⟨w.heap.size,2,none⟩=some(.int .i64 y.rs)/\w'.cell? ⟨w.heap.size,3,none⟩=some(.int .i64 y.rb)) wb from⟨u2,u3⟩);have jD:=zB(show(fun w':World=>w'.cell? ⟨w.heap.size,2,none⟩=some(.int .i64 y.rs)/\w'.cell? ⟨w.heap.size,3,none⟩=some(.int .i64 y.rb)) w7.drew from⟨x2,x3⟩);clear hrun E1 E2 u2 u3;refine wp_region_held_drew(S:=(fun w':World=>w'.cell? ⟨w.heap.size,2,none⟩=some(.int .i64 y.rs)/\w'.cell? ⟨w.heap.size,3,none⟩=some(.int .i64 y.rb)))(by kernel_rfl) jD.out(fun hHeld=>?_);generalize w7.drew=q7 at hHeld jD jB sA iE d5 d5' x2 x3 cA lC ⊢;refine tk 0(h:=tk 1(h:=tk 2(h:=tk 3(h:=tk 4(h:=tk 5(h:=tk 6(h:=tk 8(h:=?_))))))));refine rd [7](rc(fun K hK=>?_) .nil);go_simp
 (try go_wp2_with fail)
 refine hK.out _ _(jD.out) ?_;clear hK K;intro hHeld
 try simp only [Act.put,s1,s2,s3]
 refine rd [9](rc(fun K hK=>?_) .nil);refine yv rfl(.tmp 47)(.tmp 48) 62 rfl _ _ _ rfl rfl jB.out ?_
 (try go_wp2_with fail)
 refine hK.out _ _(HU.out) ?_;clear hK K;intro hHeld
 try simp only [Act.put,s1,s2,s3]
 clear d5 d5' x2 x3;refine tk 10(h:=tk 11(h:=?_));refine rd [12](rc(fun K hK=>?_) .nil);go_simp
 (try go_wp2_with fail)
 refine hK.out _ _(oF.out) ?_;clear hK K;intro hHeld
 try simp only [Act.put,s1,s2,s3]
 refine tk 13(h:=tk 14(h:=?_));refine rd [15](rc(fun K hK=>?_) .nil);go_simp
 (try go_wp2_with fail)
 refine hK.out _ _(oE.out) ?_;clear hK K;intro hHeld
 try simp only [Act.put,s1,s2,s3]
 refine wpAnyH_done(by kernel_rfl) ?_ _;clear hHeld m3 m3' m4 m4' m5 m5';go_wp2_with fail;go_end0;have eO:zA8 W k y=⟨zLr W k y,0,((zEr W k y).length:Int),0⟩:=if_pos vB.out;have eY:zEr W k y=qd(zf y.old)(zh y.old) A.time y.old.length:=by unfold zEr;rw [HA.out]
 have eD:zDa W k y=zBH(W.zRS k).dn(W.zRS k).ds(W.zRS k).db ++ L:=by unfold zDa zOr;rw [aF.out,HA.out]
 have cF:yq(((wb.setCell ⟨bs,o2+3,none⟩(.int .i64 y.rs)).setCell ⟨bs,o2+3+1,none⟩(.int .i64 y.rb)).setCell ⟨bs,o2+5,none⟩(.slice da((W.zRS k).dn+L.length) dc)) C y0 y1(.int .i64 W.time)(.int .i64 W.next)(.slice(some ⟨bs,off,none⟩) W.sn c) z3(.int .i64 0)(.int .i64((zEr W k y).length:Int)) .nilIface:=by
  have h:=kF.out;rw [Int.zero_add,<-eY] at h;exact((h.zRJ cA).zRR sA.out(fun e=>(iA.out _ e).2.1 rfl)).zRR mB.out(fun e=>aD e.symm)
 have dG:=cA.size;have vF:=sA.out.size;have nG:=mB.out.size;have pB:zF(fun j=>j=C\/j=bs\/(0<(W.zRS k).dn/\j=kb k)) w(((wb.setCell ⟨bs,o2+3,none⟩(.int .i64 y.rs)).setCell ⟨bs,o2+3+1,none⟩(.int .i64 y.rb)).setCell ⟨bs,o2+5,none⟩(.slice da((W.zRS k).dn+L.length) dc)):=((((vA.out.mono(fun j e=>Or.inl e)).trans(eB.out.mono(fun j e=>Or.inl e))).trans(zF.zRM cA)).trans(sA.out.mono(fun j e=>Or.inr(Or.inr e)))).trans(mB.out.mono(fun j e=>Or.inr(Or.inl e)));have lA:∀j,(0<(W.zRS k).dn/\j=kb k)->C+1<=j/\j<hw/\Q j:=fun j hj=>by
  have h1:=bB.out j(Or.inr ⟨k,gA,hj.1,hj.2⟩);have:=dA.out j(Or.inr(Or.inl h1));exact⟨this.1,this.2,h1⟩
 rw [eO];refine⟨⟨_,rfl⟩,pB.zRJ(B:=C)(by omega)(fun j h=>by
  rcases h with h | h | h
  ·omega
  ·omega
  ·have:=lA j h;omega),by omega,Or.inl ⟨rfl,_,_,_,_,cF,?_⟩⟩
 have oA:zF(fun j=>j=bs\/(0<(W.zRS k).dn/\j=kb k)) q7(((wb.setCell ⟨bs,o2+3,none⟩(.int .i64 y.rs)).setCell ⟨bs,o2+3+1,none⟩(.int .i64 y.rb)).setCell ⟨bs,o2+5,none⟩(.slice da((W.zRS k).dn+L.length) dc)):=(sA.out.mono(fun j e=>Or.inr e)).trans(mB.out.mono(fun j e=>Or.inl e));have gB:∀o u,zX w7 bs o u->zX wb bs o u:=fun o u h=>(h.zRJ cA).zRR sA.out(fun h=>(iA.out _ h).1 rfl)
 have e2:=sE.out;have mD:0<(zBY W k y).dn->((0<(W.zRS k).dn/\nb=kb k)\/(q7.heap.size<=nb/\nb<wb.heap.size)):=fun h=>iE.out(by
  have:(zBY W k y).dn=(W.zRS k).dn+L.length:=(by show(zDa W k y).length=_;rw [eD,List.length_append,zAn]);omega)
 have kB:0<(zBY W k y).dn->nb≠bs:=fun h=>by
  rcases mD h with h | h
  ·exact(iA.out nb h).1
  ·omega
 have nD:zAE(((wb.setCell ⟨bs,o2+3,none⟩(.int .i64 y.rs)).setCell ⟨bs,o2+3+1,none⟩(.int .i64 y.rb)).setCell ⟨bs,o2+5,none⟩(.slice da((W.zRS k).dn+L.length) dc)) bs(off+k*6) nb(.slice da((W.zRS k).dn+L.length) dc)(zBY W k y):=by
  rw [<-e2];have hs:=kC.out;refine⟨?_,?_,?_,?_,?_,?_,?_,aB.out.zRZ,kB⟩
  ·exact(((gB _ _ hs.c0).zRK _(Or.inr(by omega))).zRK _(Or.inr(by omega))).zRK _(Or.inr(by omega))
  ·exact(((gB _ _ hs.c1).zRK _(Or.inr(by omega))).zRK _(Or.inr(by omega))).zRK _(Or.inr(by omega))
  ·exact(((gB _ _ hs.c2).zRK _(Or.inr(by omega))).zRK _(Or.inr(by omega))).zRK _(Or.inr(by omega))
  ·exact(((gB _ _ hs.c3).set _).zRK _(Or.inr(by omega))).zRK _(Or.inr(by omega))
  ·exact(((gB _ _ hs.c4).zRK _(Or.inr(by omega))).set _).zRK _(Or.inr(by omega))
  ·exact(((gB _ _ hs.c5).zRK _(Or.inr(by omega))).zRK _(Or.inr(by omega))).set _
  ·have h:=pC.out.zRR mB.out(fun h0=>kB(by show 0<(zDa W k y).length;rw [eD];exact h0));show zj _ nb _(zDa W k y).length(zf(zDa W k y))(zh(zDa W k y));rw [eD];exact h
 show qO _(C+1) _ _ _ _ _(zLr W k y);refine⟨(fun j=>(lB<=j/\j<sB)\/(w6.heap.size<=j/\j<w7.heap.size)),(fun j=>Q j\/(q7.heap.size<=j/\j<wb.heap.size)),R,⟨?_,?_,?_,?_,?_,?_⟩,?_⟩
 ·have h:=(rF.out.zRJ cA).zRR oA(fun j hj e=>by
   rcases e with e | e
   ·omega
   ·have:=lA j e;omega)
  show qZ _ _ _ _(zx y.zRQ(zEr W k y));rw [eY];exact h
 ·refine zH2(w:=q7)(pE.out.zRJ cA) nE.out(fun j hj=>Or.inl(bB.out j hj)) gA oA(fun j hj sF r hr u hc=>?_) nD(fun h=>⟨(mD h).imp id(fun h j hj e=>?_),?_⟩)
  ·exact(((hc.zRR sA.out(fun h=>(iA.out _ h).1 rfl)).zRK _(Or.inr(by omega))).zRK _(Or.inr(by omega))).zRK _(Or.inr(by omega))
  ·have:=dA.out j(Or.inr(Or.inl(bB.out j hj)));omega
  ·rcases mD h with h | h
   ·exact Or.inl(lA nb h).2.2
   ·exact Or.inr h
 ·exact((cE.out.zRR eB.out(fun j hj e=>by have:=dA.out j(Or.inr(Or.inr hj));omega)).zRJ cA).zRR oA(fun j hj e=>by
   rcases e with e | e
   ·exact rC.out bs nF.out(by rw [<-e];exact hj)
   ·exact rC.out j(lA j e).2.2 hj)
 ·intro j hj hq;rcases hq with hq | hq
  ·have:=dA.out j(Or.inr(Or.inl hq));omega
  ·omega
 ·intro j hj hq;have:=dA.out j(Or.inr(Or.inr hq));omega
 ·intro j hj hq;rcases hj with hj | hj
  ·exact rC.out j hj hq
  ·have:=dA.out j(Or.inr(Or.inr hq));omega
 ·rintro j(h | h | h)
  ·omega
  ·rcases h with h | h
   ·have:=dA.out j(Or.inr(Or.inl h));omega
   ·omega
  ·have:=dA.out j(Or.inr(Or.inr h));omega
theorem zI0(p:Nat->Addr)(C k B0 B1:Nat)(z0 z1 z2 z3:Value)(W:zH)(name:ByteArray)(zRV:Int)(w:World)(hE:zEt w p)(hI:zAt W)(ht:zB3(zN W(W.zRS k).zRT).time)(hx:(Lit.int .i64(W.zRS k).zRT).wf=true)(hk:zFc W name k)(hD:(W.zRS k).dn<=1048576)(sA:C<w.heap.size)(k0:w.cell? ⟨B0,0,none⟩=some(.string name))(l0:B0<C)(k1:w.cell? ⟨B1,0,none⟩=some(.int .i64 zRV))(l1:B1<C)
  (ho:qR w(C+1) w.heap.size z0 z1 z2 z3 W)(hC:yq w C z0 z1(.int .i64 W.time)(.int .i64 W.next) z2 z3(.int .i64 0)(.int .i64 0) .nilIface) :
  Calls Tryz.prog 47 #[.pointer(some ⟨C,0,none⟩),.pointer(some ⟨B0,0,none⟩),.pointer(some ⟨B1,0,none⟩)] w(zLI p(zA8 W k(zAM W.zRQ(W.zRS k).rs(W.zRS k).rb zRV W.time)) C w):=by
 have h8:=hI.zRa.zRS.1;have nA:=hk.1;have HC:=zB hC;have HO:=zB ho;obtain⟨bs,o2,iA,HSET⟩:∃bs o2,Hid(∃nb nv,zAE w bs o2 nb nv(W.zRS k))/\Hid(∀w',Below w.heap.size w w'->Calls Tryz.prog 37 #[.pointer(some ⟨C,0,none⟩),.string name] w' fun e bA=>e = .returned(.pointer(some ⟨bs,o2,none⟩))/\Below w'.heap.size w' bA):=by
  obtain⟨P,Q,R,hinR,hltS⟩:=ho;have vA:=hinR.isIn;obtain⟨aB,kb,kv,hS,hSa,hSq⟩:=vA.zRS;obtain⟨off,c,rfl,hsk⟩:=hS.nth nA;refine⟨aB,off+k*6,zB ⟨_,_,hsk⟩,zB(fun w' gA=>?_)⟩;obtain⟨c4,-⟩:=(hC.zRJ gA).2.2.2.2.1;refine(zJK C(C+1) w.heap.size W.sn k c _ W.zRS name w' c4((hS.at(lo:=C+1)(hi:=w.heap.size)(fun j hj=>hltS j(Or.inr(Or.inl(hSq j hj))))).zRJ gA) h8 nA hk.2.1 hk.2.2).mono ?_;rintro e w2 ⟨⟨b,off',e1,rfl⟩,fA⟩;simp only [Option.some.injEq,Addr.mk.injEq,and_true] at e1;obtain⟨rfl,rfl⟩:=e1;exact⟨rfl,fA⟩
 obtain⟨nb,nv,hsk⟩:=iA.out;clear iA;have iA:=zB hsk;have dA:zy w(C+1) w.heap.size z0 z1 W.zRQ:=ho.own.at.zRQ;obtain⟨a0,c0,a1,c1,rfl,rfl⟩:=dA.form;obtain⟨y,hy⟩:∃y,y=zAM W.zRQ(W.zRS k).rs(W.zRS k).rb zRV W.time:=⟨_,rfl⟩;have tA:=zB(show ∀w',Below w.heap.size w w'->Calls Tryz.prog 48 #[.agg #[.slice a0 W.zRQ.n c0,.slice a1 W.zRQ.hn c1],.agg #[.int .i64(W.zRS k).rs,.int .i64(W.zRS k).rb],.int .i64 zRV,.int .i64 W.time] w'(zHK y w')from fun w' hb=>by
  rw [hy];exact zGE _ _(C+1) w.heap.size W.zRQ(W.zRS k).rs(W.zRS k).rb zRV W.time w'(dA.zRJ hb))
 have HG:=zB(show zGt y by rw [hy];exact zGk _ _ _ _ _);rw [<-hy];have pA:=zB(show ∀(w' bA:World)(v0 v1 vo:Value)(lo hi:Nat),Below w.heap.size w w'->Below w'.heap.size w' bA->zt bA lo hi v0 v1 y.zRQ->w'.heap.size<=lo->hi<=bA.heap.size->zw bA w'.heap.size vo y.old->Calls Tryz.prog 35 #[.pointer(some ⟨C,0,none⟩),.string name,.agg #[v0,v1,.int .i64 y.rs,.int .i64 y.rb,vo,.int .i64 y.code]] bA(zLI p(zA8 W k y) C bA)from fun w' bA v0 v1 vo lo hi hb gA hp h1 h2 hr=>by
  have fA:=zA hb gA;have hz:=hb.size;have dB:=gA.size;have cB:=fA.size;refine zQD p C k w.heap.size lo hi _ _ _ _ v0 v1 vo W y name bA(hE.zRJ fA) hI HG.out ht hx hk hD sA cB(ho.zRJ fA)(hC.zRJ fA) hp(by omega) h2 ?_;obtain⟨bb,h3,hbb⟩:=zw.own hr(by have:=HG.out.2.1;unfold maxLen;omega);exact h3.at(fun h0=>⟨by have:=(hbb h0).2.1;omega,(hbb h0).2.2⟩))
 have jA:Below w.heap.size w w.drew:=(Below.refl _ _).drew;have aA:=zB(show ∀w',Below w.heap.size w w'->(fun w':World=>w'.cell? ⟨B0,0,none⟩=some(.string name)/\w'.cell? ⟨B1,0,none⟩=some(.int .i64 zRV)) w' from fun w' hb=>⟨(hb.cell(zD k0)).trans k0,(hb.cell(zD k1)).trans k1⟩);have eA:=zB(show ∀w',Below C w w'->(fun w':World=>w'.cell? ⟨B0,0,none⟩=some(.string name)/\w'.cell? ⟨B1,0,none⟩=some(.int .i64 zRV)) w' from fun w' hb=>⟨(hb.cell(p:=⟨B0,0,none⟩) l0).trans k0,(hb.cell(p:=⟨B1,0,none⟩) l1).trans k1⟩);clear hE hI ht hx hk hD ho hC dA hsk hy;go_enter Tryz.func47,Tryz.ntmps47;go_upto_region 0 with fail;clear k0 k1;refine wp_region_held_drew(S:=(fun w':World=>w'.cell? ⟨B0,0,none⟩=some(.string name)/\w'.cell? ⟨B1,0,none⟩=some(.int .i64 zRV)))(by kernel_rfl)(aA.out _ jA)(fun hHeld=>?_);have oA:=jA;generalize w.drew=q0 at hHeld jA oA ⊢;refine tk 0(h:=tk 1(h:=tk 2(h:=tk 3(h:=tk 4(h:=tk 5(h:=tk 7(h:=tk 8(h:=tk 13(h:=tk 14(h:=tk 15(h:=tk 16(h:=tk 17(h:=?_)))))))))))));refine zJO [6,9,10,11,12,18](fun i=>if i=10 then [9] else if i=11 then [10] else if i=12 then [11] else [])(fun i=>i+4)(fun i v w'=>(i=6->v = .agg #[.slice a0 W.zRQ.n c0,.slice a1 W.zRQ.hn c1])/\(i=9->v = .pointer(some ⟨bs,o2,none⟩))/\(i=10->v = .pointer(some ⟨bs,o2,none⟩))/\(i=11->v = .pointer(some ⟨bs,o2+3,none⟩))/\(i=12->v = .agg #[.int .i64(W.zRS k).rs,.int .i64(W.zRS k).rb])/\(i=18->v = .int .i64 W.time)) 2(G:=fun w'=>Below w.heap.size w w')(by kernel_rfl)(by decide)(by decide)(by decide) ?_(fun _ _ h t=>zA h t)(by assumption) oA ?_ ?_
 ·intro i v w' bA hf t;exact hf
 ·intro i hi x w2 hS hG hD K hK;simp only [List.mem_cons,List.not_mem_nil,or_false] at hi;rcases hi with rfl | rfl | rfl | rfl | rfl | rfl
  ·refine wpOp_step(zAX rfl)(fun K' cA=>?_);simp only [qb,Act.put,Nat.reduceAdd,s1,s2,s3];obtain⟨⟨c0,-⟩,⟨c1,-⟩,⟨c2,-⟩,-⟩:=HC.out.zRJ hG;go_simp;refine cA _ _(hK.out _ _ w2 ?_(aA.out _(zA hG(Below.refl _ _))) ⟨fun _=>rfl,fun e=>absurd e(by decide),fun e=>absurd e(by decide),fun e=>absurd e(by decide),fun e=>absurd e(by decide),fun e=>absurd e(by decide)⟩(Below.refl _ _));simp only [qb,Act.put,Nat.reduceAdd,s1,s2,s3]
  ·refine wpOp_step(zAX rfl)(fun K' cA=>?_);simp only [qb,Act.put,Nat.reduceAdd,s1,s2,s3];go_simp;go_at_call 37;refine(HSET.out _ hG).mono ?_;rintro e w3 ⟨rfl,hb3⟩;refine cA _ _(hK.out _ _ w3 ?_(aA.out _(zA hG hb3)) ⟨fun e=>absurd e(by decide),fun _=>rfl,fun e=>absurd e(by decide),fun e=>absurd e(by decide),fun e=>absurd e(by decide),fun e=>absurd e(by decide)⟩ hb3);simp only [qb,Act.put,Nat.reduceAdd,s1,s2,s3]
  ·refine wpOp_step(zAX rfl)(fun K' cA=>?_);simp only [qb,Act.put,Nat.reduceAdd,s1,s2,s3];have e9:=(hD 9(by decide)).2.1 rfl;simp only [e9];go_simp;refine cA _ _(hK.out _ _ w2 ?_(aA.out _(zA hG(Below.refl _ _))) ⟨fun e=>absurd e(by decide),fun e=>absurd e(by decide),fun _=>rfl,fun e=>absurd e(by decide),fun e=>absurd e(by decide),fun e=>absurd e(by decide)⟩(Below.refl _ _));simp only [qb,Act.put,Nat.reduceAdd,s1,s2,s3,e9]
  ·refine wpOp_step(zAX rfl)(fun K' cA=>?_);simp only [qb,Act.put,Nat.reduceAdd,s1,s2,s3];have e9:=(hD 10(by decide)).2.2.1 rfl;simp only [e9];go_simp;refine cA _ _(hK.out _ _ w2 ?_(aA.out _(zA hG(Below.refl _ _))) ⟨fun e=>absurd e(by decide),fun e=>absurd e(by decide),fun e=>absurd e(by decide),fun _=>rfl,fun e=>absurd e(by decide),fun e=>absurd e(by decide)⟩(Below.refl _ _));simp only [qb,Act.put,Nat.reduceAdd,s1,s2,s3,e9]
  ·refine wpOp_step(zAX rfl)(fun K' cA=>?_);simp only [qb,Act.put,Nat.reduceAdd,s1,s2,s3];have e9:=(hD 11(by decide)).2.2.2.1 rfl;simp only [e9];obtain⟨q3,-⟩:=(iA.out.zRJ hG).c3;obtain⟨q4,-⟩:=(iA.out.zRJ hG).c4;go_simp;refine cA _ _(hK.out _ _ w2 ?_(aA.out _(zA hG(Below.refl _ _))) ⟨fun e=>absurd e(by decide),fun e=>absurd e(by decide),fun e=>absurd e(by decide),fun e=>absurd e(by decide),fun _=>rfl,fun e=>absurd e(by decide)⟩(Below.refl _ _));simp only [qb,Act.put,Nat.reduceAdd,s1,s2,s3,e9]
  ·refine wpOp_step(zAX rfl)(fun K' cA=>?_);simp only [qb,Act.put,Nat.reduceAdd,s1,s2,s3];obtain⟨⟨c0,-⟩,⟨c1,-⟩,⟨c2,-⟩,-⟩:=HC.out.zRJ hG;go_simp;refine cA _ _(hK.out _ _ w2 ?_(aA.out _(zA hG(Below.refl _ _))) ⟨fun e=>absurd e(by decide),fun e=>absurd e(by decide),fun e=>absurd e(by decide),fun e=>absurd e(by decide),fun e=>absurd e(by decide),fun _=>rfl⟩(Below.refl _ _));simp only [qb,Act.put,Nat.reduceAdd,s1,s2,s3]
 ·intro x w2 hS hG hF;have f6:=(hF 6(by decide)).1 rfl;have f12:=(hF 12(by decide)).2.2.2.2.1 rfl;have ft:=(hF 18(by decide)).2.2.2.2.2 rfl;simp only [qb,zAu,if_true,Act.put,Nat.reduceAdd,s1,s2,s3,f6,f12,ft];clear hF f6 f12 ft hHeld;refine rd [19](rc(fun K hK=>?_) .nil);go_simp;go_at_call 48;refine(tA.out w2 hG).mono ?_;rintro e w3 ⟨v0,v1,vo,lo,hi,rfl,hlo,hhi,hp3,hr3,-,hb3⟩;obtain⟨b0,d0,b1,d1,rfl,rfl⟩:=hp3.at.form;obtain⟨b2,d2,rfl,-⟩:=zW hr3;have bB:=zB hp3;have rA:=zB hr3;have kA:=zA hG hb3;clear hp3 hr3
  (try go_wp2_with fail)
  refine hK.out _ _(aA.out _ kA) ?_;clear hK K;intro hHeld
  try simp only [Act.put,s1,s2,s3]
  refine rd [20](rc(fun K hK=>?_) .nil);go_simp;go_at_call 35;refine(pA.out w2 w3 _ _ _ lo hi hG hb3 bB.out hlo hhi rA.out).mono ?_;rintro e w4 ⟨⟨ve,rfl⟩,hbC,hrest⟩;have mA:=zB hrest;have lA:Below C w w4:=(kA.mono(by omega)).trans hbC;clear hrest
  (try go_wp2_with fail)
  refine hK.out _ _(eA.out _ lA) ?_;clear hK K;intro hHeld
  try simp only [Act.put,s1,s2,s3]
  refine wpAnyH_done(by kernel_rfl) ?_ _;clear hHeld;go_wp2_with fail;go_end0;refine⟨⟨_,rfl⟩,lA,mA.out.1,?_⟩;rcases mA.out.2 with h | h
  ·exact Or.inl h
  ·exact Or.inr h
theorem zNz{W:zH}{x:ByteArray}(h:zAP W x):∃k,zFc W x k:=by
 obtain⟨k,hk,hn⟩:=h
 induction k using Nat.strongRecOn with
 |_ k ih=>
  by_cases e:∃j,j<k/\(W.zRS j).name=x
  ·obtain⟨j,hj,hx⟩:=e;exact ih j hj(by omega) hx
  ·exact⟨k,hk,hn,fun j hj hx=>e ⟨j,hj,hx⟩⟩
theorem zIH.all{W:zH}{a b:Prop}{m:Nat}{Q:Nat->Prop}{ei:Nat->Nat}(h:zIH W a b m Q ei none):∀j,j<m->Q j:=by
 rcases h with⟨_,e⟩ | ⟨_,_,e⟩ | ⟨_,_,_,k,hk,_,_,e⟩ | ⟨_,_,_,h4,_⟩
 ·cases e
 ·cases e
 ·cases e
 ·exact h4
theorem zIH.uniq{W:zH}{a b:Prop}{m:Nat}{Q:Nat->Prop}{ei:Nat->Nat}{r r':Option Nat}(h:zIH W a b m Q ei r)(h':zIH W a b m Q ei r'):r=r':=by
 rcases h with⟨h1,e⟩ | ⟨h1,h2,e⟩ | ⟨h1,h2,h3,i,hi,hn,hl,e⟩ | ⟨h1,h2,h3,h4,e⟩
 ·rcases h' with⟨g1,e'⟩ | ⟨g1,g2,e'⟩ | ⟨g1,g2,g3,j,hj,gn,gl,e'⟩ | ⟨g1,g2,g3,g4,e'⟩
  ·rw [e,e']
  ·exact absurd h1 g1
  ·exact absurd h1 g1
  ·exact absurd h1 g1
 ·rcases h' with⟨g1,e'⟩ | ⟨g1,g2,e'⟩ | ⟨g1,g2,g3,j,hj,gn,gl,e'⟩ | ⟨g1,g2,g3,g4,e'⟩
  ·exact absurd g1 h1
  ·rw [e,e']
  ·rcases h2 with h | h
   ·exact absurd g2 h
   ·exact absurd h g3
  ·rcases h2 with h | h
   ·exact absurd g2 h
   ·exact absurd h g3
 ·rcases h' with⟨g1,e'⟩ | ⟨g1,g2,e'⟩ | ⟨g1,g2,g3,j,hj,gn,gl,e'⟩ | ⟨g1,g2,g3,g4,e'⟩
  ·exact absurd g1 h1
  ·rcases g2 with h | h
   ·exact absurd h2 h
   ·exact absurd h h3
  ·rcases Nat.lt_trichotomy i j with h | h | h
   ·exact absurd(gl i h) hn
   ·rw [e,e',h]
   ·exact absurd(hl j h) gn
  ·exact absurd(g4 i hi) hn
 ·rcases h' with⟨g1,e'⟩ | ⟨g1,g2,e'⟩ | ⟨g1,g2,g3,j,hj,gn,gl,e'⟩ | ⟨g1,g2,g3,g4,e'⟩
  ·exact absurd g1 h1
  ·rcases g2 with h | h
   ·exact absurd h2 h
   ·exact absurd h h3
  ·exact absurd(h4 j hj) gn
  ·rw [e,e']
theorem zQb{a:ByteArray}:(∃i,i<1/\8000<((fun(_:Nat)=>a) i).size)↔8000<a.size:=⟨fun ⟨_,_,h⟩=>h,fun h=>⟨0,by omega,h⟩⟩
def zAd(W:zH)(name:ByteArray)(zRV:Int)(w:World)(e:Ending)(w':World):Prop:=∃r o,zIH W(∃i,i<1/\8000<((fun(_:Nat)=>name) i).size)(∃i,i<0/\¬yM((fun _=>⟨#[]⟩) i)) 1(fun i=>match i with  | _=>zAP W name)(fun i=>match i with  | _=>2) r/\(r=none->∃k,zFc W name k/\o=zA8 W k(zAM W.zRQ(W.zRS k).rs(W.zRS k).rb zRV W.time))/\zBp(zMf r o) w e w'
theorem zAd.ill{W:zH}{name:ByteArray}{zRV:Int}{w w':World}{e:Ending}{i:Nat}(hr:zIH W(∃i,i<1/\8000<((fun(_:Nat)=>name) i).size)(∃i,i<0/\¬yM((fun _=>⟨#[]⟩) i)) 1(fun i=>match i with  | _=>zAP W name)(fun i=>match i with  | _=>2)(some i))(h:zBp(zBr(zBO i)) w e w'):zAd W name zRV w e w':=⟨some i,zBr 0,hr,fun e=>(by cases e),h⟩
theorem zHB(p:Nat->Addr)(v0 v1 v2 v3:Value)(lo hi:Nat)(W:zH)(name:ByteArray)(zRV:Int)(w:World)(hE:zEt w p)(h:zl w lo hi v0 v1 v2 v3 W)(cA:zCJ W)(b1:qE W.zRQ<=1048576)(b2:W.sn<=1048576)(b3:W.pn<=1048576)(b4:zDf W)(aA:name.size<=maxLen)(bA:(Lit.int .i64 zRV).wf=true) :
  Calls Tryz.prog 17 #[zz v0 v1 v2 v3 W,.string name,.int .i64 zRV] w(zAd W name zRV w):=by
 by_cases hs:zAP W name
 ·obtain⟨k,hk⟩:=zNz hs;refine(zEA p v0 v1 v2 v3 lo hi W name zRV(zA8 W k(zAM W.zRQ(W.zRS k).rs(W.zRS k).rb zRV W.time)) w hE h cA b1 b2 b3 b4 aA bA ?_).mono ?_
  ·intro B0 B1 C w' z0 z1 z2 z3 k0 l0 k1 l1 hI _ _ hq dA hb ho hC;have hS:=(zGR W).1 hI;have hx:=cA(W.pn+k)(by have:=hk.1;unfold zq;omega);rw [yH] at hx;exact zI0 p C k B0 B1 z0 z1 z2 z3 W name zRV w'(hE.zRJ hb) hI(zM6 hS.zRa _) hx hk(b4.1 k hk.1) dA k0 l0 k1 l1 ho hC
  ·rintro e w' ⟨r,h1,h2⟩;exact⟨r,_,h1,fun _=>⟨k,hk,rfl⟩,h2⟩
 ·refine(zEA p v0 v1 v2 v3 lo hi W name zRV(zBr 0) w hE h cA b1 b2 b3 b4 aA bA ?_).mono ?_
  ·intro B0 B1 C w' z0 z1 z2 z3 k0 l0 k1 l1 hI _ _ hq dA hb ho hC;exact absurd(hq 0(by omega)) hs
  ·rintro e w' ⟨r,h1,h2⟩;exact⟨r,_,h1,fun e=>absurd((e▸h1).all 0(by omega)) hs,h2⟩
open Go.Maps
def zEo(s:qC):Nat:=s.name.size+s.dn
def zBM(f:Nat->qC):Nat->Nat
 |0=>0
 |k+1=>zBM f k+zEo(f k)
def zDs(s:zm):Nat:=s.name.size+s.set.size+s.dn
def zAx(f:Nat->zm):Nat->Nat
 |0=>0
 |k+1=>zAx f k+zDs(f k)
def yd(W:zH):Nat:=qE W.zRQ+(W.sn+zBM W.zRS W.sn)+(W.pn+zAx W.zRP W.pn)
theorem zOW(v:Value)(lo hi:Nat)(s:qC)(left:Int)(w:World)(h1:zR w lo hi v s.dn s.ds s.db)(m1:s.name.size<=maxLen)(cA:0<=left)(dA:left<=1048576) :
  Calls Tryz.prog 66 #[zDH v s,.int .i64 left] w fun e w'=>zC6(zEo s) left e/\Below w.heap.size w w':=by
 unfold zDH;have H1:=zB h1;obtain⟨-,a,c,rfl,-⟩:=id h1;clear h1;unfold maxLen at m1;have aA:=zC w(.cells #[.string s.name,.int .i64 s.origin,.int .i64 s.zRT,.int .i64 s.rs,.int .i64 s.rb,.slice a s.dn c] 116);go_enter Tryz.func66,Tryz.ntmps66;by_cases h:left - (s.name.size:Int)<0
 ·go_wp2;go_ret;exact⟨⟨-1,rfl,by omega,by omega,by omega⟩,aA⟩
 ·go_wp2_with fail;refine(zFI _ s.dn lo hi _ _ _ _(H1.out.zRJ aA)(by omega)(by omega)).mono ?_;rintro e w1 ⟨⟨r,rfl,hr1,hr2,hr3⟩,hb1⟩;have bA:=zA aA hb1;have Hr:=zB hr1;clear hr1 hb1 aA;by_cases h2:r<0
  ·go_wp2;go_ret;exact⟨⟨-1,rfl,by omega,by omega,by omega⟩,bA⟩
  ·go_wp2;go_ret;refine⟨⟨_,rfl,fun _=>?_,by omega,by omega⟩,bA⟩;have:=Hr.out(by omega);unfold zEo;omega
theorem zMw(v:Value)(lo hi:Nat)(s:zm)(left:Int)(w:World)(h1:zR w lo hi v s.dn s.ds s.db)(m1:s.name.size<=maxLen)(m2:s.set.size<=maxLen)(cA:0<=left)(dA:left<=1048576) :
  Calls Tryz.prog 67 #[yg v s,.int .i64 left] w fun e w'=>zC6(zDs s) left e/\Below w.heap.size w w':=by
 unfold yg;have H1:=zB h1;obtain⟨-,a,c,rfl,-⟩:=id h1;clear h1;unfold maxLen at m1 m2;have aA:=zC w(.cells #[.int .i64 s.id,.string s.name,.string s.set,.int .i64 s.zRT,.int .i64 s.time,.int .i64 s.rs,.int .i64 s.rb,.slice a s.dn c] 119);go_enter Tryz.func67,Tryz.ntmps67;by_cases h:left - (s.name.size:Int)<0
 ·go_wp2;go_ret;exact⟨⟨-1,rfl,by omega,by omega,by omega⟩,aA⟩
 ·by_cases h':left - (s.name.size:Int) - (s.set.size:Int)<0
  ·go_wp2;go_ret;exact⟨⟨-1,rfl,by omega,by omega,by omega⟩,aA⟩
  ·go_wp2_with fail;refine(zFI _ s.dn lo hi _ _ _ _(H1.out.zRJ aA)(by omega)(by omega)).mono ?_;rintro e w1 ⟨⟨r,rfl,hr1,hr2,hr3⟩,hb1⟩;have bA:=zA aA hb1;have Hr:=zB hr1;clear hr1 hb1 aA;by_cases h2:r<0
   ·go_wp2;go_ret;exact⟨⟨-1,rfl,by omega,by omega,by omega⟩,bA⟩
   ·go_wp2;go_ret;refine⟨⟨_,rfl,fun _=>?_,by omega,by omega⟩,bA⟩;have:=Hr.out(by omega);unfold zDs;omega
end Go.Proofs.YtmgeglgboadfiaaGreatDoor
