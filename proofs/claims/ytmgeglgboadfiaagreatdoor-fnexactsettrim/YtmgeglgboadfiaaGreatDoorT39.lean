/- A set gets another tree: spec.l05Turn. -/
import Derived.Test.YtmgeglgboadfiaaGreatDoorT38
set_option linter.unusedVariables false
set_option maxRecDepth 20000
set_option maxHeartbeats 4000000
namespace Go.Proofs.YtmgeglgboadfiaaGreatDoor
open Go.RowKit
def zHM(base:Nat)(o:zBz)(w:World)(e:Ending)(w':World):Prop:=∃v0 v1 v2 v3,e = .returned(zIU v0 v1 v2 v3 o)/\qO w' base w'.heap.size v0 v1 v2 v3 o.world/\Below base w w'
theorem zL7(v0 v1 v2 v3 lE bF vo:Value)(lo hi k base iA vA:Nat)(W:zH)(y:zCB)(w:World)(h:zl w lo hi v0 v1 v2 v3 W)(hS:zNc W)(b1:qE W.zRQ<=1048576)(b2:W.sn<=1048576)(b3:W.pn<=1048576)(b4:zDf W)(hk:k<W.sn)(hy:zGt y)(pE:base<=iA)(tD:base<=w.heap.size)(mD:zt w iA vA lE bF y.zRQ)(mH:vA<=w.heap.size)(iD:zR w iA w.heap.size vo y.old.length(zf y.old)(zh y.old))(fH:hi<=base) :
  Calls Tryz.prog 28 #[zz v0 v1 v2 v3 W,.int .i64 k,.agg #[lE,bF,.int .i64 y.rs,.int .i64 y.rb,vo,.int .i64 y.code]] w(zHM base(zA8 W k y) w):=by
 have Hp:=zB h;obtain⟨a0,c0,a1,c1,a2,c2,a3,c3,rfl,rfl,rfl,rfl⟩:=h.form;obtain⟨ab,ao,avd,rfl,hsk⟩:=h.zRS.cells hk;obtain⟨dA,oc0,oa1,oc1,rfl,rfl⟩:=mD.at.form;obtain⟨-,oo,oc,rfl,-,-⟩:=id iD;have nF:=zB hS;have HY:=zB hy;have iG:=zB mD;have aG:=zB iD;have jG:=zB hsk;have rH:=hy.2.1;have gH:=b4.1 k hk;have h8:=hS.zRa.2.2.1;have iH:=hS.zRa.2.2.2.1;clear h hS hy mD iD hsk;have sD:=zC w(.cells #[.slice a0 W.zRQ.n c0,.slice a1 W.zRQ.hn c1,.int .i64 W.time,.int .i64 W.next,.slice(some ⟨ab,ao,none⟩) W.sn c2,.slice a3 W.pn c3] 37);have fD:=zC(w.alloc(.cells #[.slice a0 W.zRQ.n c0,.slice a1 W.zRQ.hn c1,.int .i64 W.time,.int .i64 W.next,.slice(some ⟨ab,ao,none⟩) W.sn c2,.slice a3 W.pn c3] 37))(.cells #[.slice dA y.zRQ.n oc0,.slice oa1 y.zRQ.hn oc1,.int .i64 y.rs,.int .i64 y.rb,.slice oo y.old.length oc,.int .i64 y.code] 64);have iC:=zC((w.alloc(.cells #[.slice a0 W.zRQ.n c0,.slice a1 W.zRQ.hn c1,.int .i64 W.time,.int .i64 W.next,.slice(some ⟨ab,ao,none⟩) W.sn c2,.slice a3 W.pn c3] 37)).alloc(.cells #[.slice dA y.zRQ.n oc0,.slice oa1 y.zRQ.hn oc1,.int .i64 y.rs,.int .i64 y.rb,.slice oo y.old.length oc,.int .i64 y.code] 64))(.cells #[.slice none 0 0,.slice none 0 0,.int .i64 0,.int .i64 0,.slice none 0 0,.slice none 0 0,.int .i64 0,.int .i64 0,.int .i64 0] 39);have hb:=zA(zA sD fD) iC;have HX:=zB(((zi.zRL w(.slice a0 W.zRQ.n c0)(.slice a1 W.zRQ.hn c1)(.int .i64 W.time)(.int .i64 W.next)(.slice(some ⟨ab,ao,none⟩) W.sn c2)(.slice a3 W.pn c3) 37).zRJ fD).zRJ iC);have cD:=(zi.zRL(w.alloc(.cells #[.slice a0 W.zRQ.n c0,.slice a1 W.zRQ.hn c1,.int .i64 W.time,.int .i64 W.next,.slice(some ⟨ab,ao,none⟩) W.sn c2,.slice a3 W.pn c3] 37))(.slice dA y.zRQ.n oc0)(.slice oa1 y.zRQ.hn oc1)(.int .i64 y.rs)(.int .i64 y.rb)(.slice oo y.old.length oc)(.int .i64 y.code) 64).zRJ iC;rw [World.size_alloc] at cD;have pC:=zB cD;have hr:=yq.zRL((w.alloc(.cells #[.slice a0 W.zRQ.n c0,.slice a1 W.zRQ.hn c1,.int .i64 W.time,.int .i64 W.next,.slice(some ⟨ab,ao,none⟩) W.sn c2,.slice a3 W.pn c3] 37)).alloc(.cells #[.slice dA y.zRQ.n oc0,.slice oa1 y.zRQ.hn oc1,.int .i64 y.rs,.int .i64 y.rb,.slice oo y.old.length oc,.int .i64 y.code] 64))(.slice none 0 0)(.slice none 0 0)(.int .i64 0)(.int .i64 0)(.slice none 0 0)(.slice none 0 0)(.int .i64 0)(.int .i64 0)(.int .i64 0) 39;rw [World.size_alloc,World.size_alloc] at hr;have HR:=zB hr;have hz:(((w.alloc(.cells #[.slice a0 W.zRQ.n c0,.slice a1 W.zRQ.hn c1,.int .i64 W.time,.int .i64 W.next,.slice(some ⟨ab,ao,none⟩) W.sn c2,.slice a3 W.pn c3] 37)).alloc(.cells #[.slice dA y.zRQ.n oc0,.slice oa1 y.zRQ.hn oc1,.int .i64 y.rs,.int .i64 y.rb,.slice oo y.old.length oc,.int .i64 y.code] 64)).alloc(.cells #[.slice none 0 0,.slice none 0 0,.int .i64 0,.int .i64 0,.slice none 0 0,.slice none 0 0,.int .i64 0,.int .i64 0,.int .i64 0] 39)).heap.size>=w.heap.size+3:=by rw [World.size_alloc,World.size_alloc,World.size_alloc];omega
 have lH:(k:Int)<(W.sn:Int):=by omega
 have k0:¬(k:Int)<0:=by omega
 clear cD hr;go_enter Tryz.func28,Tryz.ntmps28;go_upto_region 1 with fail;generalize(((w.alloc(.cells #[.slice a0 W.zRQ.n c0,.slice a1 W.zRQ.hn c1,.int .i64 W.time,.int .i64 W.next,.slice(some ⟨ab,ao,none⟩) W.sn c2,.slice a3 W.pn c3] 37)).alloc(.cells #[.slice dA y.zRQ.n oc0,.slice oa1 y.zRQ.hn oc1,.int .i64 y.rs,.int .i64 y.rb,.slice oo y.old.length oc,.int .i64 y.code] 64)).alloc(.cells #[.slice none 0 0,.slice none 0 0,.int .i64 0,.int .i64 0,.slice none 0 0,.slice none 0 0,.int .i64 0,.int .i64 0,.int .i64 0] 39))=W1 at hb HX pC HR hz ⊢;clear sD fD iC;obtain⟨⟨x0,-⟩,⟨x1,-⟩,⟨x2,-⟩,⟨x3,-⟩,⟨x4,-⟩,⟨x5,-⟩⟩:=pC.out;by_cases cC:y.code=0;rotate_left
 ·have ec:(y.code != 0)=true:=bne_iff_ne.2 cC;go_wp2_with fail;clear x0 x1 x2 x3 x4 x5;refine(zDU y.code _).mono ?_;rintro e wz ⟨rfl,hbz⟩;have aC:=zA hb hbz;have iB:=zB(HR.out.zRJ hbz);obtain⟨⟨r0,g0⟩,⟨r1,g1⟩,⟨r2,g2⟩,⟨r3,g3⟩,⟨r4,g4⟩,⟨r5,g5⟩,⟨r6,g6⟩,⟨r7,g7⟩,⟨r8,g8⟩⟩:=iB.out;go_wp2_with fail;have bA:=iB.out.put(.slice none 0 0)(.slice none 0 0)(.int .i64 0)(.int .i64 0)(.slice none 0 0)(.slice none 0 0)(.int .i64 0)(.int .i64 0)(.int .i64 y.code);have hT:=zF.put9 wz(w.heap.size+1+1)(.slice none 0 0)(.slice none 0 0)(.int .i64 0)(.int .i64 0)(.slice none 0 0)(.slice none 0 0)(.int .i64 0)(.int .i64 0)(.int .i64 y.code);clear r0 g0 r1 g1 r2 g2 r3 g3 r4 g4 r5 g5 r6 g6 r7 g7 r8 g8;refine bodyPost_ret(v:=.agg #[.slice none 0 0,.slice none 0 0,.int .i64 0,.int .i64 0,.slice none 0 0,.slice none 0 0,.int .i64 0,.int .i64 0,.int .i64 y.code])(by simp [results,Tryz.results28,go_sem,bA.1.1,bA.2.1.1,bA.2.2.1.1,bA.2.2.2.1.1,bA.2.2.2.2.1.1,bA.2.2.2.2.2.1.1,bA.2.2.2.2.2.2.1.1,bA.2.2.2.2.2.2.2.1.1,bA.2.2.2.2.2.2.2.2.1]) rfl ?_;have eO:zA8 W k y=zBr y.code:=if_neg cC;rw [eO];exact⟨_,_,_,_,rfl,zEh,(aC.trans(hT.zRJ(B:=w.heap.size) aC.size(fun k e=>by omega))).mono tD⟩
 have aE:=zB cC;have ec:(y.code != 0)=false:=by rw [cC];rfl
 clear cC;obtain⟨⟨w0,-⟩,⟨w1,-⟩,⟨w2,-⟩,⟨w3,-⟩,⟨w4,-⟩,⟨w5,-⟩⟩:=HX.out;go_wp2_with fail;clear x0 x1 x2 x3 x4 x5 w0 w1 w2 w3 w4 w5 ec;have bH:=hb;refine(zKV _ _ _ _ lo hi W _(Hp.out.zRJ hb) b1 b2 b3 b4).mono ?_;rintro e w5 ⟨z0,z1,z2,z3,rfl,ho,hb5⟩;obtain⟨P,Q,R,hinR,hltS⟩:=ho;have cF:=hinR.isIn;obtain⟨sb,kb,kv,hSo,hSa,hSq,-,hRB⟩:=hinR.zRS;obtain⟨so,lc2,rfl,hs5⟩:=hSo.nth hk;obtain⟨l0,lc0,l1,lc1,l2,lc2',l3,lc3,rfl,rfl,e2,rfl⟩:=qO.form(lo:=W1.heap.size)(hi:=w5.heap.size) ⟨P,Q,R,cF,hltS⟩;clear e2;have jC:=zA bH hb5;have nH:=hb5.size;have mA:=zC w5(.cells #[.slice l0 W.zRQ.n lc0,.slice l1 W.zRQ.hn lc1,.int .i64 W.time,.int .i64 W.next,.slice(some ⟨sb,so,none⟩) W.sn lc2,.slice l3 W.pn lc3] 37);have bG:(w5.alloc(.cells #[.slice l0 W.zRQ.n lc0,.slice l1 W.zRQ.hn lc1,.int .i64 W.time,.int .i64 W.next,.slice(some ⟨sb,so,none⟩) W.sn lc2,.slice l3 W.pn lc3] 37)).heap.size=w5.heap.size+1:=World.size_alloc _ _;have tA:=zB(zi.zRL w5(.slice l0 W.zRQ.n lc0)(.slice l1 W.zRQ.hn lc1)(.int .i64 W.time)(.int .i64 W.next)(.slice(some ⟨sb,so,none⟩) W.sn lc2)(.slice l3 W.pn lc3) 37);have gA:=zB hltS;have gG:=zB hSo;have gD:=zB hSa;have aB:=zB hSq;have kG:=zB hs5;have cH:=zB(hRB k hk);have HZ:=zB hinR.zRP.isIn;have aD:=zB hinR.qr;have oD:Q sb:=hSq _(Or.inl ⟨by omega,rfl⟩);have pF:=hltS sb(Or.inr(Or.inl oD));have eF:=zB oD;have cB:=zB((HX.out.zRJ hb5).zRJ mA);have oA:=zB((pC.out.zRJ hb5).zRJ mA);have eB:=zB((HR.out.zRJ hb5).zRJ mA);have fB:=zA jC mA;clear hinR cF hltS hSo hSa hSq hs5 oD hRB;go_upto_region 4 with fail;generalize w5.alloc(.cells #[.slice l0 W.zRQ.n lc0,.slice l1 W.zRQ.hn lc1,.int .i64 W.time,.int .i64 W.next,.slice(some ⟨sb,so,none⟩) W.sn lc2,.slice l3 W.pn lc3] 37)=w6a at mA bG tA cB oA eB fB ⊢;obtain⟨⟨x0,-⟩,⟨x1,-⟩,-⟩:=oA.out;obtain⟨⟨v0,v0'⟩,⟨v1,v1'⟩,-⟩:=tA.out;go_upto_region 5 with fail;clear x0 x1 v0 v0' v1 v1';have pA:zF(fun j=>j=w5.heap.size) w6a((w6a.setCell ⟨w5.heap.size,0,none⟩(.slice dA y.zRQ.n oc0)).setCell ⟨w5.heap.size,1,none⟩(.slice oa1 y.zRQ.hn oc1)):=(zF.put _ _ _ _).trans(zF.put _ _ _ _);have kB:Below w.heap.size w((w6a.setCell ⟨w5.heap.size,0,none⟩(.slice dA y.zRQ.n oc0)).setCell ⟨w5.heap.size,1,none⟩(.slice oa1 y.zRQ.hn oc1)):=fB.trans(pA.zRJ(B:=w.heap.size) fB.size(fun j e=>by have:=jC.size;omega));have aF:=zB(show zi((w6a.setCell ⟨w5.heap.size,0,none⟩(.slice dA y.zRQ.n oc0)).setCell ⟨w5.heap.size,1,none⟩(.slice oa1 y.zRQ.hn oc1)) w5.heap.size(.slice dA y.zRQ.n oc0)(.slice oa1 y.zRQ.hn oc1)(.int .i64 W.time)(.int .i64 W.next)(.slice(some ⟨sb,so,none⟩) W.sn lc2)(.slice l3 W.pn lc3)from by
  have h:=tA.out;exact⟨(h.1.set _).zRK _(Or.inr(by decide)),(h.2.1.zRK _(Or.inr(by decide))).set _,(h.2.2.1.zRK _(Or.inr(by decide))).zRK _(Or.inr(by decide)),(h.2.2.2.1.zRK _(Or.inr(by decide))).zRK _(Or.inr(by decide)),(h.2.2.2.2.1.zRK _(Or.inr(by decide))).zRK _(Or.inr(by decide)),(h.2.2.2.2.2.zRK _(Or.inr(by decide))).zRK _(Or.inr(by decide))⟩)
 have gE:=zB(cB.out.zRR pA(by omega));have bE:=zB(oA.out.zRR pA(by omega));have nE:=zB(eB.out.zRR pA(by omega));have lD:=pA.size;have rB:=zB((gG.out.zRJ mA).zRR pA(fun j hj e=>by have:=gA.out j(Or.inr(Or.inl(aB.out j hj)));omega));have oC:=zB((kG.out.zRJ mA).zRR pA(by omega)(fun h0 e=>by have:=gA.out _(Or.inr(Or.inl(aB.out _(Or.inr ⟨k,hk,h0,rfl⟩))));omega));have bC:=zB(((cH.out.zRJ mA).set ⟨w5.heap.size,0,none⟩(.slice dA y.zRQ.n oc0)).set ⟨w5.heap.size,1,none⟩(.slice oa1 y.zRQ.hn oc1));have oE:=zB((HZ.out.zRJ mA).zRR pA(fun j hj e=>by have:=gA.out j(Or.inr(Or.inr hj));omega));clear pA tA cB oA eB;generalize((w6a.setCell ⟨w5.heap.size,0,none⟩(.slice dA y.zRQ.n oc0)).setCell ⟨w5.heap.size,1,none⟩(.slice oa1 y.zRQ.hn oc1))=w6 at kB aF gE bE nE lD rB oC bC oE ⊢;have fA:Below w6.heap.size w6 w6.drew:=(Below.refl _ _).drew;have bB:=zB(show ∀w',Below w6.heap.size w6 w'->(fun w':World=>w'.cell? ⟨w.heap.size,0,none⟩=some(.slice a0 W.zRQ.n c0)/\w'.cell? ⟨w.heap.size,1,none⟩=some(.slice a1 W.zRQ.hn c1)/\w'.cell? ⟨w.heap.size,2,none⟩=some(.int .i64 W.time)/\w'.cell? ⟨w.heap.size,3,none⟩=some(.int .i64 W.next)/\w'.cell? ⟨w.heap.size,4,none⟩=some(.slice(some ⟨ab,ao,none⟩) W.sn c2)/\w'.cell? ⟨w.heap.size,5,none⟩=some(.slice a3 W.pn c3)/\w'.cell? ⟨ab,ao+k*6+2,none⟩=some(.int .i64(W.zRS k).zRT)) w' from fun w' hb=>by
  have hx:=gE.out.zRJ hb;exact⟨hx.1.1,hx.2.1.1,hx.2.2.1.1,hx.2.2.2.1.1,hx.2.2.2.2.1.1,hx.2.2.2.2.2.1,(jG.out.zRJ(zA kB hb)).c2⟩)
 refine wp_region_held_drew(S:=(fun w':World=>w'.cell? ⟨w.heap.size,0,none⟩=some(.slice a0 W.zRQ.n c0)/\w'.cell? ⟨w.heap.size,1,none⟩=some(.slice a1 W.zRQ.hn c1)/\w'.cell? ⟨w.heap.size,2,none⟩=some(.int .i64 W.time)/\w'.cell? ⟨w.heap.size,3,none⟩=some(.int .i64 W.next)/\w'.cell? ⟨w.heap.size,4,none⟩=some(.slice(some ⟨ab,ao,none⟩) W.sn c2)/\w'.cell? ⟨w.heap.size,5,none⟩=some(.slice a3 W.pn c3)/\w'.cell? ⟨ab,ao+k*6+2,none⟩=some(.int .i64(W.zRS k).zRT)))(by kernel_rfl)(bB.out _ fA)(fun hHeld=>?_);generalize w6.drew=q0 at hHeld fA ⊢
 refine' zJd(fun hfin=>_) _
 rotate_left
 ·skip;refine tk 0(h:=tk 1(h:=tk 2(h:=tk 3(h:=tk 4(h:=tk 5(h:=tk 6(h:=?_)))))));refine rd [7,11](rc(fun K hK=>?_)(rc(fun K hK=>?_) .nil))
  ·skip;go_simp;go_at_call 52;refine(zAr _ _ _ _ lo hi W(W.zRS k).zRT _(Hp.out.zRJ(zA kB fA))).mono ?_;rintro e w4 ⟨s,b,t,rfl,hA,hb4⟩
   (try go_wp2_with fail)
   refine hK.out _ _(bB.out _(zA fA hb4)) ?_;clear hK K;intro hHeld
   try simp only [Act.put,s1,s2,s3]
   refine tk 8(h:=tk 9(h:=tk 10(h:=?_)));refine rd [11](rc(fun K hK=>?_) .nil);have rA:=zC w4(.cells #[.int .i64 0,.int .i64 0] 61);go_simp
   (try go_wp2_with fail)
   refine hK.out _ _(bB.out _(zA(zA fA hb4) rA)) ?_;clear hK K;intro hHeld
   try simp only [Act.put,s1,s2,s3]
   refine rd [12](rc(fun K hK=>?_) .nil);have nC:=zC w4(.cells #[.int .i64 s,.int .i64 b] 61);go_simp
   (try go_wp2_with fail)
   refine hK.out _ _(bB.out _(zA(zA fA hb4) nC)) ?_;clear hK K;intro hHeld
   try simp only [Act.put,s1,s2,s3]
   refine tk 13(h:=?_);have jA:Below w6.heap.size w6(w4.alloc(.cells #[.int .i64 s,.int .i64 b] 61)):=zA(zA fA hb4) nC;generalize(w4.alloc(.cells #[.int .i64 s,.int .i64 b] 61))=wq at jA ⊢;generalize(Value.pointer(some ⟨w4.heap.size,0,none⟩))=pv;refine wpAnyH_done(by kernel_rfl) ?_ _;clear hHeld rA nC;revert wq pv;revert hA;revert t b s;exact hfin.out
  ·skip;have rA:=zC q0(.cells #[.int .i64 0,.int .i64 0] 61);have fF:=zB(zc.zRL q0(.int .i64 0)(.int .i64 0) 61);go_simp
   (try go_wp2_with fail)
   refine hK.out _ _(bB.out _(zA fA rA)) ?_;clear hK K;intro hHeld
   try simp only [Act.put,s1,s2,s3]
   generalize q0.alloc(.cells #[.int .i64 0,.int .i64 0] 61)=qa at rA fF hHeld ⊢;refine rd [7](rc(fun K hK=>?_) .nil);go_simp;go_at_call 52;refine(zAr _ _ _ _ lo hi W(W.zRS k).zRT _(Hp.out.zRJ(zA kB(zA fA rA)))).mono ?_;rintro e w4 ⟨s,b,t,rfl,hA,hb4⟩
   (try go_wp2_with fail)
   refine hK.out _ _(bB.out _(zA(zA fA rA) hb4)) ?_;clear hK K;intro hHeld
   try simp only [Act.put,s1,s2,s3]
   refine tk 8(h:=tk 9(h:=tk 10(h:=?_)));refine rd [12](rc(fun K hK=>?_) .nil);obtain⟨⟨m0,m0'⟩,⟨m1,m1'⟩⟩:=fF.out.zRJ hb4;have dF:zF(fun i=>i=q0.heap.size) w4((w4.setCell ⟨q0.heap.size,0,none⟩(.int .i64 s)).setCell ⟨q0.heap.size,1,none⟩(.int .i64 b)):=(zF.put _ _ _ _).trans(zF.put _ _ _ _);have rC:Below w6.heap.size w6((w4.setCell ⟨q0.heap.size,0,none⟩(.int .i64 s)).setCell ⟨q0.heap.size,1,none⟩(.int .i64 b)):=(zA(zA fA rA) hb4).trans(dF.zRJ(B:=w6.heap.size)(by have:=fA.size;have:=rA.size;have:=hb4.size;omega)(fun i e=>by have:=fA.size;omega));go_simp
   (try go_wp2_with fail)
   refine hK.out _ _(bB.out _ rC) ?_;clear hK K;intro hHeld
   try simp only [Act.put,s1,s2,s3]
   clear m0 m0' m1 m1';refine tk 13(h:=?_);have jA:Below w6.heap.size w6((w4.setCell ⟨q0.heap.size,0,none⟩(.int .i64 s)).setCell ⟨q0.heap.size,1,none⟩(.int .i64 b)):=rC;generalize((w4.setCell ⟨q0.heap.size,0,none⟩(.int .i64 s)).setCell ⟨q0.heap.size,1,none⟩(.int .i64 b))=wq at jA ⊢;generalize(Value.pointer(some ⟨q0.heap.size,0,none⟩))=pv;refine wpAnyH_done(by kernel_rfl) ?_ _;clear hHeld dF rC;revert wq pv;revert hA;revert t b s;exact hfin.out
 intro s b t hA wq jA pv;obtain⟨A,hAe⟩:∃A,A=zN W(W.zRS k).zRT:=⟨_,rfl⟩;have Ht:=zPV hA(fun ⟨i,hi⟩=>by
  have h1:=((nF.out.zRa.2.2.2.2.2 i hi.1).1).1;have h2:=hi.2.1;omega)
 rw [<-hAe] at Ht;subst Ht;have HA:=zB hAe;clear hA hAe bB;have rG:=jA.size;have dG:=zA kB jA;have fG:=zB(aF.out.zRJ jA);have fE:=zB(bE.out.zRJ jA);have rF:=zB(nE.out.zRJ jA);obtain⟨⟨x0,-⟩,⟨x1,-⟩,⟨x2,-⟩,⟨x3,-⟩,⟨x4,-⟩,⟨x5,-⟩⟩:=fE.out;go_wp2_with fail;clear x0 x1 x2 x3 x4 x5;refine(zKG _ y.old.length iA w.heap.size(zf y.old)(zh y.old) A.time wq(aG.out.zRJ dG)(by omega)).mono ?_;rintro e w8 ⟨vy,vo,rfl,hr8,ho8,-,hb8⟩;obtain⟨t8,tc8,rfl,-⟩:=zW hr8;obtain⟨s8,sc8,rfl,-⟩:=zW ho8;obtain⟨Y,hYe⟩:∃Y,Y=qd(zf y.old)(zh y.old) A.time y.old.length:=⟨_,rfl⟩;obtain⟨L,hL⟩:∃L,L=zBg(zf y.old)(zh y.old) A.time y.old.length:=⟨_,rfl⟩;have dH:=zCM(zf y.old)(zh y.old) A.time y.old.length;rw [<-hYe] at hr8;rw [<-hL] at ho8;rw [<-hYe,<-hL] at dH ⊢;have tF:=zB hYe;have cG:=zB hL;have eG:=zB hr8;have eE:=zB ho8;have eH:=hb8.size;have nA:=zA jA hb8;have eC:=zA kB nA;clear hr8 ho8 hYe hL;go_wp2_with fail;have tG:y.zRQ.hn<=400:=by
  have hR:=(HY.out.2.2 aE.out).1;have h1:=((zCQ y.zRQ).2 hR).2.1;have h2:=hR.1;omega
 refine(zLn w5.heap.size wq.heap.size w8.heap.size(fun j=>iA<=j/\j<vA) _ _ _ _ _ W.time W.next y.zRQ Y w8(fG.out.zRJ hb8)((iG.out.zRJ eC).isIn(S:=fun j=>iA<=j/\j<vA)(fun j h1 h2=>⟨h1,h2⟩))(fun j hj=>by have:=jC.size;omega)(by
  obtain⟨bb,ho,hbb⟩:=zw.own eG.out(by unfold maxLen;omega);exact ho.at(fun h0=>⟨(hbb h0).2.1,(hbb h0).2.2⟩))(by omega)(Nat.le_refl _)(by omega) tG).mono ?_
 rintro e wh ⟨rfl,y1,hVh,hPh,hTh⟩;obtain⟨b9,yc1,rfl⟩:∃a c,y1 = .slice a(zx y.zRQ Y).hn c:=by
  obtain⟨_,_,_,_,_,_,⟨_,a,c,e,_⟩,_⟩:=hPh;exact⟨a,c,e⟩
 have kH:=hTh.size;have mG:=jC.size;have aA:∀j,w.heap.size<=j->j<w8.heap.size->j≠w5.heap.size->¬(j=w5.heap.size\/(iA<=j/\j<vA)\/w8.heap.size<=j):=fun j h1 h2 h3 h=>by omega
 have iE:=zB hVh;have lG:=zB hPh;have tE:=zB hTh;have oG:=zB((fE.out.zRJ hb8).zRR hTh(aA _(by omega)(by omega)(by omega)));have jF:=zB((rF.out.zRJ hb8).zRR hTh(aA _(by omega)(by omega)(by omega)));have gC:∀j,Q j->¬(j=w5.heap.size\/(iA<=j/\j<vA)\/w8.heap.size<=j):=fun j hj=>by have:=gA.out j(Or.inr(Or.inl hj));exact aA j(by omega)(by omega)(by omega)
 have sF:∀j,R j->¬(j=w5.heap.size\/(iA<=j/\j<vA)\/w8.heap.size<=j):=fun j hj=>by have:=gA.out j(Or.inr(Or.inr hj));exact aA j(by omega)(by omega)(by omega)
 have lC:=zB((rB.out.zRJ nA).zRR hTh(fun j hj=>gC j(aB.out j hj)));have kC:=((oC.out.zRJ nA).zRR hTh(gC _ eF.out)(fun h0=>gC _(aB.out _(Or.inr ⟨k,hk,h0,rfl⟩))));have vG:=zB((oE.out.zRJ nA).zRR hTh sF);have pG:=zB(show zR wh 0 wh.heap.size(.slice s8 L.length sc8) L.length(zf L)(zh L)from by
  obtain⟨bb,ho,hbb⟩:=zw.own eE.out(by unfold maxLen;omega);exact(ho.zRR hTh(fun h0=>aA _(by have:=(hbb h0).2.1;omega)(hbb h0).2.2(by have:=(hbb h0).2.1;omega))).at(fun h0=>⟨Nat.zero_le _,by have:=(hbb h0).2.2;omega⟩))
 have mC:=zB(bC.out.turnedL(zA jA hb8) hTh(fun h0=>by
  have sG:(kv k).ownBlock=some(kb k):=by
   obtain⟨_,a,c,hv,_,hx⟩:=oC.out.zRX;obtain⟨off,ha,_⟩:=hx h0;rw [hv,ha];rfl
  exact⟨kb k,sG,gC _(aB.out _(Or.inr ⟨k,hk,h0,rfl⟩))⟩))
 have lA:=zB kC;clear hVh hPh hTh aA;obtain⟨-,-,⟨x2,-⟩,⟨x3,-⟩,-⟩:=oG.out;obtain⟨-,-,-,-,⟨v4,-⟩,-⟩:=iE.out;obtain⟨t3,t3'⟩:=kC.c3;obtain⟨t4,t4'⟩:=kC.c4;have n1:sb≠w5.heap.size:=by omega
 have n2:w5.heap.size≠sb:=by omega
 have n3:sb≠w.heap.size+1:=by omega
 have n4:w.heap.size+1≠sb:=by omega
 clear kC;go_upto_region 9 with fail;clear x2 x3 v4 t3 t3' t4 t4';have dB:zF(fun j=>j=sb) wh((wh.setCell ⟨sb,so+k*6+3,none⟩(.int .i64 y.rs)).setCell ⟨sb,so+k*6+3+1,none⟩(.int .i64 y.rb)):=(zF.put _ _ _ _).trans(zF.put _ _ _ _);have oF:=dB.size;have mE:0<(W.zRS k).dn->¬kb k=sb:=fun h0=>lA.out.zRW h0
 have vE:=zB(show ∀j,j<W.sn->j≠k->∀r,r<6->∀u,zX wh sb(so+j*6+r) u->zX((wh.setCell ⟨sb,so+k*6+3,none⟩(.int .i64 y.rs)).setCell ⟨sb,so+k*6+3+1,none⟩(.int .i64 y.rb)) sb(so+j*6+r) u from fun j hj pH r hr u hc=>(hc.zRK _(Or.inr(by omega))).zRK _(Or.inr(by omega)));have lB:=zB(show ∀r,r<6->r≠3->r≠4->∀u,zX wh sb(so+k*6+r) u->zX((wh.setCell ⟨sb,so+k*6+3,none⟩(.int .i64 y.rs)).setCell ⟨sb,so+k*6+3+1,none⟩(.int .i64 y.rb)) sb(so+k*6+r) u from fun r hr h3 h4 u hc=>(hc.zRK _(Or.inr(by omega))).zRK _(Or.inr(by omega)));have kE:=zB(show zX((wh.setCell ⟨sb,so+k*6+3,none⟩(.int .i64 y.rs)).setCell ⟨sb,so+k*6+3+1,none⟩(.int .i64 y.rb)) sb(so+k*6+3)(.int .i64 y.rs)from(lA.out.c3.set _).zRK _(Or.inr(by omega)));have cE:=zB(show zX((wh.setCell ⟨sb,so+k*6+3,none⟩(.int .i64 y.rs)).setCell ⟨sb,so+k*6+3+1,none⟩(.int .i64 y.rb)) sb(so+k*6+4)(.int .i64 y.rb)from(lA.out.c4.zRK _(Or.inr(by omega))).set _);have vC:=zB(iE.out.zRR dB n2);have iF:=zB(jF.out.zRR dB(by omega));have oB:=(mC.out.set ⟨sb,so+k*6+3,none⟩(.int .i64 y.rs)).set ⟨sb,so+k*6+3+1,none⟩(.int .i64 y.rb);have gF:=lA.out.zRX.zRR dB mE;have nB:zR((wh.setCell ⟨sb,so+k*6+3,none⟩(.int .i64 y.rs)).setCell ⟨sb,so+k*6+3+1,none⟩(.int .i64 y.rb)) 0(((wh.setCell ⟨sb,so+k*6+3,none⟩(.int .i64 y.rs)).setCell ⟨sb,so+k*6+3+1,none⟩(.int .i64 y.rb))).heap.size(.slice s8 L.length sc8) L.length(zf L)(zh L):=by
  obtain⟨bb,ho,hbb⟩:=zw.own eE.out(by unfold maxLen;omega);exact((ho.zRR tE.out(fun h0=>by have:=(hbb h0).2;omega)).zRR dB(fun h0=>by have:=(hbb h0).2;omega)).at(fun h0=>⟨Nat.zero_le _,by have:=(hbb h0).2.2;omega⟩)
 have vD:=zB dB;have vB:=zB oB;have dD:=zB gF;have dC:=zB nB;clear dB oB gF nB;generalize((wh.setCell ⟨sb,so+k*6+3,none⟩(.int .i64 y.rs)).setCell ⟨sb,so+k*6+3+1,none⟩(.int .i64 y.rb))=wi at oF vE lB kE cE vC iF vD vB dD dC ⊢;have eA:Below wi.heap.size wi wi.drew:=(Below.refl _ _).drew;obtain⟨-,ak,ck,ekv,-,-⟩:=id dD.out;have kD:=dD.out.zRJ eA;have jD:=vB.out.zRJ eA;rw [ekv] at kD jD;obtain⟨da,dc,wb,nb,hrun,hnew,hTb,hnb⟩:=zGq(lo:=0)(hi:=wi.heap.size) kD jD(dC.out.zRJ eA)(by omega) 62;have sA:∀j,(0<(W.zRS k).dn/\j=kb k)->j≠sb/\j≠w5.heap.size/\w.heap.size+3<=j/\j<w5.heap.size/\Q j:=fun j hj=>by
  have h1:=aB.out j(Or.inr ⟨k,hk,hj.1,hj.2⟩);have h2:=gA.out j(Or.inr(Or.inl h1));exact⟨fun e=>mE hj.1(by rw [<-hj.2];exact e),by omega,by omega,by omega,h1⟩
 have c5:=lB.out 5(by omega)(by omega)(by omega) _ lA.out.c5;have mF:=(c5.zRJ eA).zRR hTb(fun h=>(sA _ h).1 rfl);rw [ekv] at c5;obtain⟨d5,d5'⟩:=c5.zRJ eA;obtain⟨m5,m5'⟩:=mF;have bD:=(vC.out.zRJ eA).zRR hTb(fun h=>(sA _ h).2.1 rfl);obtain⟨v4,-⟩:=(vC.out.zRJ eA).2.2.2.2.1;obtain⟨u4,-⟩:=bD.2.2.2.2.1;have kF:w5.heap.size<wb.heap.size:=zD u4;have sC:=zF.put wb sb(so+k*6+5)(.slice da((W.zRS k).dn+L.length) dc);have vF:=zB(show(fun w':World=>w'.cell? ⟨w5.heap.size,4,none⟩=some(.slice(some ⟨sb,so,none⟩) W.sn lc2))(wb.setCell ⟨sb,so+k*6+5,none⟩(.slice da((W.zRS k).dn+L.length) dc))from(sC.cell(o:=4) kF n2).trans u4);have tC:=zB hnew;have mB:=zB hTb;have sE:=zB hnb;have pB:=zB hrun;have HU:=zB u4;have nD:=zB v4;have cA:=zB sA;have jB:=zB sC;have lF:=zB bD;clear hrun hnew hTb hnb u4 v4 kD jD c5 sA sC bD ekv;refine wp_region_held_drew(S:=(fun w':World=>w'.cell? ⟨w5.heap.size,4,none⟩=some(.slice(some ⟨sb,so,none⟩) W.sn lc2)))(by kernel_rfl) nD.out(fun hHeld=>?_);generalize wi.drew=q7 at hHeld nD pB mB sE d5 d5' eA ⊢;refine tk 0(h:=tk 1(h:=tk 2(h:=tk 3(h:=tk 4(h:=tk 5(h:=tk 6(h:=tk 7(h:=tk 9(h:=?_)))))))));refine rd [8](rc(fun K hK=>?_) .nil);go_simp
 (try go_wp2_with fail)
 refine hK.out _ _(nD.out) ?_;clear hK K;intro hHeld
 try simp only [Act.put,s1,s2,s3]
 refine rd [10](rc(fun K hK=>?_) .nil);refine yv rfl(.tmp 59)(.tmp 60) 62 rfl _ _ _ rfl rfl pB.out ?_
 (try go_wp2_with fail)
 refine hK.out _ _(HU.out) ?_;clear hK K;intro hHeld
 try simp only [Act.put,s1,s2,s3]
 clear d5 d5';refine tk 11(h:=tk 12(h:=?_));refine rd [13](rc(fun K hK=>?_) .nil);go_simp
 (try go_wp2_with fail)
 refine hK.out _ _(vF.out) ?_;clear hK K;intro hHeld
 try simp only [Act.put,s1,s2,s3]
 refine wpAnyH_done(by kernel_rfl) ?_ _;clear hHeld m5 m5';have oH:=eA.size;have jH:=mB.out.size;have aH:=jB.out.size;have iB:=zB(((iF.out.zRJ eA).zRR mB.out(fun h=>by have:=cA.out _ h;omega)).zRR jB.out(by omega));have rE:=zB(lF.out.zRR jB.out n2);have eD:zDa W k y=zBH(W.zRS k).dn(W.zRS k).ds(W.zRS k).db ++ L:=by unfold zDa zOr;rw [cG.out,HA.out]
 have eY:zEr W k y=Y:=by unfold zEr;rw [tF.out,HA.out]
 have sB:zF(fun j=>j=sb\/(0<(W.zRS k).dn/\j=kb k)) q7(wb.setCell ⟨sb,so+k*6+5,none⟩(.slice da((W.zRS k).dn+L.length) dc)):=(mB.out.mono(fun j e=>Or.inr e)).trans(jB.out.mono(fun j e=>Or.inl e));have kA:zF(fun j=>j=sb\/(0<(W.zRS k).dn/\j=kb k)) wh(wb.setCell ⟨sb,so+k*6+5,none⟩(.slice da((W.zRS k).dn+L.length) dc)):=((vD.out.mono(fun j e=>Or.inl e)).trans(zF.zRM eA)).trans sB;have gB:∀o u,o≠so+k*6+5->zX wi sb o u->zX(wb.setCell ⟨sb,so+k*6+5,none⟩(.slice da((W.zRS k).dn+L.length) dc)) sb o u:=fun o u ho h=>((h.zRJ eA).zRR mB.out(fun h=>(cA.out _ h).1 rfl)).zRK _(Or.inr(by omega))
 have pD:0<(zBY W k y).dn->((0<(W.zRS k).dn/\nb=kb k)\/(q7.heap.size<=nb/\nb<wb.heap.size)):=fun h=>sE.out(by
  have:(zBY W k y).dn=(W.zRS k).dn+L.length:=(by show(zDa W k y).length=_;rw [eD,List.length_append,zAn]);omega)
 have tB:0<(zBY W k y).dn->nb≠sb:=fun h=>by
  rcases pD h with h | h
  ·exact(cA.out nb h).1
  ·omega
 have fC:zAE(wb.setCell ⟨sb,so+k*6+5,none⟩(.slice da((W.zRS k).dn+L.length) dc)) sb(so+k*6) nb(.slice da((W.zRS k).dn+L.length) dc)(zBY W k y):=by
  refine⟨?_,?_,?_,?_,?_,?_,?_,lA.out.zRZ,tB⟩
  ·exact gB _ _(by omega)(lB.out 0(by omega)(by omega)(by omega) _ lA.out.c0)
  ·exact gB _ _(by omega)(lB.out 1(by omega)(by omega)(by omega) _ lA.out.c1)
  ·exact gB _ _(by omega)(lB.out 2(by omega)(by omega)(by omega) _ lA.out.c2)
  ·exact gB _ _(by omega) kE.out
  ·exact gB _ _(by omega) cE.out
  ·exact(((lB.out 5(by omega)(by omega)(by omega) _ lA.out.c5).zRJ eA).zRR mB.out(fun h=>(cA.out _ h).1 rfl)).set _
  ·have h:=tC.out.zRR jB.out(fun h0=>tB(by show 0<(zDa W k y).length;rw [eD];exact h0));show zj _ nb _(zDa W k y).length(zf(zDa W k y))(zh(zDa W k y));rw [eD];exact h
 have dE:qZ(wb.setCell ⟨sb,so+k*6+5,none⟩(.slice da((W.zRS k).dn+L.length) dc))(fun j=>(iA<=j/\j<vA)\/(w8.heap.size<=j/\j<wh.heap.size))(.slice dA y.zRQ.n oc0)(.slice b9(zx y.zRQ Y).hn yc1)(zx y.zRQ Y):=lG.out.zRR kA(fun j hj e=>by
  rcases e with e | e
  ·omega
  ·have:=cA.out j e;omega)
 have jE:=zB(show ∃P Q R,zCI(wb.setCell ⟨sb,so+k*6+5,none⟩(.slice da((W.zRS k).dn+L.length) dc)) P Q R(.slice dA y.zRQ.n oc0)(.slice b9(zx y.zRQ Y).hn yc1)(.slice(some ⟨sb,so,none⟩) W.sn lc2)(.slice l3 W.pn lc3)(zLr W k y)/\∀j,P j\/Q j\/R j->base<=j/\j<((wb.setCell ⟨sb,so+k*6+5,none⟩(.slice da((W.zRS k).dn+L.length) dc))).heap.size/\j≠w.heap.size+1+1 from by
  refine⟨(fun j=>(iA<=j/\j<vA)\/(w8.heap.size<=j/\j<wh.heap.size)),(fun j=>Q j\/(q7.heap.size<=j/\j<wb.heap.size)),R,⟨?_,?_,?_,?_,?_,?_⟩,?_⟩
  ·show qZ _ _ _ _(zx y.zRQ(zEr W k y));rw [eY];exact dE
  ·refine zH2(w:=wh) lC.out gD.out(fun j hj=>Or.inl(aB.out j hj)) hk kA(fun j hj rD r hr u hc=>gB _ _(by omega)(vE.out j hj rD r hr u hc)) fC(fun h=>⟨(pD h).imp id(fun h j hj e=>?_),?_⟩)
   ·have:=gA.out j(Or.inr(Or.inl(aB.out j hj)));omega
   ·rcases pD h with h | h
    ·exact Or.inl(cA.out nb h).2.2.2.2
    ·exact Or.inr h
  ·exact vG.out.zRR kA(fun j hj e=>by
    rcases e with e | e
    ·exact aD.out sb eF.out(by rw [<-e];exact hj)
    ·exact aD.out j(cA.out j e).2.2.2.2 hj)
  ·intro j hj hq;rcases hq with hq | hq
   ·have:=gA.out j(Or.inr(Or.inl hq));omega
   ·omega
  ·intro j hj hq;have:=gA.out j(Or.inr(Or.inr hq));omega
  ·intro j hj hq;rcases hj with hj | hj
   ·exact aD.out j hj hq
   ·have:=gA.out j(Or.inr(Or.inr hq));omega
  ·rintro j(h | h | h)
   ·omega
   ·rcases h with h | h
    ·have:=gA.out j(Or.inr(Or.inl h));omega
    ·omega
   ·have:=gA.out j(Or.inr(Or.inr h));omega)
 have aC:Below base w(wb.setCell ⟨sb,so+k*6+5,none⟩(.slice da((W.zRS k).dn+L.length) dc)):=((eC.mono tD).trans(tE.out.zRJ(B:=base)(by omega)(fun j h=>by omega))).trans(kA.zRJ(B:=base)(by omega)(fun j h=>by
  rcases h with h | h
  ·omega
  ·have:=cA.out j h;omega))
 clear sB kA gB fC dE;generalize(wb.setCell ⟨sb,so+k*6+5,none⟩(.slice da((W.zRS k).dn+L.length) dc))=wz at jB iB rE aH jE aC ⊢;obtain⟨⟨v0,-⟩,⟨v1,-⟩,⟨v2,-⟩,⟨v3,-⟩,⟨v4,-⟩,⟨v5,-⟩⟩:=rE.out;obtain⟨⟨r0,g0⟩,⟨r1,g1⟩,⟨r2,g2⟩,⟨r3,g3⟩,⟨r4,g4⟩,⟨r5,g5⟩,⟨r6,g6⟩,⟨r7,g7⟩,⟨r8,g8⟩⟩:=iB.out;go_wp2_with fail;have bA:=iB.out.put(.slice dA y.zRQ.n oc0)(.slice b9(zx y.zRQ Y).hn yc1)(.int .i64 W.time)(.int .i64 W.next)(.slice(some ⟨sb,so,none⟩) W.sn lc2)(.slice l3 W.pn lc3)(.int .i64 0)(.int .i64(Y.length:Int))(.int .i64 0);have hT:=zF.put9 wz(w.heap.size+1+1)(.slice dA y.zRQ.n oc0)(.slice b9(zx y.zRQ Y).hn yc1)(.int .i64 W.time)(.int .i64 W.next)(.slice(some ⟨sb,so,none⟩) W.sn lc2)(.slice l3 W.pn lc3)(.int .i64 0)(.int .i64(Y.length:Int))(.int .i64 0);clear r0 g0 r1 g1 r2 g2 r3 g3 r4 g4 r5 g5 r6 g6 r7 g7 r8 g8;refine bodyPost_ret(v:=.agg #[.slice dA y.zRQ.n oc0,.slice b9(zx y.zRQ Y).hn yc1,.int .i64 W.time,.int .i64 W.next,.slice(some ⟨sb,so,none⟩) W.sn lc2,.slice l3 W.pn lc3,.int .i64 0,.int .i64(Y.length:Int),.int .i64 0])(by simp [results,Tryz.results28,go_sem,bA.1.1,bA.2.1.1,bA.2.2.1.1,bA.2.2.2.1.1,bA.2.2.2.2.1.1,bA.2.2.2.2.2.1.1,bA.2.2.2.2.2.2.1.1,bA.2.2.2.2.2.2.2.1.1,bA.2.2.2.2.2.2.2.2.1]) rfl ?_;have eO:zA8 W k y=⟨zLr W k y,0,((zEr W k y).length:Int),0⟩:=if_pos aE.out;rw [eO,eY];obtain⟨P1,Q1,R1,hin1,hl1⟩:=jE.out;have nG:=hT.size;exact⟨_,_,_,_,rfl,⟨P1,Q1,R1,hin1.zRR hT(fun i hi e=>(hl1 i hi).2.2 e),fun i hi=>⟨(hl1 i hi).1,Nat.lt_of_lt_of_le(hl1 i hi).2.1 nG⟩⟩,aC.trans(hT.zRJ(B:=base)(by omega)(fun i e=>by omega))⟩
end Go.Proofs.YtmgeglgboadfiaaGreatDoor
