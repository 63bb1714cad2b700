/- A part of the proof. -/
import Derived.Test.YtgabgheflgjgiaaGreatDoorU41
set_option linter.unusedVariables false
set_option maxRecDepth 20000
set_option maxHeartbeats 4000000
namespace Go.Proofs.YtgabgheflgjgiaaGreatDoor
open Go.RowKit
theorem zEA(v0 v1 v2 v3:Value)(lo hi:Nat)(W:zH)(fA:Int)(w:World)(h:zr w lo hi v0 v1 v2 v3 W)(b1:qA W.zOv<=1048576)(b2:W.sn<=1048576)(b3:W.pn<=1048576)(b4:zAt W) :
  Calls Tryz.prog 26 #[qT v0 v1 v2 v3 W,.int .i64 fA] w (qw W fA w):=by
 have Hp:=zB h;obtain⟨a0,c0,a1,c1,a2,c2,a3,c3,rfl,rfl,rfl,rfl⟩:=h.form;have m1:=h.zOy.1;have m2:=h.zOw.1;unfold maxLen at m1 m2;clear h;have lI:=zC w (.cells #[.slice a0 W.zOv.n c0,.slice a1 W.zOv.hn c1,.int .i64 W.time,.int .i64 W.next,.slice a2 W.sn c2,.slice a3 W.pn c3] 40);have dH:=zC (w.alloc (.cells #[.slice a0 W.zOv.n c0,.slice a1 W.zOv.hn c1,.int .i64 W.time,.int .i64 W.next,.slice a2 W.sn c2,.slice a3 W.pn c3] 40)) (.cells #[.slice none 0 0,.slice none 0 0,.int .i64 0,.int .i64 0,.slice none 0 0,.slice none 0 0,.int .i64 0,.int .i64 0,.int .i64 0] 71);have hb:=zA lI dH;have HX:=zB ((za.zOt w (.slice a0 W.zOv.n c0) (.slice a1 W.zOv.hn c1) (.int .i64 W.time) (.int .i64 W.next) (.slice a2 W.sn c2) (.slice a3 W.pn c3) 40).zOp dH);have hr:=zBi.zOt (w.alloc (.cells #[.slice a0 W.zOv.n c0,.slice a1 W.zOv.hn c1,.int .i64 W.time,.int .i64 W.next,.slice a2 W.sn c2,.slice a3 W.pn c3] 40)) (.slice none 0 0) (.slice none 0 0) (.int .i64 0) (.int .i64 0) (.slice none 0 0) (.slice none 0 0) (.int .i64 0) (.int .i64 0) (.int .i64 0) 71;rw[World.size_alloc]at hr;have HR:=zB hr;have hz:((w.alloc (.cells #[.slice a0 W.zOv.n c0,.slice a1 W.zOv.hn c1,.int .i64 W.time,.int .i64 W.next,.slice a2 W.sn c2,.slice a3 W.pn c3] 40)).alloc (.cells #[.slice none 0 0,.slice none 0 0,.int .i64 0,.int .i64 0,.slice none 0 0,.slice none 0 0,.int .i64 0,.int .i64 0,.int .i64 0] 71)).heap.size>=w.heap.size+2:=by rw[World.size_alloc,World.size_alloc];omega
 clear hr;have HL:=zB (show ¬(∃i,i<0/\8000<((fun (_:Nat)=>(⟨#[]⟩:ByteArray)) i).size)from fun ⟨i,hi,_⟩=>absurd hi (Nat.not_lt_zero _));have mG:=zB (show ¬(∃i,i<0/\¬qV ((fun _=>⟨#[]⟩) i))from fun ⟨i,hi,_⟩=>absurd hi (Nat.not_lt_zero _));go_enter Tryz.func26,Tryz.ntmps26;go_upto_region 1 with fail;generalize (w.alloc (.cells #[.slice a0 W.zOv.n c0,.slice a1 W.zOv.hn c1,.int .i64 W.time,.int .i64 W.next,.slice a2 W.sn c2,.slice a3 W.pn c3] 40)).alloc (.cells #[.slice none 0 0,.slice none 0 0,.int .i64 0,.int .i64 0,.slice none 0 0,.slice none 0 0,.int .i64 0,.int .i64 0,.int .i64 0] 71)=W1 at hb HX HR hz ⊢;clear lI dH;obtain⟨⟨x0,-⟩,⟨x1,-⟩,⟨x2,-⟩,⟨x3,-⟩,⟨x4,-⟩,⟨x5,-⟩⟩:=HX.out;go_wp2_with fail;clear x0 x1 x2 x3 x4 x5;refine(zv _ _ _ _ lo hi W W1 (Hp.out.zOp hb)).mono ?_;rintro e w2 ⟨⟨t,rfl,ht⟩,gA⟩;have nG:=zA hb gA;have tA:=zB (HR.out.zOp gA);have aI:=zB (HX.out.zOp gA);have sI:=gA.size;clear gA;by_cases hw:zBr W;rotate_left
 ·obtain rfl:t=false:=zP ht hw;have Hw:=zB hw;clear ht hw;go_wp2_with fail;refine(zR 1 _).mono ?_;rintro e wz ⟨rfl,vC⟩;have kB:=zA nG vC;have jB:=zB (tA.out.zOp vC);obtain⟨⟨r0,g0⟩,⟨r1,g1⟩,⟨r2,g2⟩,⟨r3,g3⟩,⟨r4,g4⟩,⟨r5,g5⟩,⟨r6,g6⟩,⟨r7,g7⟩,⟨r8,g8⟩⟩:=jB.out;go_wp2_with fail;have bA:=jB.out.put (.slice none 0 0) (.slice none 0 0) (.int .i64 0) (.int .i64 0) (.slice none 0 0) (.slice none 0 0) (.int .i64 0) (.int .i64 0) (.int .i64 1);have hT:=zE.put9 wz (w.heap.size+1) (.slice none 0 0) (.slice none 0 0) (.int .i64 0) (.int .i64 0) (.slice none 0 0) (.slice none 0 0) (.int .i64 0) (.int .i64 0) (.int .i64 1);clear r0 g0 r1 g1 r2 g2 r3 g3 r4 g4 r5 g5 r6 g6 r7 g7 r8 g8;refine bodyPost_ret (v:=.agg #[.slice none 0 0,.slice none 0 0,.int .i64 0,.int .i64 0,.slice none 0 0,.slice none 0 0,.int .i64 0,.int .i64 0,.int .i64 1]) (by simp[results,Tryz.results26,go_sem,bA.1.1,bA.2.1.1,bA.2.2.1.1,bA.2.2.2.1.1,bA.2.2.2.2.1.1,bA.2.2.2.2.2.1.1,bA.2.2.2.2.2.2.1.1,bA.2.2.2.2.2.2.2.1.1,bA.2.2.2.2.2.2.2.2.1]) rfl (qw.ill (i:=0) (Or.inr (Or.inl ⟨HL.out,Or.inl (fun h=>Hw.out ((qM W).1 h)),rfl⟩)) ?_);exact⟨_,_,_,_,rfl,zi,kB.trans (hT.zOp (B:=w.heap.size) kB.size (fun k e=>by omega))⟩
 obtain rfl:t=true:=ht.2 hw;have eF:=zB hw;have Hw:=zB ((qM W).2 hw);clear ht hw;obtain⟨⟨x0,-⟩,⟨x1,-⟩,⟨x2,-⟩,⟨x3,-⟩,⟨x4,-⟩,⟨x5,-⟩⟩:=aI.out;go_wp2_with fail;clear x0 x1 x2 x3 x4 x5;refine(zm _ _ _ _ lo hi W fA _ (Hp.out.zOp nG)).mono ?_;rintro e w3 ⟨r,rfl,hF,oE⟩;have oG:=zA nG oE;have rH:=zB (tA.out.zOp oE);have bI:=zB (aI.out.zOp oE);have bM:=oE.size;clear oE;rcases hF with⟨k,hk,vG,cF,rfl⟩ | ⟨pA,rfl⟩;rotate_left
 ·have pJ:=zB pA;clear pA;go_wp2_with fail;refine(zR 4 _).mono ?_;rintro e wz ⟨rfl,vC⟩;have kB:=zA oG vC;have jB:=zB (rH.out.zOp vC);obtain⟨⟨r0,g0⟩,⟨r1,g1⟩,⟨r2,g2⟩,⟨r3,g3⟩,⟨r4,g4⟩,⟨r5,g5⟩,⟨r6,g6⟩,⟨r7,g7⟩,⟨r8,g8⟩⟩:=jB.out;go_wp2_with fail;have bA:=jB.out.put (.slice none 0 0) (.slice none 0 0) (.int .i64 0) (.int .i64 0) (.slice none 0 0) (.slice none 0 0) (.int .i64 0) (.int .i64 0) (.int .i64 4);have hT:=zE.put9 wz (w.heap.size+1) (.slice none 0 0) (.slice none 0 0) (.int .i64 0) (.int .i64 0) (.slice none 0 0) (.slice none 0 0) (.int .i64 0) (.int .i64 0) (.int .i64 4);clear r0 g0 r1 g1 r2 g2 r3 g3 r4 g4 r5 g5 r6 g6 r7 g7 r8 g8;refine bodyPost_ret (v:=.agg #[.slice none 0 0,.slice none 0 0,.int .i64 0,.int .i64 0,.slice none 0 0,.slice none 0 0,.int .i64 0,.int .i64 0,.int .i64 4]) (by simp[results,Tryz.results26,go_sem,bA.1.1,bA.2.1.1,bA.2.2.1.1,bA.2.2.2.1.1,bA.2.2.2.2.1.1,bA.2.2.2.2.2.1.1,bA.2.2.2.2.2.2.1.1,bA.2.2.2.2.2.2.2.1.1,bA.2.2.2.2.2.2.2.2.1]) rfl (qw.ill (i:=2) (Or.inr (Or.inr (Or.inl ⟨HL.out,Hw.out,mG.out,0,by omega,fun ⟨j,hj,h⟩=>pJ.out j hj h,fun j hj=>absurd hj (Nat.not_lt_zero _),rfl⟩))) ?_);exact⟨_,_,_,_,rfl,zi,kB.trans (hT.zOp (B:=w.heap.size) kB.size (fun k e=>by omega))⟩
 have HK:=zB (show qo W fA k from⟨hk,vG,cF⟩);have vF:=zB (show qL W fA from⟨k,hk,vG⟩);clear vG cF;have k0:¬(k:Int)<0:=by omega
 have pL:(k:Int)<(W.pn:Int):=by omega
 have h8:=Hw.out.zO3.zOy.1;have rJ:=Hw.out.zO3.zOw.1;obtain⟨⟨x0,-⟩,⟨x1,-⟩,⟨x2,-⟩,⟨x3,-⟩,⟨x4,-⟩,⟨x5,-⟩⟩:=bI.out;go_wp2_with fail;clear x0 x1 x2 x3 x4 x5;refine(zId _ _ _ _ lo hi W fA _ (Hp.out.zOp oG) h8 rJ).mono ?_;rintro e w4 ⟨rfl,pE⟩;have pG:=zA oG pE;have sH:=zB (rH.out.zOp pE);have cI:=zB (bI.out.zOp pE);have cM:=pE.size;clear pE;have cK:=zMt Hw.out vF.out;by_cases dK:1<zCe W fA
 ·have a1:(1:Int)<(zCe W fA:Int):=(by omega);go_wp2_with fail;refine(zR 7 _).mono ?_;rintro e wz ⟨rfl,vC⟩;have kB:=zA pG vC;have jB:=zB (sH.out.zOp vC);obtain⟨⟨r0,g0⟩,⟨r1,g1⟩,⟨r2,g2⟩,⟨r3,g3⟩,⟨r4,g4⟩,⟨r5,g5⟩,⟨r6,g6⟩,⟨r7,g7⟩,⟨r8,g8⟩⟩:=jB.out;go_wp2_with fail;have bA:=jB.out.put (.slice none 0 0) (.slice none 0 0) (.int .i64 0) (.int .i64 0) (.slice none 0 0) (.slice none 0 0) (.int .i64 0) (.int .i64 0) (.int .i64 7);have hT:=zE.put9 wz (w.heap.size+1) (.slice none 0 0) (.slice none 0 0) (.int .i64 0) (.int .i64 0) (.slice none 0 0) (.slice none 0 0) (.int .i64 0) (.int .i64 0) (.int .i64 7);clear r0 g0 r1 g1 r2 g2 r3 g3 r4 g4 r5 g5 r6 g6 r7 g7 r8 g8;refine bodyPost_ret (v:=.agg #[.slice none 0 0,.slice none 0 0,.int .i64 0,.int .i64 0,.slice none 0 0,.slice none 0 0,.int .i64 0,.int .i64 0,.int .i64 7]) (by simp[results,Tryz.results26,go_sem,bA.1.1,bA.2.1.1,bA.2.2.1.1,bA.2.2.2.1.1,bA.2.2.2.2.1.1,bA.2.2.2.2.2.1.1,bA.2.2.2.2.2.2.1.1,bA.2.2.2.2.2.2.2.1.1,bA.2.2.2.2.2.2.2.2.1]) rfl (qw.ill (i:=5) (Or.inr (Or.inr (Or.inl ⟨HL.out,Hw.out,mG.out,1,by omega,fun (h:zCe W fA=1)=>by omega,fun j hj=>(show j=0 by omega)▸vF.out,rfl⟩))) ?_);exact⟨_,_,_,_,rfl,zi,kB.trans (hT.zOp (B:=w.heap.size) kB.size (fun k e=>by omega))⟩
 have a1:¬(1:Int)<(zCe W fA:Int):=by omega
 have hn:zCe W fA=1:=by omega
 have sF:=zB (zNn hn);have jJ:=zB (show ∀j,j<2->(fun i=>match i with | 0=>qL W fA | _=>zCe W fA=1) j from fun j hj=>by
  rcases(by omega:j=0\/j=1)with rfl | rfl
  ·exact vF.out
  ·exact hn)
 clear cK dK hn;obtain⟨⟨x0,-⟩,⟨x1,-⟩,⟨x2,-⟩,⟨x3,-⟩,⟨x4,-⟩,⟨x5,-⟩⟩:=cI.out;go_wp2_with fail;clear x0 x1 x2 x3 x4 x5 a1;refine(yq _ _ _ _ lo hi W _ (Hp.out.zOp pG) b1 b2 b3 b4).mono ?_;rintro e w5 ⟨z0,z1,z2,z3,rfl,ho,lF⟩;obtain⟨P,Q,R,bC,aF⟩:=ho;have jA:0<W.sn:=by
  obtain⟨j,hj,-⟩:=(Hw.out.zO3.zOw.2.1 k hk).1;omega
 obtain⟨sb,ub,uv,hS,jI,iF,-,-⟩:=bC.zOy;obtain⟨so,sc,rfl,-⟩:=hS.nth jA;obtain⟨bn,kb,kv,hN,gI,gF,-,-⟩:=bC.zOw;obtain⟨vL,na,cn,rfl,fH,rI⟩:=id hN;obtain⟨off,rfl,-⟩:=rI (by omega);obtain⟨l0,nF,l1,oF,rfl,rfl⟩:=bC.zOv.form;obtain⟨g,hg⟩:∃g,g=W.zOw k:=⟨_,rfl⟩;have eC:=hN.nthE hk;rw[<-hg]at eC;obtain⟨-,ga,gc,jH,-,-⟩:=id eC.zO5;have HG:=zB hg;have oH:=zB jH;have gC:=zB bC.isIn;have bB:=zB aF;have nJ:=zB hS;have lJ:=zB jI;have oJ:=zB iF;have fJ:=zB hN;have eJ:=zB gI;have gJ:=zB gF;have rF:=zB (show ∀i,i<W.sn->qx w5 sb (so+i*6) (ub i) (uv i) (W.zOy i)from fun i hi=>by
  obtain⟨tC,c',ev,hx⟩:=hS.nth hi;simp only[Value.slice.injEq,Option.some.injEq,Addr.mk.injEq,and_true,true_and]at ev;obtain⟨rfl,rfl⟩:=ev;exact hx)
 have tD:=zB (show ∀i,i<W.pn->yA w5 bn (off+i*8) (kb i) (kv i) (W.zOw i)from fun i hi=>hN.nthE hi);have iC:=zB (show Q sb/\∀i,i<W.sn->0<(W.zOy i).dn->Q (ub i)from⟨iF _ (Or.inl ⟨jA,rfl⟩),fun i hi h0=>iF _ (Or.inr ⟨i,hi,h0,rfl⟩)⟩);have fB:=zB (show R bn/\∀i,i<W.pn->0<(W.zOw i).dn->R (kb i)from⟨gF _ (Or.inl ⟨by omega,rfl⟩),fun i hi h0=>gF _ (Or.inr ⟨i,hi,h0,rfl⟩)⟩);have mI:g.dn<=1048576:=by rw[hg];have:=(zHB eF.out 0).1 k hk;have:=this.1.1;omega
 have nI:W.zOv.hn<=400:=by
  have hR:=eF.out.right;have h1:=((zC0 W.zOv).2 hR).2.1;have h2:=hR.1;omega
 have rG:=zA pG lF;have dM:=lF.size;obtain⟨q0,-⟩:=eC.c0;obtain⟨q1,-⟩:=eC.c1;obtain⟨q2,-⟩:=eC.c2;obtain⟨q3,-⟩:=eC.c3;obtain⟨q4,-⟩:=eC.c4;obtain⟨q5,-⟩:=eC.c5;obtain⟨q6,-⟩:=eC.c6;obtain⟨q7,-⟩:=eC.c7;rw[jH]at q7;have nB:=zC w5 (.cells #[.slice l0 W.zOv.n nF,.slice l1 W.zOv.hn oF,.int .i64 W.time,.int .i64 W.next,.slice (some ⟨sb,so,none⟩) W.sn sc,.slice (some ⟨bn,off,none⟩) W.pn cn] 40);have dI:=zB (show(w5.alloc (.cells #[.slice l0 W.zOv.n nF,.slice l1 W.zOv.hn oF,.int .i64 W.time,.int .i64 W.next,.slice (some ⟨sb,so,none⟩) W.sn sc,.slice (some ⟨bn,off,none⟩) W.pn cn] 40)).heap.size=w5.heap.size+1 from World.size_alloc _ _);have kG:=zB (za.zOt w5 (.slice l0 W.zOv.n nF) (.slice l1 W.zOv.hn oF) (.int .i64 W.time) (.int .i64 W.next) (.slice (some ⟨sb,so,none⟩) W.sn sc) (.slice (some ⟨bn,off,none⟩) W.pn cn) 40);replace q0:=(nB.cell (zD q0)).trans q0;replace q1:=(nB.cell (zD q1)).trans q1;replace q2:=(nB.cell (zD q2)).trans q2;replace q3:=(nB.cell (zD q3)).trans q3;replace q4:=(nB.cell (zD q4)).trans q4;replace q5:=(nB.cell (zD q5)).trans q5;replace q6:=(nB.cell (zD q6)).trans q6;replace q7:=(nB.cell (zD q7)).trans q7;clear bC aF hS jI iF hN gI gF rI eC jH hg;go_upto_region 9 with fail;generalize (w5.alloc (.cells #[.slice l0 W.zOv.n nF,.slice l1 W.zOv.hn oF,.int .i64 W.time,.int .i64 W.next,.slice (some ⟨sb,so,none⟩) W.sn sc,.slice (some ⟨bn,off,none⟩) W.pn cn] 40))=w6 at nB dI kG q0 q1 q2 q3 q4 q5 q6 q7 ⊢;have jF:=zC w6 (.cells #[.int .i64 g.id,.string g.name,.string g.set,.int .i64 g.zO0,.int .i64 g.time,.int .i64 g.rs,.int .i64 g.rb,.slice ga g.dn gc] 111);have eI:=zB (show(w6.alloc (.cells #[.int .i64 g.id,.string g.name,.string g.set,.int .i64 g.zO0,.int .i64 g.time,.int .i64 g.rs,.int .i64 g.rb,.slice ga g.dn gc] 111)).heap.size=w6.heap.size+1 from World.size_alloc _ _);have fG:=zB (zEk.zOt w6 (.int .i64 g.id) (.string g.name) (.string g.set) (.int .i64 g.zO0) (.int .i64 g.time) (.int .i64 g.rs) (.int .i64 g.rb) (.slice ga g.dn gc) 111);obtain⟨-,-,-,-,-,⟨v5,-⟩⟩:=kG.out;go_upto_region 10 with fail;clear v5 q0 q1 q2 q3 q4 q5 q6 q7;generalize (w6.alloc (.cells #[.int .i64 g.id,.string g.name,.string g.set,.int .i64 g.zO0,.int .i64 g.time,.int .i64 g.rs,.int .i64 g.rb,.slice ga g.dn gc] 111))=w7 at jF eI fG ⊢;have nC:=zA nB jF;have sJ:=zA rG nC;obtain⟨⟨x0,-⟩,⟨x1,-⟩,⟨x2,-⟩,⟨x3,-⟩,⟨x4,-⟩,⟨x5,-⟩⟩:=(cI.out.zOp lF).zOp nC;obtain⟨⟨-,-,-,⟨s3,-⟩⟩,-⟩:=fG.out;go_wp2_with fail;clear x0 x1 x2 x3 x4 x5 s3;refine(yS _ _ _ _ lo hi W g.zO0 _ (Hp.out.zOp sJ)).mono ?_;rintro e w8 ⟨s,b,tm,rfl,hA,eH⟩;have fF:=zB (zGX hA (fun ⟨i,hi⟩=>by
  have h1:=((eF.out.zO3.2.2.2.2.2 i hi.1).1).1;have h2:=hi.2.1;omega))
 clear hA;have kF:=zC w8 (.cells #[.int .i64 s,.int .i64 b] 99);have gB:=zA (zA nC eH) kF;have sB:=zA eH kF;have HV:=zB ((kG.out.zOp jF).zOp sB);have dF:=zB (fG.out.zOp sB);have aG:=zB ((sH.out.zOp lF).zOp gB);have HH:=zB (zHB eF.out tm);go_wp2_with fail;generalize w8.alloc (.cells #[.int .i64 s,.int .i64 b] 99)=w9 at kF gB sB HV dF aG ⊢;have eM:=sB.size;have jK:=dI.out;have kK:=eI.out;obtain⟨V,hV⟩:∃V,V=w5.heap.size:=⟨_,rfl⟩;obtain⟨SB,aH⟩:∃SB,SB=w6.heap.size:=⟨_,rfl⟩;rw[<-hV]at HV;rw[<-aH]at dF;rw[<-hV,<-aH];have kI:V<SB:=by omega
 have jL:SB<w9.heap.size:=by omega
 have kL:V<=w5.heap.size/\w5.heap.size<=V:=by omega
 clear hV aH nB jF kF eH nC sB jK kK
 go_loopw [10,11] (fun lH tK wr=>∃(i:Nat) (m:Int),i<=W.sn/\tK = .int .i64 i/\lH = .int .i64 m/\((m=0/\Below w9.heap.size w9 wr/\∀i0,zGS W fA i0->i<=i0)\/∃i0,zGS W fA i0/\i0<i/\m=((zFX W k i0).length:Int)/\SdF w wr V SB w4.heap.size (.slice (some ⟨sb,so,none⟩) W.sn sc) (.slice (some ⟨bn,off,none⟩) W.pn cn) (.slice ga g.dn gc) W {W with zOv:=zW W.zOv (zFX W k i0),zOy:=zHh W k i0} g)) (fun _ i _=>W.sn - (intOf i).toNat)
 case atStart=>exact⟨0,0,Nat.zero_le _,rfl,rfl,Or.inl ⟨rfl,Below.refl _ _,fun _ _=>Nat.zero_le _⟩⟩
 case round=>
  obtain⟨i,m,nL,rfl,rfl,rA⟩:=hrel;by_cases aA:i<W.sn
  ·have lD:(i:Int)<(W.sn:Int):=(by omega);by_cases hq:(W.zOy i).zO0=fA
   ·have tG:zGS W fA i:=by
     rcases sF.out with⟨i1,h1⟩ | ⟨i1,h1⟩
     ·exact absurd hq (h1.2.2.2 i aA)
     ·by_cases e:i=i1
      ·rw[e];exact h1
      ·exact absurd hq (h1.2.2.1 i aA e)
    obtain⟨rfl,tB⟩:m=0/\Below w9.heap.size w9 wr:=by
     rcases rA with h | ⟨i0,h0,h1,-⟩
     ·exact⟨h.1,h.2.1⟩
     ·exact absurd hq (h0.2.2.1 i aA (by omega))
    clear rA;have dA:=zA gB tB;have sG:=zA rG dA;have mK:=tB.size;have eE:=zB (HV.out.zOp tB);have cE:=zB (dF.out.zOp tB);have dG:=zB (aG.out.zOp tB);have jA:=(rF.out i aA).zOp dA;obtain⟨S4,fD⟩:∃S4,S4=W.zOy i:=⟨_,rfl⟩;rw[<-fD]at jA hq;obtain⟨-,ad,cd,cD,-,-⟩:=id jA.zO5;have nD:=jA.zO5.at (lo:=0) (hi:=wr.heap.size) (fun h0=>⟨Nat.zero_le _,jA.deadLt h0⟩);rw[cD]at nD;have jG:=zB nD;have aD:=zB fD;obtain⟨q2,-⟩:=jA.c2;obtain⟨q5,-⟩:=jA.c5;rw[cD]at q5;obtain⟨v4,-⟩:=eE.out.2.2.2.2.1;have iH:S4.dn<=200:=(by rw[aD.out];exact(HH.out.2 i aA).1.1);have a1:(S4.zO0 == fA)=true:=beq_iff_eq.2 hq;clear jA cD nD fD hq;go_wp2_with fail;clear a1 q2 q5 v4;refine(zBD _ S4.dn 0 wr.heap.size S4.ds S4.db tm wr jG.out iH).mono ?_;rintro e ws ⟨vy,vo,rfl,rC,pC,-,mA⟩;obtain⟨t8,aL,rfl,-⟩:=zX rC;obtain⟨s8,mH,rfl,-⟩:=zX pC;obtain⟨Y,mC⟩:∃Y,Y=yh S4.ds S4.db tm S4.dn:=⟨_,rfl⟩;obtain⟨L,hL⟩:∃L,L=zDm S4.ds S4.db tm S4.dn:=⟨_,rfl⟩;have cH:=zAX S4.ds S4.db tm S4.dn;rw[<-mC]at rC;rw[<-hL]at pC;rw[<-mC,<-hL]at cH ⊢;have lG:=zB mC;have pF:=zB hL;have cG:=zB rC;have bG:=zB pC;have nK:=mA.size;have bJ:=zB mA;clear rC pC mC hL;go_wp2_with fail;refine(zBl V wr.heap.size ws.heap.size P _ _ _ _ _ W.time W.next W.zOv Y ws (eE.out.zOp mA) ((gC.out.zOv.zOp dA).zOp mA) (fun j hj=>by have:=bB.out j (Or.inl hj);omega) (by
     obtain⟨bb,ho,iA⟩:=qH.own cG.out (by unfold maxLen;omega);exact ho.at (fun h0=>⟨(iA h0).2.1,(iA h0).2.2⟩)) (by omega) (Nat.le_refl _) (by omega) nI).mono ?_
    rintro e wh ⟨rfl,y1,lC,jE,vA⟩;have lK:=vA.size;have pA:∀j,w4.heap.size<=j->j<ws.heap.size->j≠V->¬P j->¬(j=V\/P j\/ws.heap.size<=j):=fun j h1 h2 h3 h4 h=>by
     rcases h with h | h | h
     ·exact h3 h
     ·exact h4 h
     ·omega
    have dD:∀j,P j->j<V:=fun j hj=>by have:=bB.out j (Or.inl hj);omega
    have aC:=((tD.out k hk).zOp dA).zOp mA;rw[<-HG.out]at aC;have vE:zp wh 0 wh.heap.size (.slice ga g.dn gc) g.dn g.ds g.db:=by
     have h1:=aC.zO5.zOr vA (fun h0=>by
      have h2:=fB.out.2 k hk (by rw[<-HG.out];exact h0);have h3:=bB.out _ (Or.inr (Or.inr h2));exact pA _ (by omega) (by omega) (by omega) (fun hp=>gC.out.pr _ hp h2))
     rw[oH.out]at h1;exact h1.at (fun h0=>⟨Nat.zero_le _,by have:=aC.deadLt h0;omega⟩)
    have iE:zp wh 0 wh.heap.size (.slice s8 L.length mH) L.length (zg L) (zj L):=by
     obtain⟨bb,ho,iA⟩:=qH.own bG.out (by unfold maxLen;omega);exact(ho.zOr vA (fun h0=>pA _ (by have:=(iA h0).2.1;omega) (iA h0).2.2 (by have:=(iA h0).2.1;omega) (fun hp=>by have:=dD _ hp;have:=(iA h0).2.1;omega))).at (fun h0=>⟨Nat.zero_le _,by have:=(iA h0).2.2;omega⟩)
    have rE:Below wh.heap.size wh wh.drew:=(Below.refl _ _).drew;obtain⟨ra,sK,w1,da,dc,w2,nb,nA,oA,oB,rB,dC,bF⟩:=zH7 (vE.zOp rE) (iE.zOp rE) mI (by omega) 100 100;have jD:Below wh.heap.size wh w1:=zJ oB;have gA:Below wh.heap.size wh w2:=zJ rB;have cC:0<g.dn+L.length->wh.heap.size<=nb/\nb<w2.heap.size:=bF;have sI:=gA.size;have sC:qx w2 sb (so+i*6) (ub i) (uv i) (W.zOy i):=((((rF.out i aA).zOp dA).zOp mA).zOr vA (by
     have h3:=bB.out _ (Or.inr (Or.inl iC.out.1));exact pA _ (by omega) (by omega) (by omega) (fun hp=>gC.out.pq _ hp iC.out.1)) (fun h0=>by
     have h2:=iC.out.2 i aA h0;have h3:=bB.out _ (Or.inr (Or.inl h2));exact pA _ (by omega) (by omega) (by omega) (fun hp=>gC.out.pq _ hp h2))).zOp gA
    have mB:=((cE.out.zOp mA).turnedD vA (pA SB (by omega) (by omega) (by omega) (fun hp=>by have:=dD _ hp;omega)));obtain⟨-,ak,ck,fE,-,-⟩:=id sC.zO5;obtain⟨m5,kH⟩:=sC.c5;rw[fE]at m5;have m2:=sC.c2.zOq (b':=sb) (o':=so+i*6+5) (.slice da (g.dn+L.length) dc) (Or.inr (by omega));obtain⟨m3,pK⟩:=m2;have iA:sb<w5.heap.size:=(bB.out _ (Or.inr (Or.inl iC.out.1))).2;have kC:=zE.put w2 sb (so+i*6+5) (.slice da (g.dn+L.length) dc);have lA:=zB (show(fun w':World=>w'.cell? ⟨V,4,none⟩=some (.slice (some ⟨sb,so,none⟩) W.sn sc)/\w'.cell? ⟨SB,7,none⟩=some (.slice ga g.dn gc)) wh from⟨lC.2.2.2.2.1.1,mB.2.2.2.2.1⟩);have dB:=zB (show(fun w':World=>w'.cell? ⟨V,4,none⟩=some (.slice (some ⟨sb,so,none⟩) W.sn sc)/\w'.cell? ⟨SB,7,none⟩=some (.slice ga g.dn gc)) wh.drew from⟨lC.2.2.2.2.1.1,mB.2.2.2.2.1⟩);have bE:=zB (show(fun w':World=>w'.cell? ⟨V,4,none⟩=some (.slice (some ⟨sb,so,none⟩) W.sn sc)/\w'.cell? ⟨SB,7,none⟩=some (.slice ga g.dn gc)) (wh.drew.alloc (.cells #[] 99))from by
     have t:=zC wh.drew (.cells #[] 99);exact⟨(t.cell (zD dB.out.1)).trans dB.out.1,(t.cell (zD dB.out.2)).trans dB.out.2⟩)
    have eG:=zB (show(fun w':World=>w'.cell? ⟨V,4,none⟩=some (.slice (some ⟨sb,so,none⟩) W.sn sc)/\w'.cell? ⟨SB,7,none⟩=some (.slice ga g.dn gc)) w1 from⟨(jD.cell (zD lA.out.1)).trans lA.out.1,(jD.cell (zD lA.out.2)).trans lA.out.2⟩);have eB:=zB (show(fun w':World=>w'.cell? ⟨V,4,none⟩=some (.slice (some ⟨sb,so,none⟩) W.sn sc)/\w'.cell? ⟨SB,7,none⟩=some (.slice ga g.dn gc)) w2 from⟨(gA.cell (zD lA.out.1)).trans lA.out.1,(gA.cell (zD lA.out.2)).trans lA.out.2⟩);have vD:=zB (show(fun w':World=>w'.cell? ⟨V,4,none⟩=some (.slice (some ⟨sb,so,none⟩) W.sn sc)/\w'.cell? ⟨SB,7,none⟩=some (.slice ga g.dn gc)) (w2.setCell ⟨sb,so+i*6+5,none⟩ (.slice da (g.dn+L.length) dc))from⟨(kC.cell (zD eB.out.1) (by omega)).trans eB.out.1,(kC.cell (zD eB.out.2) (by omega)).trans eB.out.2⟩);have iG:=zB (vD.out.1);have tF:=zB (show(w2.setCell ⟨sb,so+i*6+5,none⟩ (.slice da (g.dn+L.length) dc)).cell? ⟨SB,3,none⟩=some (.int .i64 g.zO0)from(kC.cell (zD eB.out.2) (by omega)).trans ((gA.cell (zD mB.1.2.2.2.1)).trans mB.1.2.2.2.1));have sA:=zB nA;have tA:=zB oA;have eD:sdD W (W.zOw k) (W.zOy i).dn (W.zOy i).ds (W.zOy i).db=yr g.dn g.ds g.db ++ L:=(by unfold sdD sdO;rw[<-aD.out,<-HG.out,<-fF.out,pF.out]);have eY:sdY W (W.zOw k) (W.zOy i).dn (W.zOy i).ds (W.zOy i).db=Y:=(by unfold sdY;rw[<-aD.out,<-HG.out,<-fF.out,lG.out]);have HE:=zB (zNt (w:=w) (V:=V) (SB:=SB) (base:=w4.heap.size) (k:=k) (gv:=.slice ga g.dn gc) HG.out (gC.out.zOp dA) (fun j hj=>by have:=bB.out j hj;omega) (by omega) kI (by omega) sG (nJ.out.zOp dA) lJ.out oJ.out aA mA vA lC (by rw[eY];exact jE) gA (by rw[eD];exact dC) (fun h0=>cC (by rw[eD,List.length_append,zAK]at h0;exact h0)) cE.out dG.out);rw[eY]at HE;have lD:(i:Int)<(W.sn:Int):=(by omega);clear vA lC jE pA dD aC vE iE nA oA oB rB dC bF cC sC mB fE kC jD;go_upto_region 18 with fail;refine wp_region_held_drew (S:=(fun w':World=>w'.cell? ⟨V,4,none⟩=some (.slice (some ⟨sb,so,none⟩) W.sn sc)/\w'.cell? ⟨SB,7,none⟩=some (.slice ga g.dn gc))) (by kernel_rfl) dB.out (fun hHeld=>?_);generalize wh.drew=q0 at hHeld dB bE sA ⊢;refine tk 0 (h:=tk 1 (h:=tk 2 (h:=tk 4 (h:=tk 5 (h:=tk 7 (h:=?_))))));refine rd [3] (rc (fun K hK=>?_) .nil);go_simp
    (try go_wp2_with fail)
    refine hK.out _ _ (bE.out) ?_;clear hK K hHeld;intro hHeld
    try simp only[Act.put,s1,s2,s3]
    refine rd [6] (rc (fun K hK=>?_) .nil);refine zM rfl (.tmp 79) (.tmp 81) 100 rfl _ _ _ rfl rfl sA.out ?_
    (try go_wp2_with fail)
    refine hK.out _ _ (eG.out) ?_;clear hK K hHeld;intro hHeld
    try simp only[Act.put,s1,s2,s3]
    refine rd [8] (rc (fun K hK=>?_) .nil);refine zM rfl (.tmp 82) (.tmp 83) 100 rfl _ _ _ rfl rfl tA.out ?_
    (try go_wp2_with fail)
    refine hK.out _ _ (eB.out) ?_;clear hK K hHeld;intro hHeld
    try simp only[Act.put,s1,s2,s3]
    refine tk 9 (h:=tk 10 (h:=?_));refine rd [11] (rc (fun K hK=>?_) .nil);go_simp
    (try go_wp2_with fail)
    refine hK.out _ _ (vD.out) ?_;clear hK K hHeld;intro hHeld
    try simp only[Act.put,s1,s2,s3]
    refine wpAnyH_done (by kernel_rfl) ?_ _;clear hHeld m5 kH;have v4:=iG.out;have p3:=tF.out;have vJ:(Y.length:Int)<1000:=(by omega);go_wp2_with fail;go_roundw
    case rel=>
     refine⟨i+1,(Y.length:Int),by omega,by go_num,by go_num,Or.inr ⟨i,tG,by omega,?_,?_⟩⟩
     ·unfold zFX;rw[eY]
     ·unfold zFX;rw[eY];exact HE.out
    case measure=>simp[intOf];omega
   ·have gH:wr.cell? ⟨V,4,none⟩=some (.slice (some ⟨sb,so,none⟩) W.sn sc)/\wr.cell? ⟨sb,so+i*6+2,none⟩=some (.int .i64 (W.zOy i).zO0):=by
     rcases rA with h | ⟨i0,h0,h1,hm,h⟩
     ·exact⟨(HV.out.zOp h.2.1).2.2.2.2.1.1,((rF.out i aA).zOp (zA gB h.2.1)).c2.1⟩
     ·obtain⟨_,_,_,_,_,h1,_,_,h4,_⟩:=h;obtain⟨b',tI,vI,gE,-,-⟩:=h4.zOy;obtain⟨-,a',c',ev,-,hx⟩:=id gE;obtain⟨tC,rfl,hs⟩:=hx (by show 0<W.sn;omega);simp only[Value.slice.injEq,Option.some.injEq,Addr.mk.injEq,and_true,true_and]at ev;obtain⟨⟨rfl,rfl⟩,rfl⟩:=ev;have hs:=hs i aA;have gK:(fun j=>j) i=i:=rfl;dsimp only at hs;rw[show zHh W k i0 i=W.zOy i from if_neg (by omega)]at hs;exact⟨h1.2.2.2.2.1.1,hs.c2.1⟩
    obtain⟨v4,q2⟩:=gH;have HQ:=zB hq;have oD:=zB rA;have a1:((W.zOy i).zO0 == fA)=false:=beq_eq_false_iff_ne.2 hq;clear hq rA;go_wp2_with fail;clear v4 q2 a1;go_roundw
    case rel=>
     refine⟨i+1,m,by omega,by go_num,rfl,?_⟩;rcases oD.out with h | ⟨i0,h0,h1,hm,h⟩
     ·refine Or.inl ⟨h.1,h.2.1,fun i0 h0=>?_⟩;have h1:=h.2.2 i0 h0;have h2:i≠i0:=fun e=>HQ.out (by rw[e];exact h0.2.1)
      omega
     ·exact Or.inr ⟨i0,h0,by omega,hm,h⟩
    case measure=>simp[intOf];omega
  ·obtain rfl:i=W.sn:=(by omega);have fK:wr.cell? ⟨V,4,none⟩=some (.slice (some ⟨sb,so,none⟩) W.sn sc):=by
    rcases rA with h | ⟨i0,h0,h1,hm,h⟩
    ·exact(HV.out.zOp h.2.1).2.2.2.2.1.1
    ·obtain⟨_,_,_,_,_,h1,_⟩:=h;exact h1.2.2.2.2.1.1
   have oD:=zB rA;clear rA;go_wp2_with fail;clear fK
   go_loopw [10,14] (fun lH vK wr=>∃(i:Nat) (m:Int),i<=W.pn/\vK = .int .i64 i/\lH = .int .i64 m/\((m=0/\Below w9.heap.size w9 wr/\∃i0,zHm W fA i0/\i<=i0)\/(∃i0,zGS W fA i0/\m=((zFX W k i0).length:Int)/\SdF w wr V SB w4.heap.size (.slice (some ⟨sb,so,none⟩) W.sn sc) (.slice (some ⟨bn,off,none⟩) W.pn cn) (.slice ga g.dn gc) W {W with zOv:=zW W.zOv (zFX W k i0),zOy:=zHh W k i0} g)\/∃i0,zHm W fA i0/\i0<i/\m=((zHA W k i0).length:Int)/\SdF w wr V SB w4.heap.size (.slice (some ⟨sb,so,none⟩) W.sn sc) (.slice (some ⟨bn,off,none⟩) W.pn cn) (.slice ga g.dn gc) W {W with zOv:=zW W.zOv (zHA W k i0),zOw:=zG9 W k i0} g)) (fun _ i _=>W.pn - (intOf i).toNat)
   case atStart=>
    refine⟨0,m,Nat.zero_le _,rfl,rfl,?_⟩;rcases oD.out with h | ⟨i0,h0,h1,hm,h⟩
    ·rcases sF.out with⟨i1,h1⟩ | ⟨i1,h1⟩
     ·exact Or.inl ⟨h.1,h.2.1,i1,h1,Nat.zero_le _⟩
     ·have h2:=h.2.2 i1 h1;have h3:=h1.1;omega
    ·exact Or.inr (Or.inl ⟨i0,h0,hm,h⟩)
   case round=>
    clear oD;obtain⟨i,m,oL,rfl,rfl,rA⟩:=hrel;by_cases aA:i<W.pn
    ·have lD:(i:Int)<(W.pn:Int):=(by omega);by_cases hq:(W.zOw i).zO0=fA
     ·have tG:zHm W fA i:=by
       rcases sF.out with⟨i1,h1⟩ | ⟨i1,h1⟩
       ·by_cases e:i=i1
        ·rw[e];exact h1
        ·exact absurd hq (h1.2.2.1 i aA e)
       ·exact absurd hq (h1.2.2.2 i aA)
      obtain⟨rfl,tB⟩:m=0/\Below w9.heap.size w9 wr:=by
       rcases rA with h | ⟨i0,h0,-⟩ | ⟨i0,h0,h1,-⟩
       ·exact⟨h.1,h.2.1⟩
       ·exact absurd hq (h0.2.2.2 i aA)
       ·exact absurd hq (h0.2.2.1 i aA (by omega))
      clear rA;have dA:=zA gB tB;have sG:=zA rG dA;have mK:=tB.size;have eE:=zB (HV.out.zOp tB);have cE:=zB (dF.out.zOp tB);have dG:=zB (aG.out.zOp tB);have jA:=(tD.out i aA).zOp dA;obtain⟨S4,fD⟩:∃S4,S4=W.zOw i:=⟨_,rfl⟩;rw[<-fD]at jA hq;obtain⟨-,ad,cd,cD,-,-⟩:=id jA.zO5;have nD:=jA.zO5.at (lo:=0) (hi:=wr.heap.size) (fun h0=>⟨Nat.zero_le _,jA.deadLt h0⟩);rw[cD]at nD;have jG:=zB nD;have aD:=zB fD;obtain⟨q2,-⟩:=jA.c3;obtain⟨q5,-⟩:=jA.c7;rw[cD]at q5;obtain⟨v4,-⟩:=eE.out.2.2.2.2.2;have iH:S4.dn<=200:=(by rw[aD.out];exact(HH.out.1 i aA).1.1);have a1:(S4.zO0 == fA)=true:=beq_iff_eq.2 hq;clear jA cD nD fD hq;go_wp2_with fail;clear a1 q2 q5 v4;refine(zBD _ S4.dn 0 wr.heap.size S4.ds S4.db tm wr jG.out iH).mono ?_;rintro e ws ⟨vy,vo,rfl,rC,pC,-,mA⟩;obtain⟨t8,aL,rfl,-⟩:=zX rC;obtain⟨s8,mH,rfl,-⟩:=zX pC;obtain⟨Y,mC⟩:∃Y,Y=yh S4.ds S4.db tm S4.dn:=⟨_,rfl⟩;obtain⟨L,hL⟩:∃L,L=zDm S4.ds S4.db tm S4.dn:=⟨_,rfl⟩;have cH:=zAX S4.ds S4.db tm S4.dn;rw[<-mC]at rC;rw[<-hL]at pC;rw[<-mC,<-hL]at cH ⊢;have lG:=zB mC;have pF:=zB hL;have cG:=zB rC;have bG:=zB pC;have nK:=mA.size;have bJ:=zB mA;clear rC pC mC hL;go_wp2_with fail;refine(zBl V wr.heap.size ws.heap.size P _ _ _ _ _ W.time W.next W.zOv Y ws (eE.out.zOp mA) ((gC.out.zOv.zOp dA).zOp mA) (fun j hj=>by have:=bB.out j (Or.inl hj);omega) (by
       obtain⟨bb,ho,iA⟩:=qH.own cG.out (by unfold maxLen;omega);exact ho.at (fun h0=>⟨(iA h0).2.1,(iA h0).2.2⟩)) (by omega) (Nat.le_refl _) (by omega) nI).mono ?_
      rintro e wh ⟨rfl,y1,lC,jE,vA⟩;have lK:=vA.size;have pA:∀j,w4.heap.size<=j->j<ws.heap.size->j≠V->¬P j->¬(j=V\/P j\/ws.heap.size<=j):=fun j h1 h2 h3 h4 h=>by
       rcases h with h | h | h
       ·exact h3 h
       ·exact h4 h
       ·omega
      have dD:∀j,P j->j<V:=fun j hj=>by have:=bB.out j (Or.inl hj);omega
      have aC:=((tD.out k hk).zOp dA).zOp mA;rw[<-HG.out]at aC;have vE:zp wh 0 wh.heap.size (.slice ga g.dn gc) g.dn g.ds g.db:=by
       have h1:=aC.zO5.zOr vA (fun h0=>by
        have h2:=fB.out.2 k hk (by rw[<-HG.out];exact h0);have h3:=bB.out _ (Or.inr (Or.inr h2));exact pA _ (by omega) (by omega) (by omega) (fun hp=>gC.out.pr _ hp h2))
       rw[oH.out]at h1;exact h1.at (fun h0=>⟨Nat.zero_le _,by have:=aC.deadLt h0;omega⟩)
      have iE:zp wh 0 wh.heap.size (.slice s8 L.length mH) L.length (zg L) (zj L):=by
       obtain⟨bb,ho,iA⟩:=qH.own bG.out (by unfold maxLen;omega);exact(ho.zOr vA (fun h0=>pA _ (by have:=(iA h0).2.1;omega) (iA h0).2.2 (by have:=(iA h0).2.1;omega) (fun hp=>by have:=dD _ hp;have:=(iA h0).2.1;omega))).at (fun h0=>⟨Nat.zero_le _,by have:=(iA h0).2.2;omega⟩)
      have rE:Below wh.heap.size wh wh.drew:=(Below.refl _ _).drew;obtain⟨ra,sK,w1,da,dc,w2,nb,nA,oA,oB,rB,dC,bF⟩:=zH7 (vE.zOp rE) (iE.zOp rE) mI (by omega) 100 100;have jD:Below wh.heap.size wh w1:=zJ oB;have gA:Below wh.heap.size wh w2:=zJ rB;have cC:0<g.dn+L.length->wh.heap.size<=nb/\nb<w2.heap.size:=bF;have sI:=gA.size;have sC:yA w2 bn (off+i*8) (kb i) (kv i) (W.zOw i):=((((tD.out i aA).zOp dA).zOp mA).zOr vA (by
       have h3:=bB.out _ (Or.inr (Or.inr fB.out.1));exact pA _ (by omega) (by omega) (by omega) (fun hp=>gC.out.pr _ hp fB.out.1)) (fun h0=>by
       have h2:=fB.out.2 i aA h0;have h3:=bB.out _ (Or.inr (Or.inr h2));exact pA _ (by omega) (by omega) (by omega) (fun hp=>gC.out.pr _ hp h2))).zOp gA
      have mB:=((cE.out.zOp mA).turnedD vA (pA SB (by omega) (by omega) (by omega) (fun hp=>by have:=dD _ hp;omega)));obtain⟨-,ak,ck,fE,-,-⟩:=id sC.zO5;obtain⟨m5,kH⟩:=sC.c7;rw[fE]at m5;have m2:=sC.c3.zOq (b':=bn) (o':=off+i*8+7) (.slice da (g.dn+L.length) dc) (Or.inr (by omega));obtain⟨m3,pK⟩:=m2;have iA:bn<w5.heap.size:=(bB.out _ (Or.inr (Or.inr fB.out.1))).2;have kC:=zE.put w2 bn (off+i*8+7) (.slice da (g.dn+L.length) dc);have lA:=zB (show(fun w':World=>w'.cell? ⟨V,5,none⟩=some (.slice (some ⟨bn,off,none⟩) W.pn cn)/\w'.cell? ⟨SB,7,none⟩=some (.slice ga g.dn gc)) wh from⟨lC.2.2.2.2.2.1,mB.2.2.2.2.1⟩);have dB:=zB (show(fun w':World=>w'.cell? ⟨V,5,none⟩=some (.slice (some ⟨bn,off,none⟩) W.pn cn)/\w'.cell? ⟨SB,7,none⟩=some (.slice ga g.dn gc)) wh.drew from⟨lC.2.2.2.2.2.1,mB.2.2.2.2.1⟩);have bE:=zB (show(fun w':World=>w'.cell? ⟨V,5,none⟩=some (.slice (some ⟨bn,off,none⟩) W.pn cn)/\w'.cell? ⟨SB,7,none⟩=some (.slice ga g.dn gc)) (wh.drew.alloc (.cells #[] 99))from by
       have t:=zC wh.drew (.cells #[] 99);exact⟨(t.cell (zD dB.out.1)).trans dB.out.1,(t.cell (zD dB.out.2)).trans dB.out.2⟩)
      have eG:=zB (show(fun w':World=>w'.cell? ⟨V,5,none⟩=some (.slice (some ⟨bn,off,none⟩) W.pn cn)/\w'.cell? ⟨SB,7,none⟩=some (.slice ga g.dn gc)) w1 from⟨(jD.cell (zD lA.out.1)).trans lA.out.1,(jD.cell (zD lA.out.2)).trans lA.out.2⟩);have eB:=zB (show(fun w':World=>w'.cell? ⟨V,5,none⟩=some (.slice (some ⟨bn,off,none⟩) W.pn cn)/\w'.cell? ⟨SB,7,none⟩=some (.slice ga g.dn gc)) w2 from⟨(gA.cell (zD lA.out.1)).trans lA.out.1,(gA.cell (zD lA.out.2)).trans lA.out.2⟩);have vD:=zB (show(fun w':World=>w'.cell? ⟨V,5,none⟩=some (.slice (some ⟨bn,off,none⟩) W.pn cn)/\w'.cell? ⟨SB,7,none⟩=some (.slice ga g.dn gc)) (w2.setCell ⟨bn,off+i*8+7,none⟩ (.slice da (g.dn+L.length) dc))from⟨(kC.cell (zD eB.out.1) (by omega)).trans eB.out.1,(kC.cell (zD eB.out.2) (by omega)).trans eB.out.2⟩);have iG:=zB (vD.out.1);have tF:=zB (show(w2.setCell ⟨bn,off+i*8+7,none⟩ (.slice da (g.dn+L.length) dc)).cell? ⟨SB,3,none⟩=some (.int .i64 g.zO0)from(kC.cell (zD eB.out.2) (by omega)).trans ((gA.cell (zD mB.1.2.2.2.1)).trans mB.1.2.2.2.1));have sA:=zB nA;have tA:=zB oA;have eD:sdD W (W.zOw k) (W.zOw i).dn (W.zOw i).ds (W.zOw i).db=yr g.dn g.ds g.db ++ L:=(by unfold sdD sdO;rw[<-aD.out,<-HG.out,<-fF.out,pF.out]);have eY:sdY W (W.zOw k) (W.zOw i).dn (W.zOw i).ds (W.zOw i).db=Y:=(by unfold sdY;rw[<-aD.out,<-HG.out,<-fF.out,lG.out]);have HE:=zB (zM9 (w:=w) (V:=V) (SB:=SB) (base:=w4.heap.size) (k:=k) (gv:=.slice ga g.dn gc) HG.out (gC.out.zOp dA) (fun j hj=>by have:=bB.out j hj;omega) (by omega) kI (by omega) sG (fJ.out.zOp dA) eJ.out gJ.out aA mA vA lC (by rw[eY];exact jE) gA (by rw[eD];exact dC) (fun h0=>cC (by rw[eD,List.length_append,zAK]at h0;exact h0)) cE.out dG.out);rw[eY]at HE;have lD:(i:Int)<(W.pn:Int):=(by omega);clear vA lC jE pA dD aC vE iE nA oA oB rB dC bF cC sC mB fE kC jD;go_upto_region 26 with fail;refine wp_region_held_drew (S:=(fun w':World=>w'.cell? ⟨V,5,none⟩=some (.slice (some ⟨bn,off,none⟩) W.pn cn)/\w'.cell? ⟨SB,7,none⟩=some (.slice ga g.dn gc))) (by kernel_rfl) dB.out (fun hHeld=>?_);generalize wh.drew=q0 at hHeld dB bE sA ⊢;refine tk 0 (h:=tk 1 (h:=tk 2 (h:=tk 4 (h:=tk 5 (h:=tk 7 (h:=?_))))));refine rd [3] (rc (fun K hK=>?_) .nil);go_simp
      (try go_wp2_with fail)
      refine hK.out _ _ (bE.out) ?_;clear hK K hHeld;intro hHeld
      try simp only[Act.put,s1,s2,s3]
      refine rd [6] (rc (fun K hK=>?_) .nil);refine zM rfl (.tmp 127) (.tmp 129) 100 rfl _ _ _ rfl rfl sA.out ?_
      (try go_wp2_with fail)
      refine hK.out _ _ (eG.out) ?_;clear hK K hHeld;intro hHeld
      try simp only[Act.put,s1,s2,s3]
      refine rd [8] (rc (fun K hK=>?_) .nil);refine zM rfl (.tmp 130) (.tmp 131) 100 rfl _ _ _ rfl rfl tA.out ?_
      (try go_wp2_with fail)
      refine hK.out _ _ (eB.out) ?_;clear hK K hHeld;intro hHeld
      try simp only[Act.put,s1,s2,s3]
      refine tk 9 (h:=tk 10 (h:=?_));refine rd [11] (rc (fun K hK=>?_) .nil);go_simp
      (try go_wp2_with fail)
      refine hK.out _ _ (vD.out) ?_;clear hK K hHeld;intro hHeld
      try simp only[Act.put,s1,s2,s3]
      refine wpAnyH_done (by kernel_rfl) ?_ _;clear hHeld m5 kH;have v4:=iG.out;have p3:=tF.out;have vJ:(Y.length:Int)<1000:=(by omega);go_wp2_with fail;go_roundw
      case rel=>
       refine⟨i+1,(Y.length:Int),by omega,by go_num,by go_num,Or.inr (Or.inr ⟨i,tG,by omega,?_,?_⟩)⟩
       ·unfold zHA;rw[eY]
       ·unfold zHA;rw[eY];exact HE.out
      case measure=>simp[intOf];omega
     ·have gH:wr.cell? ⟨V,5,none⟩=some (.slice (some ⟨bn,off,none⟩) W.pn cn)/\wr.cell? ⟨bn,off+i*8+3,none⟩=some (.int .i64 (W.zOw i).zO0):=by
       rcases rA with h | ⟨i0,h0,hm,h⟩ | ⟨i0,h0,h1,hm,h⟩
       ·exact⟨(HV.out.zOp h.2.1).2.2.2.2.2.1,((tD.out i aA).zOp (zA gB h.2.1)).c3.1⟩
       ·obtain⟨_,_,_,_,_,h1,_,_,h4,_⟩:=h;obtain⟨b',tI,vI,gE,-,-⟩:=h4.zOw;obtain⟨-,a',c',ev,-,hx⟩:=id gE;obtain⟨tC,rfl,hs⟩:=hx (by show 0<W.pn;omega);simp only[Value.slice.injEq,Option.some.injEq,Addr.mk.injEq,and_true,true_and]at ev;obtain⟨⟨rfl,rfl⟩,rfl⟩:=ev;have hs:=hs i aA;exact⟨h1.2.2.2.2.2.1,hs.c3.1⟩
       ·obtain⟨_,_,_,_,_,h1,_,_,h4,_⟩:=h;obtain⟨b',tI,vI,gE,-,-⟩:=h4.zOw;obtain⟨-,a',c',ev,-,hx⟩:=id gE;obtain⟨tC,rfl,hs⟩:=hx (by show 0<W.pn;omega);simp only[Value.slice.injEq,Option.some.injEq,Addr.mk.injEq,and_true,true_and]at ev;obtain⟨⟨rfl,rfl⟩,rfl⟩:=ev;have hs:=hs i aA;have gK:(fun j=>j) i=i:=rfl;dsimp only at hs;rw[show zG9 W k i0 i=W.zOw i from if_neg (by omega)]at hs;exact⟨h1.2.2.2.2.2.1,hs.c3.1⟩
      obtain⟨v4,q2⟩:=gH;have HQ:=zB hq;have oD:=zB rA;have a1:((W.zOw i).zO0 == fA)=false:=beq_eq_false_iff_ne.2 hq;clear hq rA;go_wp2_with fail;clear v4 q2 a1;go_roundw
      case rel=>
       refine⟨i+1,m,by omega,by go_num,rfl,?_⟩;rcases oD.out with⟨h1,h2,i0,h3,h4⟩ | ⟨i0,h0,hm,h⟩ | ⟨i0,h0,h1,hm,h⟩
       ·refine Or.inl ⟨h1,h2,i0,h3,?_⟩;have h5:i≠i0:=fun e=>HQ.out (by rw[e];exact h3.2.1)
        omega
       ·exact Or.inr (Or.inl ⟨i0,h0,hm,h⟩)
       ·exact Or.inr (Or.inr ⟨i0,h0,by omega,hm,h⟩)
      case measure=>simp[intOf];omega
    ·obtain rfl:i=W.pn:=(by omega);have aK:∃W2:zH,SdF w wr V SB w4.heap.size (.slice (some ⟨sb,so,none⟩) W.sn sc) (.slice (some ⟨bn,off,none⟩) W.pn cn) (.slice ga g.dn gc) W W2 g/\W2.pn=W.pn/\W2.sn=W.sn/\W2.time=W.time/\W2.next=W.next/\((∃i,zHm W fA i/\(⟨{W2 with pn:=W2.pn - 1,zOw:=del W2.zOw k},0,m,0⟩:zCW)=⟨zOe W k i,0,((zHA W k i).length:Int),0⟩)\/∃i,zGS W fA i/\(⟨{W2 with pn:=W2.pn - 1,zOw:=del W2.zOw k},0,m,0⟩:zCW)=⟨zOf W k i,0,((zFX W k i).length:Int),0⟩):=by
      rcases rA with⟨h1,h2,i0,h3,h4⟩ | ⟨i0,h0,hm,h⟩ | ⟨i0,h0,h1,hm,h⟩
      ·exact absurd h3.1 (by omega)
      ·exact⟨_,h,rfl,rfl,rfl,rfl,Or.inr ⟨i0,h0,by rw[hm];rfl⟩⟩
      ·exact⟨_,h,rfl,rfl,rfl,rfl,Or.inl ⟨i0,h0,by rw[hm];rfl⟩⟩
     clear rA;obtain⟨W2,⟨y0,y1,P2,Q2,R2,iD,-,iI,oC,mD,fI⟩,e1,e2,e3,e4,hO⟩:=aK;obtain⟨ya,yc,yb,yd,rfl,rfl⟩:=oC.zOv.form;obtain⟨b',rD,iB,kE,gD,jC⟩:=oC.zOw;rw[e1]at kE gD jC;obtain⟨-,a',c',ev,fH,hx⟩:=id kE;obtain⟨tC,rfl,-⟩:=hx (by omega);simp only[Value.slice.injEq,Option.some.injEq,Addr.mk.injEq,and_true,true_and]at ev;obtain⟨⟨rfl,rfl⟩,rfl⟩:=ev;have iJ:=zB hO;have lB:=zB oC;have kA:=zB mD;have mJ:=zB kE;have gG:=zB gD;have aE:=zB jC;have dJ:=zB e1;have sD:=zB (And.intro e3 e4);have tJ:R2 bn:=jC _ (Or.inl ⟨by omega,rfl⟩);have mL:=mD bn (Or.inr (Or.inr tJ));have tE:∀i,i<W.pn->yA wr bn (off+i*8) (rD i) (iB i) (W2.zOw i):=fun i hi=>kE.nthE hi
     obtain⟨A2,iL,aJ⟩:∃A2,(if cn=k+1 then some (⟨bn,off,none⟩:Addr)else some ⟨bn,off+(k+1)*8,none⟩)=A2/\Hid (0<W.pn - (k+1)->A2=some ⟨bn,off+(k+1)*8,none⟩):=⟨_,rfl,fun h=>if_neg (by omega)⟩;have kD:Below wr.heap.size wr wr.drew:=(Below.refl _ _).drew;obtain⟨ra,rK,bL,da,eA,fC,oI,pI,lE,nE,sE,vB⟩:=zKX wr.drew bn off W.pn k cn (cn - (k+1)) (some ⟨bn,off,none⟩) A2 (fun i=>cellSnap W2.zOw iB (i / 8) (i % 8)) (fun i hi=>by
      have h:=tE (i / 8) (by omega);have h1:=(zLw h (i % 8) (by omega)).1;rw[show off+i / 8*8+i % 8=off+i by omega]at h1;exact⟨h1,by
       have h2:=zE6 h.zO5;unfold cellSnap;split<;>first | rfl | exact h2⟩) hk (by omega) (fun _=>rfl) aJ.out
     have mE:Below wr.heap.size wr bL:=zJ lE;have pB:Below wr.heap.size wr fC:=zJ nE;have iK:=pB.size;have dE:=zB (iD.zOp kD);have bD:=zB ((iD.zOp kD).zOp (zC wr.drew (.cells #[] 111)));have tH:=zB (iD.zOp mE);have cB:=zB (iD.zOp pB);have sA:=zB oI;have tA:=zB pI;have cJ:=zB vB;have kJ:=zB iI;have nH:=zB fI;have rL:k<=cn:=(by omega);have sL:k<=W.pn:=(by omega);have tL:k+1<=W.pn:=(by omega);have bK:k+1<=cn:=(by omega);have cL:(0:Int)<=(k:Int):=(by omega);have dL:(0:Int)<=(k:Int)+1:=(by omega);have eL:(k:Int)+1<=(W.pn:Int):=(by omega);have fL:(k:Int)<=(W.pn:Int):=(by omega);have gL:(k:Int)<=(cn:Int):=(by omega);have aM:IntKind.i64.wrap ((k:Int)+1)=((k+1:Nat):Int):=by first | (rw[zBd (by omega) (by omega)];rfl) | (rw[zBd _ (by omega) (by omega)];rfl)
     have lL:=iD.1.lt;obtain⟨vx,-⟩:=iD.2.2.2.2.2;clear oI pI vB oC mD kE gD jC hO e1 e2 e3 e4 tE lE nE iD iI hx fI;go_upto_region 28 with fail;clear vx;refine wp_region_held_drew (S:=fun _=>True) (by kernel_rfl) trivial (fun hHeld=>?_);generalize wr.drew=q1 at hHeld dE bD sA kD ⊢
     refine' zCu (fun hfin=>_) _
     rotate_left
     ·skip;refine tk 1 (h:=tk 3 (h:=tk 6 (h:=tk 8 (h:=tk 9 (h:=?_)))));refine rd [0,2,7] (rc (fun K hK=>?_) (rc (fun K hK=>?_) (rc (fun K hK=>?_) .nil)))
      ·go_simp
       (try go_wp2_with fail)
       refine hK.out _ _ (trivial) ?_;clear hK K;intro hHeld
       try simp only[Act.put,s1,s2,s3]
       refine rd [2,7] (rc (fun K hK=>?_) (rc (fun K hK=>?_) .nil))
       ·obtain⟨-,-,-,-,-,⟨cA,-⟩⟩:=bD.out;go_simp
        (try go_wp2_with fail)
        refine hK.out _ _ (trivial) ?_;clear hK K;intro hHeld
        try simp only[Act.put,s1,s2,s3]
        clear cA;refine tk 4 (h:=?_);refine rd [5,7] (rc (fun K hK=>?_) (rc (fun K hK=>?_) .nil))
        ·refine zM rfl (.tmp 142) (.tmp 146) 38 rfl _ _ _ rfl rfl sA.out ?_
         (try go_wp2_with fail)
         refine hK.out _ _ (trivial) ?_;clear hK K;intro hHeld
         try simp only[Act.put,s1,s2,s3]
         refine rd [7] (rc (fun K hK=>?_) .nil);obtain⟨-,-,-,-,-,⟨cA,-⟩⟩:=tH.out;go_simp
         (try go_wp2_with fail)
         refine hK.out _ _ (trivial) ?_;clear hK K;intro hHeld
         try simp only[Act.put,s1,s2,s3]
         clear cA;refine tk 10 (h:=?_);refine rd [11] (rc (fun K hK=>?_) .nil);refine zM rfl (.tmp 147) (.tmp 152) 38 rfl _ _ _ rfl rfl tA.out ?_
         (try go_wp2_with fail)
         refine hK.out _ _ (trivial) ?_;clear hK K;intro hHeld
         try simp only[Act.put,s1,s2,s3]
         refine tk 12 (h:=?_);refine rd [13] (rc (fun K hK=>?_) .nil);obtain⟨-,-,-,-,-,⟨cA,aB⟩⟩:=cB.out;go_simp
         (try go_wp2_with fail)
         refine hK.out _ _ (trivial) ?_;clear hK K;intro hHeld
         try simp only[Act.put,s1,s2,s3]
         clear cA aB;refine wpAnyH_done (by kernel_rfl) ?_ _;exact hfin.out
        ·obtain⟨-,-,-,-,-,⟨cA,-⟩⟩:=bD.out;go_simp
         (try go_wp2_with fail)
         refine hK.out _ _ (trivial) ?_;clear hK K;intro hHeld
         try simp only[Act.put,s1,s2,s3]
         clear cA;refine tk 10 (h:=?_);refine rd [5] (rc (fun K hK=>?_) .nil);refine zM rfl (.tmp 142) (.tmp 146) 38 rfl _ _ _ rfl rfl sA.out ?_
         (try go_wp2_with fail)
         refine hK.out _ _ (trivial) ?_;clear hK K;intro hHeld
         try simp only[Act.put,s1,s2,s3]
         refine rd [11] (rc (fun K hK=>?_) .nil);refine zM rfl (.tmp 147) (.tmp 152) 38 rfl _ _ _ rfl rfl tA.out ?_
         (try go_wp2_with fail)
         refine hK.out _ _ (trivial) ?_;clear hK K;intro hHeld
         try simp only[Act.put,s1,s2,s3]
         refine tk 12 (h:=?_);refine rd [13] (rc (fun K hK=>?_) .nil);obtain⟨-,-,-,-,-,⟨cA,aB⟩⟩:=cB.out;go_simp
         (try go_wp2_with fail)
         refine hK.out _ _ (trivial) ?_;clear hK K;intro hHeld
         try simp only[Act.put,s1,s2,s3]
         clear cA aB;refine wpAnyH_done (by kernel_rfl) ?_ _;exact hfin.out
       ·obtain⟨-,-,-,-,-,⟨cA,-⟩⟩:=bD.out;go_simp
        (try go_wp2_with fail)
        refine hK.out _ _ (trivial) ?_;clear hK K;intro hHeld
        try simp only[Act.put,s1,s2,s3]
        clear cA;refine tk 10 (h:=?_);refine rd [2] (rc (fun K hK=>?_) .nil);obtain⟨-,-,-,-,-,⟨cA,-⟩⟩:=bD.out;go_simp
        (try go_wp2_with fail)
        refine hK.out _ _ (trivial) ?_;clear hK K;intro hHeld
        try simp only[Act.put,s1,s2,s3]
        clear cA;refine tk 4 (h:=?_);refine rd [5] (rc (fun K hK=>?_) .nil);refine zM rfl (.tmp 142) (.tmp 146) 38 rfl _ _ _ rfl rfl sA.out ?_
        (try go_wp2_with fail)
        refine hK.out _ _ (trivial) ?_;clear hK K;intro hHeld
        try simp only[Act.put,s1,s2,s3]
        refine rd [11] (rc (fun K hK=>?_) .nil);refine zM rfl (.tmp 147) (.tmp 152) 38 rfl _ _ _ rfl rfl tA.out ?_
        (try go_wp2_with fail)
        refine hK.out _ _ (trivial) ?_;clear hK K;intro hHeld
        try simp only[Act.put,s1,s2,s3]
        refine tk 12 (h:=?_);refine rd [13] (rc (fun K hK=>?_) .nil);obtain⟨-,-,-,-,-,⟨cA,aB⟩⟩:=cB.out;go_simp
        (try go_wp2_with fail)
        refine hK.out _ _ (trivial) ?_;clear hK K;intro hHeld
        try simp only[Act.put,s1,s2,s3]
        clear cA aB;refine wpAnyH_done (by kernel_rfl) ?_ _;exact hfin.out
      ·obtain⟨-,-,-,-,-,⟨cA,-⟩⟩:=dE.out;go_simp
       (try go_wp2_with fail)
       refine hK.out _ _ (trivial) ?_;clear hK K;intro hHeld
       try simp only[Act.put,s1,s2,s3]
       clear cA;refine tk 4 (h:=?_);refine rd [0,7] (rc (fun K hK=>?_) (rc (fun K hK=>?_) .nil))
       ·go_simp
        (try go_wp2_with fail)
        refine hK.out _ _ (trivial) ?_;clear hK K;intro hHeld
        try simp only[Act.put,s1,s2,s3]
        refine rd [5,7] (rc (fun K hK=>?_) (rc (fun K hK=>?_) .nil))
        ·refine zM rfl (.tmp 142) (.tmp 146) 38 rfl _ _ _ rfl rfl sA.out ?_
         (try go_wp2_with fail)
         refine hK.out _ _ (trivial) ?_;clear hK K;intro hHeld
         try simp only[Act.put,s1,s2,s3]
         refine rd [7] (rc (fun K hK=>?_) .nil);obtain⟨-,-,-,-,-,⟨cA,-⟩⟩:=tH.out;go_simp
         (try go_wp2_with fail)
         refine hK.out _ _ (trivial) ?_;clear hK K;intro hHeld
         try simp only[Act.put,s1,s2,s3]
         clear cA;refine tk 10 (h:=?_);refine rd [11] (rc (fun K hK=>?_) .nil);refine zM rfl (.tmp 147) (.tmp 152) 38 rfl _ _ _ rfl rfl tA.out ?_
         (try go_wp2_with fail)
         refine hK.out _ _ (trivial) ?_;clear hK K;intro hHeld
         try simp only[Act.put,s1,s2,s3]
         refine tk 12 (h:=?_);refine rd [13] (rc (fun K hK=>?_) .nil);obtain⟨-,-,-,-,-,⟨cA,aB⟩⟩:=cB.out;go_simp
         (try go_wp2_with fail)
         refine hK.out _ _ (trivial) ?_;clear hK K;intro hHeld
         try simp only[Act.put,s1,s2,s3]
         clear cA aB;refine wpAnyH_done (by kernel_rfl) ?_ _;exact hfin.out
        ·obtain⟨-,-,-,-,-,⟨cA,-⟩⟩:=bD.out;go_simp
         (try go_wp2_with fail)
         refine hK.out _ _ (trivial) ?_;clear hK K;intro hHeld
         try simp only[Act.put,s1,s2,s3]
         clear cA;refine tk 10 (h:=?_);refine rd [5] (rc (fun K hK=>?_) .nil);refine zM rfl (.tmp 142) (.tmp 146) 38 rfl _ _ _ rfl rfl sA.out ?_
         (try go_wp2_with fail)
         refine hK.out _ _ (trivial) ?_;clear hK K;intro hHeld
         try simp only[Act.put,s1,s2,s3]
         refine rd [11] (rc (fun K hK=>?_) .nil);refine zM rfl (.tmp 147) (.tmp 152) 38 rfl _ _ _ rfl rfl tA.out ?_
         (try go_wp2_with fail)
         refine hK.out _ _ (trivial) ?_;clear hK K;intro hHeld
         try simp only[Act.put,s1,s2,s3]
         refine tk 12 (h:=?_);refine rd [13] (rc (fun K hK=>?_) .nil);obtain⟨-,-,-,-,-,⟨cA,aB⟩⟩:=cB.out;go_simp
         (try go_wp2_with fail)
         refine hK.out _ _ (trivial) ?_;clear hK K;intro hHeld
         try simp only[Act.put,s1,s2,s3]
         clear cA aB;refine wpAnyH_done (by kernel_rfl) ?_ _;exact hfin.out
       ·obtain⟨-,-,-,-,-,⟨cA,-⟩⟩:=dE.out;go_simp
        (try go_wp2_with fail)
        refine hK.out _ _ (trivial) ?_;clear hK K;intro hHeld
        try simp only[Act.put,s1,s2,s3]
        clear cA;refine tk 10 (h:=?_);refine rd [0] (rc (fun K hK=>?_) .nil);go_simp
        (try go_wp2_with fail)
        refine hK.out _ _ (trivial) ?_;clear hK K;intro hHeld
        try simp only[Act.put,s1,s2,s3]
        refine rd [5] (rc (fun K hK=>?_) .nil);refine zM rfl (.tmp 142) (.tmp 146) 38 rfl _ _ _ rfl rfl sA.out ?_
        (try go_wp2_with fail)
        refine hK.out _ _ (trivial) ?_;clear hK K;intro hHeld
        try simp only[Act.put,s1,s2,s3]
        refine rd [11] (rc (fun K hK=>?_) .nil);refine zM rfl (.tmp 147) (.tmp 152) 38 rfl _ _ _ rfl rfl tA.out ?_
        (try go_wp2_with fail)
        refine hK.out _ _ (trivial) ?_;clear hK K;intro hHeld
        try simp only[Act.put,s1,s2,s3]
        refine tk 12 (h:=?_);refine rd [13] (rc (fun K hK=>?_) .nil);obtain⟨-,-,-,-,-,⟨cA,aB⟩⟩:=cB.out;go_simp
        (try go_wp2_with fail)
        refine hK.out _ _ (trivial) ?_;clear hK K;intro hHeld
        try simp only[Act.put,s1,s2,s3]
        clear cA aB;refine wpAnyH_done (by kernel_rfl) ?_ _;exact hfin.out
      ·obtain⟨-,-,-,-,-,⟨cA,-⟩⟩:=dE.out;go_simp
       (try go_wp2_with fail)
       refine hK.out _ _ (trivial) ?_;clear hK K;intro hHeld
       try simp only[Act.put,s1,s2,s3]
       clear cA;refine tk 10 (h:=?_);refine rd [0,2] (rc (fun K hK=>?_) (rc (fun K hK=>?_) .nil))
       ·go_simp
        (try go_wp2_with fail)
        refine hK.out _ _ (trivial) ?_;clear hK K;intro hHeld
        try simp only[Act.put,s1,s2,s3]
        refine rd [2] (rc (fun K hK=>?_) .nil);obtain⟨-,-,-,-,-,⟨cA,-⟩⟩:=bD.out;go_simp
        (try go_wp2_with fail)
        refine hK.out _ _ (trivial) ?_;clear hK K;intro hHeld
        try simp only[Act.put,s1,s2,s3]
        clear cA;refine tk 4 (h:=?_);refine rd [5] (rc (fun K hK=>?_) .nil);refine zM rfl (.tmp 142) (.tmp 146) 38 rfl _ _ _ rfl rfl sA.out ?_
        (try go_wp2_with fail)
        refine hK.out _ _ (trivial) ?_;clear hK K;intro hHeld
        try simp only[Act.put,s1,s2,s3]
        refine rd [11] (rc (fun K hK=>?_) .nil);refine zM rfl (.tmp 147) (.tmp 152) 38 rfl _ _ _ rfl rfl tA.out ?_
        (try go_wp2_with fail)
        refine hK.out _ _ (trivial) ?_;clear hK K;intro hHeld
        try simp only[Act.put,s1,s2,s3]
        refine tk 12 (h:=?_);refine rd [13] (rc (fun K hK=>?_) .nil);obtain⟨-,-,-,-,-,⟨cA,aB⟩⟩:=cB.out;go_simp
        (try go_wp2_with fail)
        refine hK.out _ _ (trivial) ?_;clear hK K;intro hHeld
        try simp only[Act.put,s1,s2,s3]
        clear cA aB;refine wpAnyH_done (by kernel_rfl) ?_ _;exact hfin.out
       ·obtain⟨-,-,-,-,-,⟨cA,-⟩⟩:=dE.out;go_simp
        (try go_wp2_with fail)
        refine hK.out _ _ (trivial) ?_;clear hK K;intro hHeld
        try simp only[Act.put,s1,s2,s3]
        clear cA;refine tk 4 (h:=?_);refine rd [0] (rc (fun K hK=>?_) .nil);go_simp
        (try go_wp2_with fail)
        refine hK.out _ _ (trivial) ?_;clear hK K;intro hHeld
        try simp only[Act.put,s1,s2,s3]
        refine rd [5] (rc (fun K hK=>?_) .nil);refine zM rfl (.tmp 142) (.tmp 146) 38 rfl _ _ _ rfl rfl sA.out ?_
        (try go_wp2_with fail)
        refine hK.out _ _ (trivial) ?_;clear hK K;intro hHeld
        try simp only[Act.put,s1,s2,s3]
        refine rd [11] (rc (fun K hK=>?_) .nil);refine zM rfl (.tmp 147) (.tmp 152) 38 rfl _ _ _ rfl rfl tA.out ?_
        (try go_wp2_with fail)
        refine hK.out _ _ (trivial) ?_;clear hK K;intro hHeld
        try simp only[Act.put,s1,s2,s3]
        refine tk 12 (h:=?_);refine rd [13] (rc (fun K hK=>?_) .nil);obtain⟨-,-,-,-,-,⟨cA,aB⟩⟩:=cB.out;go_simp
        (try go_wp2_with fail)
        refine hK.out _ _ (trivial) ?_;clear hK K;intro hHeld
        try simp only[Act.put,s1,s2,s3]
        clear cA aB;refine wpAnyH_done (by kernel_rfl) ?_ _;exact hfin.out
     go_upto_region 29 with fail;have bH:=zE.put fC V 5 (.slice da (W.pn - 1) eA);have pD:zE (fun i=>i=V) wr (fC.setCell ⟨V,5,none⟩ (.slice da (W.pn - 1) eA)):=(zE.zOs pB).trans bH;have oK:=bH.size;have vH:=zB (show za (fC.setCell ⟨V,5,none⟩ (.slice da (W.pn - 1) eA)) V (.slice ya W2.zOv.n yc) (.slice yb W2.zOv.hn yd) (.int .i64 W.time) (.int .i64 W.next) (.slice (some ⟨sb,so,none⟩) W.sn sc) (.slice da (W.pn - 1) eA)from⟨cB.out.1.zOq _ (Or.inr (by decide)),cB.out.2.1.zOq _ (Or.inr (by decide)),cB.out.2.2.1.zOq _ (Or.inr (by decide)),cB.out.2.2.2.1.zOq _ (Or.inr (by decide)),cB.out.2.2.2.2.1.zOq _ (Or.inr (by decide)),cB.out.2.2.2.2.2.set _⟩);have jB:=zB (kJ.out.zOr pD (fun h=>by omega));have kB:Below w.heap.size w (fC.setCell ⟨V,5,none⟩ (.slice da (W.pn - 1) eA)):=nH.out.trans (pD.zOp (B:=w.heap.size) nH.out.size (fun i h=>by omega));obtain⟨g',hg⟩:∃g',0<W.pn - 1->da=some ⟨g',0,none⟩/\wr.heap.size<=g'/\g'<fC.heap.size/\∀i,i<(W.pn - 1)*8->zT fC g' i (if i<k*8 then(fun i=>cellSnap W2.zOw iB (i / 8) (i % 8)) i else(fun i=>cellSnap W2.zOw iB (i / 8) (i % 8)) (i+8)):=by
      by_cases h0:0<W.pn - 1
      ·obtain⟨g,h1,h2,h3,h4⟩:=cJ.out h0;exact⟨g,fun _=>⟨h1,h2,h3,h4⟩⟩
      ·exact⟨0,fun h=>absurd h h0⟩
     obtain⟨g2,mF⟩:∃g2,(0<W.pn - 1->g2=g')/\(¬0<W.pn - 1->g2=wr.heap.size):=by
      by_cases h0:0<W.pn - 1
      ·exact⟨g',fun _=>rfl,fun h=>absurd h0 h⟩
      ·exact⟨wr.heap.size,fun h=>absurd h h0,fun _=>rfl⟩
     have aC:∀i,i<W.pn->0<(W2.zOw i).dn->¬rD i=V/\rD i≠g2:=fun i hi h0=>by
      have:=kA.out _ (Or.inr (Or.inr (aE.out _ (Or.inr ⟨i,hi,h0,rfl⟩))));refine⟨this.2.2.1,?_⟩;by_cases h1:0<W.pn - 1
      ·rw[mF.1 h1];have:=(hg h1).2.1;omega
      ·rw[mF.2 h1];omega
     obtain⟨d1,d2,d3⟩:=zKb (g:=g2) (a2:=da) (cap:=eA) mJ.out gG.out hk pD aC sE (fun h0=>by
      obtain⟨e1,e2,e3,e4⟩:=hg h0;rw[mF.1 h0];refine⟨e1,fun i hi r hr=>?_⟩;have h:=(e4 (i*8+r) (by omega)).zOq (b':=V) (o':=5) (.slice da (W.pn - 1) eA) (Or.inl (by omega));dsimp only at h;by_cases e:i<k
      ·rw[if_pos (by omega),show(i*8+r) / 8=i by omega,show(i*8+r) % 8=r by omega]at h;have ec:cellSnap (del W2.zOw k) (del iB k) i r=cellSnap W2.zOw iB i r:=(by unfold cellSnap;rw[show del W2.zOw k i=W2.zOw i from if_pos e,show del iB k i=iB i from if_pos e]);rw[ec];exact h
      ·rw[if_neg (by omega),show(i*8+r+8) / 8=i+1 by omega,show(i*8+r+8) % 8=r by omega]at h;have ec:cellSnap (del W2.zOw k) (del iB k) i r=cellSnap W2.zOw iB (i+1) r:=(by unfold cellSnap;rw[show del W2.zOw k i=W2.zOw (i+1)from if_neg e,show del iB k i=iB (i+1)from if_neg e]);rw[ec];exact h)
     have pH:=zB (show zf (fC.setCell ⟨V,5,none⟩ (.slice da (W.pn - 1) eA)) w4.heap.size (fC.setCell ⟨V,5,none⟩ (.slice da (W.pn - 1) eA)).heap.size (.slice ya W2.zOv.n yc) (.slice yb W2.zOv.hn yd) (.slice (some ⟨sb,so,none⟩) W.sn sc) (.slice da (W.pn - 1) eA) {W2 with pn:=W2.pn - 1,zOw:=del W2.zOw k}from by
      have eK:∀j,zAZ g2 (del rD k) (W.pn - 1) (del W2.zOw k) j->R2 j\/(wr.heap.size<=j/\j<fC.heap.size):=fun j hj=>by
       rcases d3 j hj with⟨h0,rfl⟩ | ⟨i,hi,h0,rfl⟩
       ·rw[mF.1 h0];exact Or.inr ⟨(hg h0).2.1,(hg h0).2.2.1⟩
       ·exact Or.inl (aE.out _ (Or.inr ⟨i,hi,h0,rfl⟩))
      have e1:=dJ.out;refine⟨P2,Q2,_,⟨lB.out.zOv.zOr pD (fun i hi e=>(kA.out i (Or.inl hi)).2.2.1 e),lB.out.zOy.zOr pD (fun i hi e=>(kA.out i (Or.inr (Or.inl hi))).2.2.1 e),⟨g2,del rD k,del iB k,by show qI _ _ _ _ _ (W2.pn - 1) _;rw[e1];exact d1,by show yF _ (W2.pn - 1) _;rw[e1];exact d2,fun j hj=>eK j (by have h:zAZ g2 (del rD k) (W2.pn - 1) (del W2.zOw k) j:=hj;rw[e1]at h;exact h)⟩,lB.out.pq,fun i hi hq=>?_,fun i hi hq=>?_⟩,fun i hi=>?_⟩
      ·rcases hq with hq | hq
       ·exact lB.out.pr i hi hq
       ·have:=kA.out i (Or.inl hi);omega
      ·rcases hq with hq | hq
       ·exact lB.out.qr i hi hq
       ·have:=kA.out i (Or.inr (Or.inl hi));omega
      ·rcases hi with h | h | h | h
       ·have:=kA.out i (Or.inl h);omega
       ·have:=kA.out i (Or.inr (Or.inl h));omega
       ·have:=kA.out i (Or.inr (Or.inr h));omega
       ·omega)
     clear pD bH d1 d2 d3;generalize (fC.setCell ⟨V,5,none⟩ (.slice da (W.pn - 1) eA))=wz at vH jB oK kB pH ⊢;obtain⟨⟨v0,-⟩,⟨v1,-⟩,⟨v2,-⟩,⟨v3,-⟩,⟨v4,-⟩,⟨v5,-⟩⟩:=vH.out;obtain⟨⟨r0,g0⟩,⟨r1,g1⟩,⟨r2,g2⟩,⟨r3,g3⟩,⟨r4,g4⟩,⟨r5,g5⟩,⟨r6,g6⟩,⟨r7,g7⟩,⟨r8,g8⟩⟩:=jB.out;go_wp2_with fail;have bA:=jB.out.put (.slice ya W2.zOv.n yc) (.slice yb W2.zOv.hn yd) (.int .i64 W.time) (.int .i64 W.next) (.slice (some ⟨sb,so,none⟩) W.sn sc) (.slice da (W.pn - 1) eA) (.int .i64 0) (.int .i64 m) (.int .i64 0);have hT:=zE.put9 wz (w.heap.size+1) (.slice ya W2.zOv.n yc) (.slice yb W2.zOv.hn yd) (.int .i64 W.time) (.int .i64 W.next) (.slice (some ⟨sb,so,none⟩) W.sn sc) (.slice da (W.pn - 1) eA) (.int .i64 0) (.int .i64 m) (.int .i64 0);clear r0 g0 r1 g1 r2 g2 r3 g3 r4 g4 r5 g5 r6 g6 r7 g7 r8 g8;refine bodyPost_ret (v:=.agg #[.slice ya W2.zOv.n yc,.slice yb W2.zOv.hn yd,.int .i64 W.time,.int .i64 W.next,.slice (some ⟨sb,so,none⟩) W.sn sc,.slice da (W.pn - 1) eA,.int .i64 0,.int .i64 m,.int .i64 0]) (by simp[results,Tryz.results26,go_sem,bA.1.1,bA.2.1.1,bA.2.2.1.1,bA.2.2.2.1.1,bA.2.2.2.2.1.1,bA.2.2.2.2.2.1.1,bA.2.2.2.2.2.2.1.1,bA.2.2.2.2.2.2.2.1.1,bA.2.2.2.2.2.2.2.2.1]) rfl ⟨none,⟨{W2 with pn:=W2.pn - 1,zOw:=del W2.zOw k},0,m,0⟩,Or.inr (Or.inr (Or.inr ⟨HL.out,Hw.out,mG.out,jJ.out,rfl⟩)),fun _=>⟨k,HK.out,iJ.out⟩,?_⟩;show zw ⟨{W2 with pn:=W2.pn - 1,zOw:=del W2.zOw k},0,m,0⟩ w _ _;refine⟨_,_,_,_,?_,(pH.out.zOr hT (fun i e=>by omega)).zOu (by omega) hT.size,kB.trans (hT.zOp (B:=w.heap.size) kB.size (fun i e=>by omega))⟩;unfold zIK;rw[show({W2 with pn:=W2.pn - 1,zOw:=del W2.zOw k}:zH).time=W.time from sD.out.1,show({W2 with pn:=W2.pn - 1,zOw:=del W2.zOw k}:zH).next=W.next from sD.out.2]
end Go.Proofs.YtgabgheflgjgiaaGreatDoor
