/- A part of the proof. -/
import Derived.Test.YtgabgheflgjgiaaGreatDoorV41
set_option linter.unusedVariables false
set_option maxRecDepth 20000
set_option maxHeartbeats 4000000
namespace Go.Proofs.YtgabgheflgjgiaaGreatDoor
open Go.RowKit
theorem zD4(v0 v1 v2 v3:Value)(lo hi:Nat)(W:zH)(fA:Int)(w:World)(h:zr w lo hi v0 v1 v2 v3 W)(b1:qA W.zOa<=1048576)(b2:W.sn<=1048576)(b3:W.pn<=1048576)(b4:zAs W) :
  Calls Tryz.prog 26 #[qT v0 v1 v2 v3 W,.int .i64 fA] w (qw W fA w):=by
 have Hp:=zB h;obtain⟨a0,c0,a1,c1,a2,c2,a3,c3,rfl,rfl,rfl,rfl⟩:=h.form;have m1:=h.zOd.1;have m2:=h.zOb.1;unfold maxLen at m1 m2;clear h;have iI:=zC w (.cells #[.slice a0 W.zOa.n c0,.slice a1 W.zOa.hn c1,.int .i64 W.time,.int .i64 W.next,.slice a2 W.sn c2,.slice a3 W.pn c3] 40);have aH:=zC (w.alloc (.cells #[.slice a0 W.zOa.n c0,.slice a1 W.zOa.hn c1,.int .i64 W.time,.int .i64 W.next,.slice a2 W.sn c2,.slice a3 W.pn c3] 40)) (.cells #[.slice none 0 0,.slice none 0 0,.int .i64 0,.int .i64 0,.slice none 0 0,.slice none 0 0,.int .i64 0,.int .i64 0,.int .i64 0] 71);have hb:=zA iI aH;have HX:=zB ((za.zOY w (.slice a0 W.zOa.n c0) (.slice a1 W.zOa.hn c1) (.int .i64 W.time) (.int .i64 W.next) (.slice a2 W.sn c2) (.slice a3 W.pn c3) 40).zOU aH);have hr:=zBg.zOY (w.alloc (.cells #[.slice a0 W.zOa.n c0,.slice a1 W.zOa.hn c1,.int .i64 W.time,.int .i64 W.next,.slice a2 W.sn c2,.slice a3 W.pn c3] 40)) (.slice none 0 0) (.slice none 0 0) (.int .i64 0) (.int .i64 0) (.slice none 0 0) (.slice none 0 0) (.int .i64 0) (.int .i64 0) (.int .i64 0) 71;rw[World.size_alloc]at hr;have HR:=zB hr;have hz:((w.alloc (.cells #[.slice a0 W.zOa.n c0,.slice a1 W.zOa.hn c1,.int .i64 W.time,.int .i64 W.next,.slice a2 W.sn c2,.slice a3 W.pn c3] 40)).alloc (.cells #[.slice none 0 0,.slice none 0 0,.int .i64 0,.int .i64 0,.slice none 0 0,.slice none 0 0,.int .i64 0,.int .i64 0,.int .i64 0] 71)).heap.size>=w.heap.size+2:=by rw[World.size_alloc,World.size_alloc];omega
 clear hr;have HL:=zB (show ¬(∃i,i<0/\8000<((fun (_:Nat)=>(⟨#[]⟩:ByteArray)) i).size)from fun ⟨i,hi,_⟩=>absurd hi (Nat.not_lt_zero _));have jG:=zB (show ¬(∃i,i<0/\¬qV ((fun _=>⟨#[]⟩) i))from fun ⟨i,hi,_⟩=>absurd hi (Nat.not_lt_zero _));go_enter Tryz.func26,Tryz.ntmps26;go_upto_region 1 with fail;generalize (w.alloc (.cells #[.slice a0 W.zOa.n c0,.slice a1 W.zOa.hn c1,.int .i64 W.time,.int .i64 W.next,.slice a2 W.sn c2,.slice a3 W.pn c3] 40)).alloc (.cells #[.slice none 0 0,.slice none 0 0,.int .i64 0,.int .i64 0,.slice none 0 0,.slice none 0 0,.int .i64 0,.int .i64 0,.int .i64 0] 71)=W1 at hb HX HR hz ⊢;clear iI aH;obtain⟨⟨x0,-⟩,⟨x1,-⟩,⟨x2,-⟩,⟨x3,-⟩,⟨x4,-⟩,⟨x5,-⟩⟩:=HX.out;go_wp2_with fail;clear x0 x1 x2 x3 x4 x5;refine(zv _ _ _ _ lo hi W W1 (Hp.out.zOU hb)).mono ?_;rintro e w2 ⟨⟨t,rfl,ht⟩,gA⟩;have kG:=zA hb gA;have tA:=zB (HR.out.zOU gA);have sH:=zB (HX.out.zOU gA);have hz2:=gA.size;clear gA;by_cases hw:zBp W;rotate_left
 ·obtain rfl:t=false:=zP ht hw;have Hw:=zB hw;clear ht hw;go_wp2_with fail;refine(zR 1 _).mono ?_;rintro e wz ⟨rfl,tC⟩;have kB:=zA kG tC;have jB:=zB (tA.out.zOU tC);obtain⟨⟨r0,g0⟩,⟨r1,g1⟩,⟨r2,g2⟩,⟨r3,g3⟩,⟨r4,g4⟩,⟨r5,g5⟩,⟨r6,g6⟩,⟨r7,g7⟩,⟨r8,g8⟩⟩:=jB.out;go_wp2_with fail;have bA:=jB.out.put (.slice none 0 0) (.slice none 0 0) (.int .i64 0) (.int .i64 0) (.slice none 0 0) (.slice none 0 0) (.int .i64 0) (.int .i64 0) (.int .i64 1);have hT:=zE.put9 wz (w.heap.size+1) (.slice none 0 0) (.slice none 0 0) (.int .i64 0) (.int .i64 0) (.slice none 0 0) (.slice none 0 0) (.int .i64 0) (.int .i64 0) (.int .i64 1);clear r0 g0 r1 g1 r2 g2 r3 g3 r4 g4 r5 g5 r6 g6 r7 g7 r8 g8;refine bodyPost_ret (v:=.agg #[.slice none 0 0,.slice none 0 0,.int .i64 0,.int .i64 0,.slice none 0 0,.slice none 0 0,.int .i64 0,.int .i64 0,.int .i64 1]) (by simp[results,Tryz.results26,go_sem,bA.1.1,bA.2.1.1,bA.2.2.1.1,bA.2.2.2.1.1,bA.2.2.2.2.1.1,bA.2.2.2.2.2.1.1,bA.2.2.2.2.2.2.1.1,bA.2.2.2.2.2.2.2.1.1,bA.2.2.2.2.2.2.2.2.1]) rfl (qw.ill (i:=0) (Or.inr (Or.inl ⟨HL.out,Or.inl (fun h=>Hw.out ((qM W).1 h)),rfl⟩)) ?_);exact⟨_,_,_,_,rfl,zi,kB.trans (hT.zOU (B:=w.heap.size) kB.size (fun k e=>by omega))⟩
 obtain rfl:t=true:=ht.2 hw;have cF:=zB hw;have Hw:=zB ((qM W).2 hw);clear ht hw;obtain⟨⟨x0,-⟩,⟨x1,-⟩,⟨x2,-⟩,⟨x3,-⟩,⟨x4,-⟩,⟨x5,-⟩⟩:=sH.out;go_wp2_with fail;clear x0 x1 x2 x3 x4 x5;refine(zm _ _ _ _ lo hi W fA _ (Hp.out.zOU kG)).mono ?_;rintro e w3 ⟨r,rfl,hF,mE⟩;have lG:=zA kG mE;have nH:=zB (tA.out.zOU mE);have tH:=zB (sH.out.zOU mE);have hz3:=mE.size;clear mE;rcases hF with⟨k,hk,rG,aF,rfl⟩ | ⟨pA,rfl⟩;rotate_left
 ·have lJ:=zB pA;clear pA;go_wp2_with fail;refine(zR 4 _).mono ?_;rintro e wz ⟨rfl,tC⟩;have kB:=zA lG tC;have jB:=zB (nH.out.zOU tC);obtain⟨⟨r0,g0⟩,⟨r1,g1⟩,⟨r2,g2⟩,⟨r3,g3⟩,⟨r4,g4⟩,⟨r5,g5⟩,⟨r6,g6⟩,⟨r7,g7⟩,⟨r8,g8⟩⟩:=jB.out;go_wp2_with fail;have bA:=jB.out.put (.slice none 0 0) (.slice none 0 0) (.int .i64 0) (.int .i64 0) (.slice none 0 0) (.slice none 0 0) (.int .i64 0) (.int .i64 0) (.int .i64 4);have hT:=zE.put9 wz (w.heap.size+1) (.slice none 0 0) (.slice none 0 0) (.int .i64 0) (.int .i64 0) (.slice none 0 0) (.slice none 0 0) (.int .i64 0) (.int .i64 0) (.int .i64 4);clear r0 g0 r1 g1 r2 g2 r3 g3 r4 g4 r5 g5 r6 g6 r7 g7 r8 g8;refine bodyPost_ret (v:=.agg #[.slice none 0 0,.slice none 0 0,.int .i64 0,.int .i64 0,.slice none 0 0,.slice none 0 0,.int .i64 0,.int .i64 0,.int .i64 4]) (by simp[results,Tryz.results26,go_sem,bA.1.1,bA.2.1.1,bA.2.2.1.1,bA.2.2.2.1.1,bA.2.2.2.2.1.1,bA.2.2.2.2.2.1.1,bA.2.2.2.2.2.2.1.1,bA.2.2.2.2.2.2.2.1.1,bA.2.2.2.2.2.2.2.2.1]) rfl (qw.ill (i:=2) (Or.inr (Or.inr (Or.inl ⟨HL.out,Hw.out,jG.out,0,by omega,fun ⟨j,hj,h⟩=>lJ.out j hj h,fun j hj=>absurd hj (Nat.not_lt_zero _),rfl⟩))) ?_);exact⟨_,_,_,_,rfl,zi,kB.trans (hT.zOU (B:=w.heap.size) kB.size (fun k e=>by omega))⟩
 have HK:=zB (show qo W fA k from⟨hk,rG,aF⟩);have rF:=zB (show qL W fA from⟨k,hk,rG⟩);clear rG aF;have k0:¬(k:Int)<0:=by omega
 have kL:(k:Int)<(W.pn:Int):=by omega
 have h8:=Hw.out.zOj.zOd.1;have mJ:=Hw.out.zOj.zOb.1;obtain⟨⟨x0,-⟩,⟨x1,-⟩,⟨x2,-⟩,⟨x3,-⟩,⟨x4,-⟩,⟨x5,-⟩⟩:=tH.out;go_wp2_with fail;clear x0 x1 x2 x3 x4 x5;refine(zIQ _ _ _ _ lo hi W fA _ (Hp.out.zOU lG) h8 mJ).mono ?_;rintro e w4 ⟨rfl,nE⟩;have mG:=zA lG nE;have oH:=zB (nH.out.zOU nE);have vH:=zB (tH.out.zOU nE);have hz4:=nE.size;clear nE;have tJ:=zMb Hw.out rF.out;by_cases vJ:1<zCb W fA
 ·have a1:(1:Int)<(zCb W fA:Int):=(by omega);go_wp2_with fail;refine(zR 7 _).mono ?_;rintro e wz ⟨rfl,tC⟩;have kB:=zA mG tC;have jB:=zB (oH.out.zOU tC);obtain⟨⟨r0,g0⟩,⟨r1,g1⟩,⟨r2,g2⟩,⟨r3,g3⟩,⟨r4,g4⟩,⟨r5,g5⟩,⟨r6,g6⟩,⟨r7,g7⟩,⟨r8,g8⟩⟩:=jB.out;go_wp2_with fail;have bA:=jB.out.put (.slice none 0 0) (.slice none 0 0) (.int .i64 0) (.int .i64 0) (.slice none 0 0) (.slice none 0 0) (.int .i64 0) (.int .i64 0) (.int .i64 7);have hT:=zE.put9 wz (w.heap.size+1) (.slice none 0 0) (.slice none 0 0) (.int .i64 0) (.int .i64 0) (.slice none 0 0) (.slice none 0 0) (.int .i64 0) (.int .i64 0) (.int .i64 7);clear r0 g0 r1 g1 r2 g2 r3 g3 r4 g4 r5 g5 r6 g6 r7 g7 r8 g8;refine bodyPost_ret (v:=.agg #[.slice none 0 0,.slice none 0 0,.int .i64 0,.int .i64 0,.slice none 0 0,.slice none 0 0,.int .i64 0,.int .i64 0,.int .i64 7]) (by simp[results,Tryz.results26,go_sem,bA.1.1,bA.2.1.1,bA.2.2.1.1,bA.2.2.2.1.1,bA.2.2.2.2.1.1,bA.2.2.2.2.2.1.1,bA.2.2.2.2.2.2.1.1,bA.2.2.2.2.2.2.2.1.1,bA.2.2.2.2.2.2.2.2.1]) rfl (qw.ill (i:=5) (Or.inr (Or.inr (Or.inl ⟨HL.out,Hw.out,jG.out,1,by omega,fun (h:zCb W fA=1)=>by omega,fun j hj=>(show j=0 by omega)▸rF.out,rfl⟩))) ?_);exact⟨_,_,_,_,rfl,zi,kB.trans (hT.zOU (B:=w.heap.size) kB.size (fun k e=>by omega))⟩
 have a1:¬(1:Int)<(zCb W fA:Int):=by omega
 have hn:zCb W fA=1:=by omega
 have oF:=zB (zNU hn);have eJ:=zB (show ∀j,j<2->(fun i=>match i with | 0=>qL W fA | _=>zCb W fA=1) j from fun j hj=>by
  rcases(by omega:j=0\/j=1)with rfl | rfl
  ·exact rF.out
  ·exact hn)
 clear tJ vJ hn;obtain⟨⟨x0,-⟩,⟨x1,-⟩,⟨x2,-⟩,⟨x3,-⟩,⟨x4,-⟩,⟨x5,-⟩⟩:=vH.out;go_wp2_with fail;clear x0 x1 x2 x3 x4 x5 a1;refine(yq _ _ _ _ lo hi W _ (Hp.out.zOU mG) b1 b2 b3 b4).mono ?_;rintro e w5 ⟨z0,z1,z2,z3,rfl,ho,jF⟩;obtain⟨P,Q,R,bC,tE⟩:=ho;have jA:0<W.sn:=by
  obtain⟨j,hj,-⟩:=(Hw.out.zOj.zOb.2.1 k hk).1;omega
 obtain⟨sb,ub,uv,hS,fI,fF,-,-⟩:=bC.zOd;obtain⟨so,sc,rfl,-⟩:=hS.nth jA;obtain⟨bn,kb,kv,hN,dI,eF,-,-⟩:=bC.zOb;obtain⟨oL,na,cn,rfl,cH,nI⟩:=id hN;obtain⟨off,rfl,-⟩:=nI (by omega);obtain⟨l0,kF,l1,lF,rfl,rfl⟩:=bC.zOa.form;obtain⟨g,hg⟩:∃g,g=W.zOb k:=⟨_,rfl⟩;have eC:=hN.nthE hk;rw[<-hg]at eC;obtain⟨-,ga,gc,fH,-,-⟩:=id eC.zOl;have HG:=zB hg;have lH:=zB fH;have gC:=zB bC.isIn;have bB:=zB tE;have jJ:=zB hS;have gJ:=zB fI;have kJ:=zB fF;have bJ:=zB hN;have aJ:=zB dI;have cJ:=zB eF;have nF:=zB (show ∀i,i<W.sn->qx w5 sb (so+i*6) (ub i) (uv i) (W.zOd i)from fun i hi=>by
  obtain⟨sC,c',ev,hx⟩:=hS.nth hi;simp only[Value.slice.injEq,Option.some.injEq,Addr.mk.injEq,and_true,true_and]at ev;obtain⟨rfl,rfl⟩:=ev;exact hx)
 have rD:=zB (show ∀i,i<W.pn->yA w5 bn (off+i*8) (kb i) (kv i) (W.zOb i)from fun i hi=>hN.nthE hi);have iC:=zB (show Q sb/\∀i,i<W.sn->0<(W.zOd i).dn->Q (ub i)from⟨fF _ (Or.inl ⟨jA,rfl⟩),fun i hi h0=>fF _ (Or.inr ⟨i,hi,h0,rfl⟩)⟩);have fB:=zB (show R bn/\∀i,i<W.pn->0<(W.zOb i).dn->R (kb i)from⟨eF _ (Or.inl ⟨by omega,rfl⟩),fun i hi h0=>eF _ (Or.inr ⟨i,hi,h0,rfl⟩)⟩);have jI:g.dn<=1048576:=by rw[hg];have:=(zGz cF.out 0).1 k hk;have:=this.1.1;omega
 have kI:W.zOa.hn<=400:=by
  have hR:=cF.out.right;have h1:=((zCw W.zOa).2 hR).2.1;have h2:=hR.1;omega
 have nG:=zA mG jF;have hz5:=jF.size;obtain⟨q0,-⟩:=eC.c0;obtain⟨q1,-⟩:=eC.c1;obtain⟨q2,-⟩:=eC.c2;obtain⟨q3,-⟩:=eC.c3;obtain⟨q4,-⟩:=eC.c4;obtain⟨q5,-⟩:=eC.c5;obtain⟨q6,-⟩:=eC.c6;obtain⟨q7,-⟩:=eC.c7;rw[fH]at q7;have nB:=zC w5 (.cells #[.slice l0 W.zOa.n kF,.slice l1 W.zOa.hn lF,.int .i64 W.time,.int .i64 W.next,.slice (some ⟨sb,so,none⟩) W.sn sc,.slice (some ⟨bn,off,none⟩) W.pn cn] 40);have aI:=zB (show(w5.alloc (.cells #[.slice l0 W.zOa.n kF,.slice l1 W.zOa.hn lF,.int .i64 W.time,.int .i64 W.next,.slice (some ⟨sb,so,none⟩) W.sn sc,.slice (some ⟨bn,off,none⟩) W.pn cn] 40)).heap.size=w5.heap.size+1 from World.size_alloc _ _);have gG:=zB (za.zOY w5 (.slice l0 W.zOa.n kF) (.slice l1 W.zOa.hn lF) (.int .i64 W.time) (.int .i64 W.next) (.slice (some ⟨sb,so,none⟩) W.sn sc) (.slice (some ⟨bn,off,none⟩) W.pn cn) 40);replace q0:=(nB.cell (zD q0)).trans q0;replace q1:=(nB.cell (zD q1)).trans q1;replace q2:=(nB.cell (zD q2)).trans q2;replace q3:=(nB.cell (zD q3)).trans q3;replace q4:=(nB.cell (zD q4)).trans q4;replace q5:=(nB.cell (zD q5)).trans q5;replace q6:=(nB.cell (zD q6)).trans q6;replace q7:=(nB.cell (zD q7)).trans q7;clear bC tE hS fI fF hN dI eF nI eC fH hg;go_upto_region 9 with fail;generalize (w5.alloc (.cells #[.slice l0 W.zOa.n kF,.slice l1 W.zOa.hn lF,.int .i64 W.time,.int .i64 W.next,.slice (some ⟨sb,so,none⟩) W.sn sc,.slice (some ⟨bn,off,none⟩) W.pn cn] 40))=w6 at nB aI gG q0 q1 q2 q3 q4 q5 q6 q7 ⊢;have gF:=zC w6 (.cells #[.int .i64 g.id,.string g.name,.string g.set,.int .i64 g.zOg,.int .i64 g.time,.int .i64 g.rs,.int .i64 g.rb,.slice ga g.dn gc] 111);have bI:=zB (show(w6.alloc (.cells #[.int .i64 g.id,.string g.name,.string g.set,.int .i64 g.zOg,.int .i64 g.time,.int .i64 g.rs,.int .i64 g.rb,.slice ga g.dn gc] 111)).heap.size=w6.heap.size+1 from World.size_alloc _ _);have cG:=zB (zEc.zOY w6 (.int .i64 g.id) (.string g.name) (.string g.set) (.int .i64 g.zOg) (.int .i64 g.time) (.int .i64 g.rs) (.int .i64 g.rb) (.slice ga g.dn gc) 111);obtain⟨-,-,-,-,-,⟨v5,-⟩⟩:=gG.out;go_upto_region 10 with fail;clear v5 q0 q1 q2 q3 q4 q5 q6 q7;generalize (w6.alloc (.cells #[.int .i64 g.id,.string g.name,.string g.set,.int .i64 g.zOg,.int .i64 g.time,.int .i64 g.rs,.int .i64 g.rb,.slice ga g.dn gc] 111))=w7 at gF bI cG ⊢;have nC:=zA nB gF;have nJ:=zA nG nC;obtain⟨⟨x0,-⟩,⟨x1,-⟩,⟨x2,-⟩,⟨x3,-⟩,⟨x4,-⟩,⟨x5,-⟩⟩:=(vH.out.zOU jF).zOU nC;obtain⟨⟨-,-,-,⟨s3,-⟩⟩,-⟩:=cG.out;go_wp2_with fail;clear x0 x1 x2 x3 x4 x5 s3;refine(yS _ _ _ _ lo hi W g.zOg _ (Hp.out.zOU nJ)).mono ?_;rintro e w8 ⟨s,b,tm,rfl,hA,bH⟩;have dF:=zB (zGM hA (fun ⟨i,hi⟩=>by
  have h1:=((cF.out.zOj.2.2.2.2.2 i hi.1).1).1;have h2:=hi.2.1;omega))
 clear hA;have iF:=zC w8 (.cells #[.int .i64 s,.int .i64 b] 99);have gB:=zA (zA nC bH) iF;have sB:=zA bH iF;have HV:=zB ((gG.out.zOU gF).zOU sB);have bF:=zB (cG.out.zOU sB);have sF:=zB ((oH.out.zOU jF).zOU gB);have HH:=zB (zGz cF.out tm);go_wp2_with fail;generalize w8.alloc (.cells #[.int .i64 s,.int .i64 b] 99)=w9 at iF gB sB HV bF sF ⊢;have rL:=sB.size;have hz6:=aI.out;have eK:=bI.out;obtain⟨V,hV⟩:∃V,V=w5.heap.size:=⟨_,rfl⟩;obtain⟨SB,sG⟩:∃SB,SB=w6.heap.size:=⟨_,rfl⟩;rw[<-hV]at HV;rw[<-sG]at bF;rw[<-hV,<-sG];have gI:V<SB:=by omega
 have dL:SB<w9.heap.size:=by omega
 have eL:V<=w5.heap.size/\w5.heap.size<=V:=by omega
 clear hV sG nB gF iF bH nC sB hz6 eK
 go_loopw [10,11] (fun iH nK wr=>∃(i:Nat) (m:Int),i<=W.sn/\nK = .int .i64 i/\iH = .int .i64 m/\((m=0/\Below w9.heap.size w9 wr/\∀i0,zGH W fA i0->i<=i0)\/∃i0,zGH W fA i0/\i0<i/\m=((zFO W k i0).length:Int)/\SdF w wr V SB w4.heap.size (.slice (some ⟨sb,so,none⟩) W.sn sc) (.slice (some ⟨bn,off,none⟩) W.pn cn) (.slice ga g.dn gc) W {W with zOa:=zW W.zOa (zFO W k i0),zOd:=zHV W k i0} g)) (fun _ i _=>W.sn - (intOf i).toNat)
 case atStart=>exact⟨0,0,Nat.zero_le _,rfl,rfl,Or.inl ⟨rfl,Below.refl _ _,fun _ _=>Nat.zero_le _⟩⟩
 case round=>
  obtain⟨i,m,iL,rfl,rfl,rA⟩:=hrel;by_cases aA:i<W.sn
  ·have kD:(i:Int)<(W.sn:Int):=(by omega);by_cases hq:(W.zOd i).zOg=fA
   ·have pG:zGH W fA i:=by
     rcases oF.out with⟨i1,h1⟩ | ⟨i1,h1⟩
     ·exact absurd hq (h1.2.2.2 i aA)
     ·by_cases e:i=i1
      ·rw[e];exact h1
      ·exact absurd hq (h1.2.2.1 i aA e)
    obtain⟨rfl,tB⟩:m=0/\Below w9.heap.size w9 wr:=by
     rcases rA with h | ⟨i0,h0,h1,-⟩
     ·exact⟨h.1,h.2.1⟩
     ·exact absurd hq (h0.2.2.1 i aA (by omega))
    clear rA;have dA:=zA gB tB;have oG:=zA nG dA;have gK:=tB.size;have cE:=zB (HV.out.zOU tB);have aE:=zB (bF.out.zOU tB);have aG:=zB (sF.out.zOU tB);have jA:=(nF.out i aA).zOU dA;obtain⟨S4,dD⟩:∃S4,S4=W.zOd i:=⟨_,rfl⟩;rw[<-dD]at jA hq;obtain⟨-,ad,cd,bD,-,-⟩:=id jA.zOl;have hv5:=jA.zOl.at (lo:=0) (hi:=wr.heap.size) (fun h0=>⟨Nat.zero_le _,jA.deadLt h0⟩);rw[bD]at hv5;have fG:=zB hv5;have vC:=zB dD;obtain⟨q2,-⟩:=jA.c2;obtain⟨q5,-⟩:=jA.c5;rw[bD]at q5;obtain⟨v4,-⟩:=cE.out.2.2.2.2.1;have eH:S4.dn<=200:=(by rw[vC.out];exact(HH.out.2 i aA).1.1);have a1:(S4.zOg == fA)=true:=beq_iff_eq.2 hq;clear jA bD hv5 dD hq;go_wp2_with fail;clear a1 q2 q5 v4;refine(zBC _ S4.dn 0 wr.heap.size S4.ds S4.db tm wr fG.out eH).mono ?_;rintro e ws ⟨vy,vo,rfl,rC,pC,-,mA⟩;obtain⟨t8,pK,rfl,-⟩:=zX rC;obtain⟨s8,jH,rfl,-⟩:=zX pC;obtain⟨Y,mC⟩:∃Y,Y=yh S4.ds S4.db tm S4.dn:=⟨_,rfl⟩;obtain⟨L,hL⟩:∃L,L=zDg S4.ds S4.db tm S4.dn:=⟨_,rfl⟩;have vG:=zAW S4.ds S4.db tm S4.dn;rw[<-mC]at rC;rw[<-hL]at pC;rw[<-mC,<-hL]at vG ⊢;have iG:=zB mC;have mF:=zB hL;have vF:=zB rC;have tF:=zB pC;have iK:=mA.size;have sI:=zB mA;clear rC pC mC hL;go_wp2_with fail;refine(zBj V wr.heap.size ws.heap.size P _ _ _ _ _ W.time W.next W.zOa Y ws (cE.out.zOU mA) ((gC.out.zOa.zOU dA).zOU mA) (fun j hj=>by have:=bB.out j (Or.inl hj);omega) (by
     obtain⟨bb,ho,iA⟩:=qH.own vF.out (by unfold maxLen;omega);exact ho.at (fun h0=>⟨(iA h0).2.1,(iA h0).2.2⟩)) (by omega) (Nat.le_refl _) (by omega) kI).mono ?_
    rintro e wh ⟨rfl,y1,lC,gE,vA⟩;have fK:=vA.size;have pA:∀j,w4.heap.size<=j->j<ws.heap.size->j≠V->¬P j->¬(j=V\/P j\/ws.heap.size<=j):=fun j h1 h2 h3 h4 h=>by
     rcases h with h | h | h
     ·exact h3 h
     ·exact h4 h
     ·omega
    have cD:∀j,P j->j<V:=fun j hj=>by have:=bB.out j (Or.inl hj);omega
    have aC:=((rD.out k hk).zOU dA).zOU mA;rw[<-HG.out]at aC;have sE:zp wh 0 wh.heap.size (.slice ga g.dn gc) g.dn g.ds g.db:=by
     have h1:=aC.zOl.zOW vA (fun h0=>by
      have h2:=fB.out.2 k hk (by rw[<-HG.out];exact h0);have h3:=bB.out _ (Or.inr (Or.inr h2));exact pA _ (by omega) (by omega) (by omega) (fun hp=>gC.out.pr _ hp h2))
     rw[lH.out]at h1;exact h1.at (fun h0=>⟨Nat.zero_le _,by have:=aC.deadLt h0;omega⟩)
    have fE:zp wh 0 wh.heap.size (.slice s8 L.length jH) L.length (zg L) (zj L):=by
     obtain⟨bb,ho,iA⟩:=qH.own tF.out (by unfold maxLen;omega);exact(ho.zOW vA (fun h0=>pA _ (by have:=(iA h0).2.1;omega) (iA h0).2.2 (by have:=(iA h0).2.1;omega) (fun hp=>by have:=cD _ hp;have:=(iA h0).2.1;omega))).at (fun h0=>⟨Nat.zero_le _,by have:=(iA h0).2.2;omega⟩)
    have oE:Below wh.heap.size wh wh.drew:=(Below.refl _ _).drew;obtain⟨ra,mK,w1,da,dc,w2,nb,nA,oA,oB,rB,dC,vE⟩:=zHv (sE.zOU oE) (fE.zOU oE) jI (by omega) 100 100;have iD:Below wh.heap.size wh w1:=zJ oB;have gA:Below wh.heap.size wh w2:=zJ rB;have cC:0<g.dn+L.length->wh.heap.size<=nb/\nb<w2.heap.size:=vE;have hz2:=gA.size;have hs2:qx w2 sb (so+i*6) (ub i) (uv i) (W.zOd i):=((((nF.out i aA).zOU dA).zOU mA).zOW vA (by
     have h3:=bB.out _ (Or.inr (Or.inl iC.out.1));exact pA _ (by omega) (by omega) (by omega) (fun hp=>gC.out.pq _ hp iC.out.1)) (fun h0=>by
     have h2:=iC.out.2 i aA h0;have h3:=bB.out _ (Or.inr (Or.inl h2));exact pA _ (by omega) (by omega) (by omega) (fun hp=>gC.out.pq _ hp h2))).zOU gA
    have mB:=((aE.out.zOU mA).turnedD vA (pA SB (by omega) (by omega) (by omega) (fun hp=>by have:=cD _ hp;omega)));obtain⟨-,ak,ck,dE,-,-⟩:=id hs2.zOl;obtain⟨m5,gH⟩:=hs2.c5;rw[dE]at m5;have m2:=hs2.c2.zOV (b':=sb) (o':=so+i*6+5) (.slice da (g.dn+L.length) dc) (Or.inr (by omega));obtain⟨m3,kK⟩:=m2;have iA:sb<w5.heap.size:=(bB.out _ (Or.inr (Or.inl iC.out.1))).2;have kC:=zE.put w2 sb (so+i*6+5) (.slice da (g.dn+L.length) dc);have lA:=zB (show(fun w':World=>w'.cell? ⟨V,4,none⟩=some (.slice (some ⟨sb,so,none⟩) W.sn sc)/\w'.cell? ⟨SB,7,none⟩=some (.slice ga g.dn gc)) wh from⟨lC.2.2.2.2.1.1,mB.2.2.2.2.1⟩);have dB:=zB (show(fun w':World=>w'.cell? ⟨V,4,none⟩=some (.slice (some ⟨sb,so,none⟩) W.sn sc)/\w'.cell? ⟨SB,7,none⟩=some (.slice ga g.dn gc)) wh.drew from⟨lC.2.2.2.2.1.1,mB.2.2.2.2.1⟩);have vD:=zB (show(fun w':World=>w'.cell? ⟨V,4,none⟩=some (.slice (some ⟨sb,so,none⟩) W.sn sc)/\w'.cell? ⟨SB,7,none⟩=some (.slice ga g.dn gc)) (wh.drew.alloc (.cells #[] 99))from by
     have t:=zC wh.drew (.cells #[] 99);exact⟨(t.cell (zD dB.out.1)).trans dB.out.1,(t.cell (zD dB.out.2)).trans dB.out.2⟩)
    have bG:=zB (show(fun w':World=>w'.cell? ⟨V,4,none⟩=some (.slice (some ⟨sb,so,none⟩) W.sn sc)/\w'.cell? ⟨SB,7,none⟩=some (.slice ga g.dn gc)) w1 from⟨(iD.cell (zD lA.out.1)).trans lA.out.1,(iD.cell (zD lA.out.2)).trans lA.out.2⟩);have eB:=zB (show(fun w':World=>w'.cell? ⟨V,4,none⟩=some (.slice (some ⟨sb,so,none⟩) W.sn sc)/\w'.cell? ⟨SB,7,none⟩=some (.slice ga g.dn gc)) w2 from⟨(gA.cell (zD lA.out.1)).trans lA.out.1,(gA.cell (zD lA.out.2)).trans lA.out.2⟩);have sD:=zB (show(fun w':World=>w'.cell? ⟨V,4,none⟩=some (.slice (some ⟨sb,so,none⟩) W.sn sc)/\w'.cell? ⟨SB,7,none⟩=some (.slice ga g.dn gc)) (w2.setCell ⟨sb,so+i*6+5,none⟩ (.slice da (g.dn+L.length) dc))from⟨(kC.cell (zD eB.out.1) (by omega)).trans eB.out.1,(kC.cell (zD eB.out.2) (by omega)).trans eB.out.2⟩);have eG:=zB (sD.out.1);have pF:=zB (show(w2.setCell ⟨sb,so+i*6+5,none⟩ (.slice da (g.dn+L.length) dc)).cell? ⟨SB,3,none⟩=some (.int .i64 g.zOg)from(kC.cell (zD eB.out.2) (by omega)).trans ((gA.cell (zD mB.1.2.2.2.1)).trans mB.1.2.2.2.1));have sA:=zB nA;have tA:=zB oA;have eD:sdD W (W.zOb k) (W.zOd i).dn (W.zOd i).ds (W.zOd i).db=yr g.dn g.ds g.db ++ L:=(by unfold sdD sdO;rw[<-vC.out,<-HG.out,<-dF.out,mF.out]);have eY:sdY W (W.zOb k) (W.zOd i).dn (W.zOd i).ds (W.zOd i).db=Y:=(by unfold sdY;rw[<-vC.out,<-HG.out,<-dF.out,iG.out]);have HE:=zB (zNa (w:=w) (V:=V) (SB:=SB) (base:=w4.heap.size) (k:=k) (gv:=.slice ga g.dn gc) HG.out (gC.out.zOU dA) (fun j hj=>by have:=bB.out j hj;omega) (by omega) gI (by omega) oG (jJ.out.zOU dA) gJ.out kJ.out aA mA vA lC (by rw[eY];exact gE) gA (by rw[eD];exact dC) (fun h0=>cC (by rw[eD,List.length_append,zAJ]at h0;exact h0)) aE.out aG.out);rw[eY]at HE;have kD:(i:Int)<(W.sn:Int):=(by omega);clear vA lC gE pA cD aC sE fE nA oA oB rB dC vE cC hs2 mB dE kC iD;go_upto_region 18 with fail;refine wp_region_held_drew (S:=(fun w':World=>w'.cell? ⟨V,4,none⟩=some (.slice (some ⟨sb,so,none⟩) W.sn sc)/\w'.cell? ⟨SB,7,none⟩=some (.slice ga g.dn gc))) (by kernel_rfl) dB.out (fun hHeld=>?_);generalize wh.drew=q0 at hHeld dB vD sA ⊢;refine tk 0 (h:=tk 1 (h:=tk 2 (h:=tk 4 (h:=tk 5 (h:=tk 7 (h:=?_))))));refine rd [3] (rc (fun K hK=>?_) .nil);go_simp
    (try go_wp2_with fail)
    refine hK.out _ _ (vD.out) ?_;clear hK K hHeld;intro hHeld
    try simp only[Act.put,s1,s2,s3]
    refine rd [6] (rc (fun K hK=>?_) .nil);refine zM rfl (.tmp 79) (.tmp 81) 100 rfl _ _ _ rfl rfl sA.out ?_
    (try go_wp2_with fail)
    refine hK.out _ _ (bG.out) ?_;clear hK K hHeld;intro hHeld
    try simp only[Act.put,s1,s2,s3]
    refine rd [8] (rc (fun K hK=>?_) .nil);refine zM rfl (.tmp 82) (.tmp 83) 100 rfl _ _ _ rfl rfl tA.out ?_
    (try go_wp2_with fail)
    refine hK.out _ _ (eB.out) ?_;clear hK K hHeld;intro hHeld
    try simp only[Act.put,s1,s2,s3]
    refine tk 9 (h:=tk 10 (h:=?_));refine rd [11] (rc (fun K hK=>?_) .nil);go_simp
    (try go_wp2_with fail)
    refine hK.out _ _ (sD.out) ?_;clear hK K hHeld;intro hHeld
    try simp only[Act.put,s1,s2,s3]
    refine wpAnyH_done (by kernel_rfl) ?_ _;clear hHeld m5 gH;have v4:=eG.out;have p3:=pF.out;have pJ:(Y.length:Int)<1000:=(by omega);go_wp2_with fail;go_roundw
    case rel=>
     refine⟨i+1,(Y.length:Int),by omega,by go_num,by go_num,Or.inr ⟨i,pG,by omega,?_,?_⟩⟩
     ·unfold zFO;rw[eY]
     ·unfold zFO;rw[eY];exact HE.out
    case measure=>simp[intOf];omega
   ·have dH:wr.cell? ⟨V,4,none⟩=some (.slice (some ⟨sb,so,none⟩) W.sn sc)/\wr.cell? ⟨sb,so+i*6+2,none⟩=some (.int .i64 (W.zOd i).zOg):=by
     rcases rA with h | ⟨i0,h0,h1,hm,h⟩
     ·exact⟨(HV.out.zOU h.2.1).2.2.2.2.1.1,((nF.out i aA).zOU (zA gB h.2.1)).c2.1⟩
     ·obtain⟨_,_,_,_,_,h1,_,_,h4,_⟩:=h;obtain⟨b',oI,pI,eE,-,-⟩:=h4.zOd;obtain⟨-,a',c',ev,-,hx⟩:=id eE;obtain⟨sC,rfl,hs⟩:=hx (by show 0<W.sn;omega);simp only[Value.slice.injEq,Option.some.injEq,Addr.mk.injEq,and_true,true_and]at ev;obtain⟨⟨rfl,rfl⟩,rfl⟩:=ev;have hs:=hs i aA;have cK:(fun j=>j) i=i:=rfl;dsimp only at hs;rw[show zHV W k i0 i=W.zOd i from if_neg (by omega)]at hs;exact⟨h1.2.2.2.2.1.1,hs.c2.1⟩
    obtain⟨v4,q2⟩:=dH;have HQ:=zB hq;have mD:=zB rA;have a1:((W.zOd i).zOg == fA)=false:=beq_eq_false_iff_ne.2 hq;clear hq rA;go_wp2_with fail;clear v4 q2 a1;go_roundw
    case rel=>
     refine⟨i+1,m,by omega,by go_num,rfl,?_⟩;rcases mD.out with h | ⟨i0,h0,h1,hm,h⟩
     ·refine Or.inl ⟨h.1,h.2.1,fun i0 h0=>?_⟩;have h1:=h.2.2 i0 h0;have h2:i≠i0:=fun e=>HQ.out (by rw[e];exact h0.2.1)
      omega
     ·exact Or.inr ⟨i0,h0,by omega,hm,h⟩
    case measure=>simp[intOf];omega
  ·obtain rfl:i=W.sn:=(by omega);have bK:wr.cell? ⟨V,4,none⟩=some (.slice (some ⟨sb,so,none⟩) W.sn sc):=by
    rcases rA with h | ⟨i0,h0,h1,hm,h⟩
    ·exact(HV.out.zOU h.2.1).2.2.2.2.1.1
    ·obtain⟨_,_,_,_,_,h1,_⟩:=h;exact h1.2.2.2.2.1.1
   have mD:=zB rA;clear rA;go_wp2_with fail;clear bK
   go_loopw [10,14] (fun iH oK wr=>∃(i:Nat) (m:Int),i<=W.pn/\oK = .int .i64 i/\iH = .int .i64 m/\((m=0/\Below w9.heap.size w9 wr/\∃i0,zHa W fA i0/\i<=i0)\/(∃i0,zGH W fA i0/\m=((zFO W k i0).length:Int)/\SdF w wr V SB w4.heap.size (.slice (some ⟨sb,so,none⟩) W.sn sc) (.slice (some ⟨bn,off,none⟩) W.pn cn) (.slice ga g.dn gc) W {W with zOa:=zW W.zOa (zFO W k i0),zOd:=zHV W k i0} g)\/∃i0,zHa W fA i0/\i0<i/\m=((zGy W k i0).length:Int)/\SdF w wr V SB w4.heap.size (.slice (some ⟨sb,so,none⟩) W.sn sc) (.slice (some ⟨bn,off,none⟩) W.pn cn) (.slice ga g.dn gc) W {W with zOa:=zW W.zOa (zGy W k i0),zOb:=zGx W k i0} g)) (fun _ i _=>W.pn - (intOf i).toNat)
   case atStart=>
    refine⟨0,m,Nat.zero_le _,rfl,rfl,?_⟩;rcases mD.out with h | ⟨i0,h0,h1,hm,h⟩
    ·rcases oF.out with⟨i1,h1⟩ | ⟨i1,h1⟩
     ·exact Or.inl ⟨h.1,h.2.1,i1,h1,Nat.zero_le _⟩
     ·have h2:=h.2.2 i1 h1;have h3:=h1.1;omega
    ·exact Or.inr (Or.inl ⟨i0,h0,hm,h⟩)
   case round=>
    clear mD;obtain⟨i,m,jL,rfl,rfl,rA⟩:=hrel;by_cases aA:i<W.pn
    ·have kD:(i:Int)<(W.pn:Int):=(by omega);by_cases hq:(W.zOb i).zOg=fA
     ·have pG:zHa W fA i:=by
       rcases oF.out with⟨i1,h1⟩ | ⟨i1,h1⟩
       ·by_cases e:i=i1
        ·rw[e];exact h1
        ·exact absurd hq (h1.2.2.1 i aA e)
       ·exact absurd hq (h1.2.2.2 i aA)
      obtain⟨rfl,tB⟩:m=0/\Below w9.heap.size w9 wr:=by
       rcases rA with h | ⟨i0,h0,-⟩ | ⟨i0,h0,h1,-⟩
       ·exact⟨h.1,h.2.1⟩
       ·exact absurd hq (h0.2.2.2 i aA)
       ·exact absurd hq (h0.2.2.1 i aA (by omega))
      clear rA;have dA:=zA gB tB;have oG:=zA nG dA;have gK:=tB.size;have cE:=zB (HV.out.zOU tB);have aE:=zB (bF.out.zOU tB);have aG:=zB (sF.out.zOU tB);have jA:=(rD.out i aA).zOU dA;obtain⟨S4,dD⟩:∃S4,S4=W.zOb i:=⟨_,rfl⟩;rw[<-dD]at jA hq;obtain⟨-,ad,cd,bD,-,-⟩:=id jA.zOl;have hv5:=jA.zOl.at (lo:=0) (hi:=wr.heap.size) (fun h0=>⟨Nat.zero_le _,jA.deadLt h0⟩);rw[bD]at hv5;have fG:=zB hv5;have vC:=zB dD;obtain⟨q2,-⟩:=jA.c3;obtain⟨q5,-⟩:=jA.c7;rw[bD]at q5;obtain⟨v4,-⟩:=cE.out.2.2.2.2.2;have eH:S4.dn<=200:=(by rw[vC.out];exact(HH.out.1 i aA).1.1);have a1:(S4.zOg == fA)=true:=beq_iff_eq.2 hq;clear jA bD hv5 dD hq;go_wp2_with fail;clear a1 q2 q5 v4;refine(zBC _ S4.dn 0 wr.heap.size S4.ds S4.db tm wr fG.out eH).mono ?_;rintro e ws ⟨vy,vo,rfl,rC,pC,-,mA⟩;obtain⟨t8,pK,rfl,-⟩:=zX rC;obtain⟨s8,jH,rfl,-⟩:=zX pC;obtain⟨Y,mC⟩:∃Y,Y=yh S4.ds S4.db tm S4.dn:=⟨_,rfl⟩;obtain⟨L,hL⟩:∃L,L=zDg S4.ds S4.db tm S4.dn:=⟨_,rfl⟩;have vG:=zAW S4.ds S4.db tm S4.dn;rw[<-mC]at rC;rw[<-hL]at pC;rw[<-mC,<-hL]at vG ⊢;have iG:=zB mC;have mF:=zB hL;have vF:=zB rC;have tF:=zB pC;have iK:=mA.size;have sI:=zB mA;clear rC pC mC hL;go_wp2_with fail;refine(zBj V wr.heap.size ws.heap.size P _ _ _ _ _ W.time W.next W.zOa Y ws (cE.out.zOU mA) ((gC.out.zOa.zOU dA).zOU mA) (fun j hj=>by have:=bB.out j (Or.inl hj);omega) (by
       obtain⟨bb,ho,iA⟩:=qH.own vF.out (by unfold maxLen;omega);exact ho.at (fun h0=>⟨(iA h0).2.1,(iA h0).2.2⟩)) (by omega) (Nat.le_refl _) (by omega) kI).mono ?_
      rintro e wh ⟨rfl,y1,lC,gE,vA⟩;have fK:=vA.size;have pA:∀j,w4.heap.size<=j->j<ws.heap.size->j≠V->¬P j->¬(j=V\/P j\/ws.heap.size<=j):=fun j h1 h2 h3 h4 h=>by
       rcases h with h | h | h
       ·exact h3 h
       ·exact h4 h
       ·omega
      have cD:∀j,P j->j<V:=fun j hj=>by have:=bB.out j (Or.inl hj);omega
      have aC:=((rD.out k hk).zOU dA).zOU mA;rw[<-HG.out]at aC;have sE:zp wh 0 wh.heap.size (.slice ga g.dn gc) g.dn g.ds g.db:=by
       have h1:=aC.zOl.zOW vA (fun h0=>by
        have h2:=fB.out.2 k hk (by rw[<-HG.out];exact h0);have h3:=bB.out _ (Or.inr (Or.inr h2));exact pA _ (by omega) (by omega) (by omega) (fun hp=>gC.out.pr _ hp h2))
       rw[lH.out]at h1;exact h1.at (fun h0=>⟨Nat.zero_le _,by have:=aC.deadLt h0;omega⟩)
      have fE:zp wh 0 wh.heap.size (.slice s8 L.length jH) L.length (zg L) (zj L):=by
       obtain⟨bb,ho,iA⟩:=qH.own tF.out (by unfold maxLen;omega);exact(ho.zOW vA (fun h0=>pA _ (by have:=(iA h0).2.1;omega) (iA h0).2.2 (by have:=(iA h0).2.1;omega) (fun hp=>by have:=cD _ hp;have:=(iA h0).2.1;omega))).at (fun h0=>⟨Nat.zero_le _,by have:=(iA h0).2.2;omega⟩)
      have oE:Below wh.heap.size wh wh.drew:=(Below.refl _ _).drew;obtain⟨ra,mK,w1,da,dc,w2,nb,nA,oA,oB,rB,dC,vE⟩:=zHv (sE.zOU oE) (fE.zOU oE) jI (by omega) 100 100;have iD:Below wh.heap.size wh w1:=zJ oB;have gA:Below wh.heap.size wh w2:=zJ rB;have cC:0<g.dn+L.length->wh.heap.size<=nb/\nb<w2.heap.size:=vE;have hz2:=gA.size;have hs2:yA w2 bn (off+i*8) (kb i) (kv i) (W.zOb i):=((((rD.out i aA).zOU dA).zOU mA).zOW vA (by
       have h3:=bB.out _ (Or.inr (Or.inr fB.out.1));exact pA _ (by omega) (by omega) (by omega) (fun hp=>gC.out.pr _ hp fB.out.1)) (fun h0=>by
       have h2:=fB.out.2 i aA h0;have h3:=bB.out _ (Or.inr (Or.inr h2));exact pA _ (by omega) (by omega) (by omega) (fun hp=>gC.out.pr _ hp h2))).zOU gA
      have mB:=((aE.out.zOU mA).turnedD vA (pA SB (by omega) (by omega) (by omega) (fun hp=>by have:=cD _ hp;omega)));obtain⟨-,ak,ck,dE,-,-⟩:=id hs2.zOl;obtain⟨m5,gH⟩:=hs2.c7;rw[dE]at m5;have m2:=hs2.c3.zOV (b':=bn) (o':=off+i*8+7) (.slice da (g.dn+L.length) dc) (Or.inr (by omega));obtain⟨m3,kK⟩:=m2;have iA:bn<w5.heap.size:=(bB.out _ (Or.inr (Or.inr fB.out.1))).2;have kC:=zE.put w2 bn (off+i*8+7) (.slice da (g.dn+L.length) dc);have lA:=zB (show(fun w':World=>w'.cell? ⟨V,5,none⟩=some (.slice (some ⟨bn,off,none⟩) W.pn cn)/\w'.cell? ⟨SB,7,none⟩=some (.slice ga g.dn gc)) wh from⟨lC.2.2.2.2.2.1,mB.2.2.2.2.1⟩);have dB:=zB (show(fun w':World=>w'.cell? ⟨V,5,none⟩=some (.slice (some ⟨bn,off,none⟩) W.pn cn)/\w'.cell? ⟨SB,7,none⟩=some (.slice ga g.dn gc)) wh.drew from⟨lC.2.2.2.2.2.1,mB.2.2.2.2.1⟩);have vD:=zB (show(fun w':World=>w'.cell? ⟨V,5,none⟩=some (.slice (some ⟨bn,off,none⟩) W.pn cn)/\w'.cell? ⟨SB,7,none⟩=some (.slice ga g.dn gc)) (wh.drew.alloc (.cells #[] 99))from by
       have t:=zC wh.drew (.cells #[] 99);exact⟨(t.cell (zD dB.out.1)).trans dB.out.1,(t.cell (zD dB.out.2)).trans dB.out.2⟩)
      have bG:=zB (show(fun w':World=>w'.cell? ⟨V,5,none⟩=some (.slice (some ⟨bn,off,none⟩) W.pn cn)/\w'.cell? ⟨SB,7,none⟩=some (.slice ga g.dn gc)) w1 from⟨(iD.cell (zD lA.out.1)).trans lA.out.1,(iD.cell (zD lA.out.2)).trans lA.out.2⟩);have eB:=zB (show(fun w':World=>w'.cell? ⟨V,5,none⟩=some (.slice (some ⟨bn,off,none⟩) W.pn cn)/\w'.cell? ⟨SB,7,none⟩=some (.slice ga g.dn gc)) w2 from⟨(gA.cell (zD lA.out.1)).trans lA.out.1,(gA.cell (zD lA.out.2)).trans lA.out.2⟩);have sD:=zB (show(fun w':World=>w'.cell? ⟨V,5,none⟩=some (.slice (some ⟨bn,off,none⟩) W.pn cn)/\w'.cell? ⟨SB,7,none⟩=some (.slice ga g.dn gc)) (w2.setCell ⟨bn,off+i*8+7,none⟩ (.slice da (g.dn+L.length) dc))from⟨(kC.cell (zD eB.out.1) (by omega)).trans eB.out.1,(kC.cell (zD eB.out.2) (by omega)).trans eB.out.2⟩);have eG:=zB (sD.out.1);have pF:=zB (show(w2.setCell ⟨bn,off+i*8+7,none⟩ (.slice da (g.dn+L.length) dc)).cell? ⟨SB,3,none⟩=some (.int .i64 g.zOg)from(kC.cell (zD eB.out.2) (by omega)).trans ((gA.cell (zD mB.1.2.2.2.1)).trans mB.1.2.2.2.1));have sA:=zB nA;have tA:=zB oA;have eD:sdD W (W.zOb k) (W.zOb i).dn (W.zOb i).ds (W.zOb i).db=yr g.dn g.ds g.db ++ L:=(by unfold sdD sdO;rw[<-vC.out,<-HG.out,<-dF.out,mF.out]);have eY:sdY W (W.zOb k) (W.zOb i).dn (W.zOb i).ds (W.zOb i).db=Y:=(by unfold sdY;rw[<-vC.out,<-HG.out,<-dF.out,iG.out]);have HE:=zB (zMr (w:=w) (V:=V) (SB:=SB) (base:=w4.heap.size) (k:=k) (gv:=.slice ga g.dn gc) HG.out (gC.out.zOU dA) (fun j hj=>by have:=bB.out j hj;omega) (by omega) gI (by omega) oG (bJ.out.zOU dA) aJ.out cJ.out aA mA vA lC (by rw[eY];exact gE) gA (by rw[eD];exact dC) (fun h0=>cC (by rw[eD,List.length_append,zAJ]at h0;exact h0)) aE.out aG.out);rw[eY]at HE;have kD:(i:Int)<(W.pn:Int):=(by omega);clear vA lC gE pA cD aC sE fE nA oA oB rB dC vE cC hs2 mB dE kC iD;go_upto_region 26 with fail;refine wp_region_held_drew (S:=(fun w':World=>w'.cell? ⟨V,5,none⟩=some (.slice (some ⟨bn,off,none⟩) W.pn cn)/\w'.cell? ⟨SB,7,none⟩=some (.slice ga g.dn gc))) (by kernel_rfl) dB.out (fun hHeld=>?_);generalize wh.drew=q0 at hHeld dB vD sA ⊢;refine tk 0 (h:=tk 1 (h:=tk 2 (h:=tk 4 (h:=tk 5 (h:=tk 7 (h:=?_))))));refine rd [3] (rc (fun K hK=>?_) .nil);go_simp
      (try go_wp2_with fail)
      refine hK.out _ _ (vD.out) ?_;clear hK K hHeld;intro hHeld
      try simp only[Act.put,s1,s2,s3]
      refine rd [6] (rc (fun K hK=>?_) .nil);refine zM rfl (.tmp 127) (.tmp 129) 100 rfl _ _ _ rfl rfl sA.out ?_
      (try go_wp2_with fail)
      refine hK.out _ _ (bG.out) ?_;clear hK K hHeld;intro hHeld
      try simp only[Act.put,s1,s2,s3]
      refine rd [8] (rc (fun K hK=>?_) .nil);refine zM rfl (.tmp 130) (.tmp 131) 100 rfl _ _ _ rfl rfl tA.out ?_
      (try go_wp2_with fail)
      refine hK.out _ _ (eB.out) ?_;clear hK K hHeld;intro hHeld
      try simp only[Act.put,s1,s2,s3]
      refine tk 9 (h:=tk 10 (h:=?_));refine rd [11] (rc (fun K hK=>?_) .nil);go_simp
      (try go_wp2_with fail)
      refine hK.out _ _ (sD.out) ?_;clear hK K hHeld;intro hHeld
      try simp only[Act.put,s1,s2,s3]
      refine wpAnyH_done (by kernel_rfl) ?_ _;clear hHeld m5 gH;have v4:=eG.out;have p3:=pF.out;have pJ:(Y.length:Int)<1000:=(by omega);go_wp2_with fail;go_roundw
      case rel=>
       refine⟨i+1,(Y.length:Int),by omega,by go_num,by go_num,Or.inr (Or.inr ⟨i,pG,by omega,?_,?_⟩)⟩
       ·unfold zGy;rw[eY]
       ·unfold zGy;rw[eY];exact HE.out
      case measure=>simp[intOf];omega
     ·have dH:wr.cell? ⟨V,5,none⟩=some (.slice (some ⟨bn,off,none⟩) W.pn cn)/\wr.cell? ⟨bn,off+i*8+3,none⟩=some (.int .i64 (W.zOb i).zOg):=by
       rcases rA with h | ⟨i0,h0,hm,h⟩ | ⟨i0,h0,h1,hm,h⟩
       ·exact⟨(HV.out.zOU h.2.1).2.2.2.2.2.1,((rD.out i aA).zOU (zA gB h.2.1)).c3.1⟩
       ·obtain⟨_,_,_,_,_,h1,_,_,h4,_⟩:=h;obtain⟨b',oI,pI,eE,-,-⟩:=h4.zOb;obtain⟨-,a',c',ev,-,hx⟩:=id eE;obtain⟨sC,rfl,hs⟩:=hx (by show 0<W.pn;omega);simp only[Value.slice.injEq,Option.some.injEq,Addr.mk.injEq,and_true,true_and]at ev;obtain⟨⟨rfl,rfl⟩,rfl⟩:=ev;have hs:=hs i aA;exact⟨h1.2.2.2.2.2.1,hs.c3.1⟩
       ·obtain⟨_,_,_,_,_,h1,_,_,h4,_⟩:=h;obtain⟨b',oI,pI,eE,-,-⟩:=h4.zOb;obtain⟨-,a',c',ev,-,hx⟩:=id eE;obtain⟨sC,rfl,hs⟩:=hx (by show 0<W.pn;omega);simp only[Value.slice.injEq,Option.some.injEq,Addr.mk.injEq,and_true,true_and]at ev;obtain⟨⟨rfl,rfl⟩,rfl⟩:=ev;have hs:=hs i aA;have cK:(fun j=>j) i=i:=rfl;dsimp only at hs;rw[show zGx W k i0 i=W.zOb i from if_neg (by omega)]at hs;exact⟨h1.2.2.2.2.2.1,hs.c3.1⟩
      obtain⟨v4,q2⟩:=dH;have HQ:=zB hq;have mD:=zB rA;have a1:((W.zOb i).zOg == fA)=false:=beq_eq_false_iff_ne.2 hq;clear hq rA;go_wp2_with fail;clear v4 q2 a1;go_roundw
      case rel=>
       refine⟨i+1,m,by omega,by go_num,rfl,?_⟩;rcases mD.out with⟨h1,h2,i0,h3,h4⟩ | ⟨i0,h0,hm,h⟩ | ⟨i0,h0,h1,hm,h⟩
       ·refine Or.inl ⟨h1,h2,i0,h3,?_⟩;have h5:i≠i0:=fun e=>HQ.out (by rw[e];exact h3.2.1)
        omega
       ·exact Or.inr (Or.inl ⟨i0,h0,hm,h⟩)
       ·exact Or.inr (Or.inr ⟨i0,h0,by omega,hm,h⟩)
      case measure=>simp[intOf];omega
    ·obtain rfl:i=W.pn:=(by omega);have rJ:∃W2:zH,SdF w wr V SB w4.heap.size (.slice (some ⟨sb,so,none⟩) W.sn sc) (.slice (some ⟨bn,off,none⟩) W.pn cn) (.slice ga g.dn gc) W W2 g/\W2.pn=W.pn/\W2.sn=W.sn/\W2.time=W.time/\W2.next=W.next/\((∃i,zHa W fA i/\(⟨{W2 with pn:=W2.pn - 1,zOb:=del W2.zOb k},0,m,0⟩:zCT)=⟨zOK W k i,0,((zGy W k i).length:Int),0⟩)\/∃i,zGH W fA i/\(⟨{W2 with pn:=W2.pn - 1,zOb:=del W2.zOb k},0,m,0⟩:zCT)=⟨zOL W k i,0,((zFO W k i).length:Int),0⟩):=by
      rcases rA with⟨h1,h2,i0,h3,h4⟩ | ⟨i0,h0,hm,h⟩ | ⟨i0,h0,h1,hm,h⟩
      ·exact absurd h3.1 (by omega)
      ·exact⟨_,h,rfl,rfl,rfl,rfl,Or.inr ⟨i0,h0,by rw[hm];rfl⟩⟩
      ·exact⟨_,h,rfl,rfl,rfl,rfl,Or.inl ⟨i0,h0,by rw[hm];rfl⟩⟩
     clear rA;obtain⟨W2,⟨y0,y1,P2,Q2,R2,gD,-,eI,oC,lD,cI⟩,e1,e2,e3,e4,hO⟩:=rJ;obtain⟨ya,yc,yb,yd,rfl,rfl⟩:=oC.zOa.form;obtain⟨b',oD,iB,iE,fD,jC⟩:=oC.zOb;rw[e1]at iE fD jC;obtain⟨-,a',c',ev,cH,hx⟩:=id iE;obtain⟨sC,rfl,-⟩:=hx (by omega);simp only[Value.slice.injEq,Option.some.injEq,Addr.mk.injEq,and_true,true_and]at ev;obtain⟨⟨rfl,rfl⟩,rfl⟩:=ev;have dJ:=zB hO;have lB:=zB oC;have kA:=zB lD;have iJ:=zB iE;have dG:=zB fD;have tD:=zB jC;have vI:=zB e1;have pD:=zB (And.intro e3 e4);have oJ:R2 bn:=jC _ (Or.inl ⟨by omega,rfl⟩);have gL:=lD bn (Or.inr (Or.inr oJ));have rE:∀i,i<W.pn->yA wr bn (off+i*8) (oD i) (iB i) (W2.zOb i):=fun i hi=>iE.nthE hi
     obtain⟨A2,cL,rI⟩:∃A2,(if cn=k+1 then some (⟨bn,off,none⟩:Addr)else some ⟨bn,off+(k+1)*8,none⟩)=A2/\Hid (0<W.pn - (k+1)->A2=some ⟨bn,off+(k+1)*8,none⟩):=⟨_,rfl,fun h=>if_neg (by omega)⟩;have jD:Below wr.heap.size wr wr.drew:=(Below.refl _ _).drew;obtain⟨ra,lK,rK,da,eA,fC,lI,mI,jE,lE,pE,vB⟩:=zKJ wr.drew bn off W.pn k cn (cn - (k+1)) (some ⟨bn,off,none⟩) A2 (fun i=>cellSnap W2.zOb iB (i / 8) (i % 8)) (fun i hi=>by
      have h:=rE (i / 8) (by omega);have h1:=(zLf h (i % 8) (by omega)).1;rw[show off+i / 8*8+i % 8=off+i by omega]at h1;exact⟨h1,by
       have h2:=zEy h.zOl;unfold cellSnap;split<;>first | rfl | exact h2⟩) hk (by omega) (fun _=>rfl) rI.out
     have kE:Below wr.heap.size wr rK:=zJ jE;have pB:Below wr.heap.size wr fC:=zJ lE;have dK:=pB.size;have bE:=zB (gD.zOU jD);have aD:=zB ((gD.zOU jD).zOU (zC wr.drew (.cells #[] 111)));have pH:=zB (gD.zOU kE);have cB:=zB (gD.zOU pB);have sA:=zB lI;have tA:=zB mI;have tI:=zB vB;have fJ:=zB eI;have kH:=zB cI;have lL:k<=cn:=(by omega);have mL:k<=W.pn:=(by omega);have nL:k+1<=W.pn:=(by omega);have sJ:k+1<=cn:=(by omega);have sK:(0:Int)<=(k:Int):=(by omega);have tK:(0:Int)<=(k:Int)+1:=(by omega);have vK:(k:Int)+1<=(W.pn:Int):=(by omega);have aL:(k:Int)<=(W.pn:Int):=(by omega);have bL:(k:Int)<=(cn:Int):=(by omega);have pL:IntKind.i64.wrap ((k:Int)+1)=((k+1:Nat):Int):=by first | (rw[zBb (by omega) (by omega)];rfl) | (rw[zBb _ (by omega) (by omega)];rfl)
     have fL:=gD.1.lt;obtain⟨vx,-⟩:=gD.2.2.2.2.2;clear lI mI vB oC lD iE fD jC hO e1 e2 e3 e4 rE jE lE gD eI hx cI;go_upto_region 28 with fail;clear vx;refine wp_region_held_drew (S:=fun _=>True) (by kernel_rfl) trivial (fun hHeld=>?_);generalize wr.drew=q1 at hHeld bE aD sA jD ⊢
     refine' zCq (fun hfin=>_) _
     rotate_left
     ·skip;refine tk 1 (h:=tk 3 (h:=tk 6 (h:=tk 8 (h:=tk 9 (h:=?_)))));refine rd [0,2,7] (rc (fun K hK=>?_) (rc (fun K hK=>?_) (rc (fun K hK=>?_) .nil)))
      ·go_simp
       (try go_wp2_with fail)
       refine hK.out _ _ (trivial) ?_;clear hK K;intro hHeld
       try simp only[Act.put,s1,s2,s3]
       refine rd [2,7] (rc (fun K hK=>?_) (rc (fun K hK=>?_) .nil))
       ·obtain⟨-,-,-,-,-,⟨cA,-⟩⟩:=aD.out;go_simp
        (try go_wp2_with fail)
        refine hK.out _ _ (trivial) ?_;clear hK K;intro hHeld
        try simp only[Act.put,s1,s2,s3]
        clear cA;refine tk 4 (h:=?_);refine rd [5,7] (rc (fun K hK=>?_) (rc (fun K hK=>?_) .nil))
        ·refine zM rfl (.tmp 142) (.tmp 146) 38 rfl _ _ _ rfl rfl sA.out ?_
         (try go_wp2_with fail)
         refine hK.out _ _ (trivial) ?_;clear hK K;intro hHeld
         try simp only[Act.put,s1,s2,s3]
         refine rd [7] (rc (fun K hK=>?_) .nil);obtain⟨-,-,-,-,-,⟨cA,-⟩⟩:=pH.out;go_simp
         (try go_wp2_with fail)
         refine hK.out _ _ (trivial) ?_;clear hK K;intro hHeld
         try simp only[Act.put,s1,s2,s3]
         clear cA;refine tk 10 (h:=?_);refine rd [11] (rc (fun K hK=>?_) .nil);refine zM rfl (.tmp 147) (.tmp 152) 38 rfl _ _ _ rfl rfl tA.out ?_
         (try go_wp2_with fail)
         refine hK.out _ _ (trivial) ?_;clear hK K;intro hHeld
         try simp only[Act.put,s1,s2,s3]
         refine tk 12 (h:=?_);refine rd [13] (rc (fun K hK=>?_) .nil);obtain⟨-,-,-,-,-,⟨cA,aB⟩⟩:=cB.out;go_simp
         (try go_wp2_with fail)
         refine hK.out _ _ (trivial) ?_;clear hK K;intro hHeld
         try simp only[Act.put,s1,s2,s3]
         clear cA aB;refine wpAnyH_done (by kernel_rfl) ?_ _;exact hfin.out
        ·obtain⟨-,-,-,-,-,⟨cA,-⟩⟩:=aD.out;go_simp
         (try go_wp2_with fail)
         refine hK.out _ _ (trivial) ?_;clear hK K;intro hHeld
         try simp only[Act.put,s1,s2,s3]
         clear cA;refine tk 10 (h:=?_);refine rd [5] (rc (fun K hK=>?_) .nil);refine zM rfl (.tmp 142) (.tmp 146) 38 rfl _ _ _ rfl rfl sA.out ?_
         (try go_wp2_with fail)
         refine hK.out _ _ (trivial) ?_;clear hK K;intro hHeld
         try simp only[Act.put,s1,s2,s3]
         refine rd [11] (rc (fun K hK=>?_) .nil);refine zM rfl (.tmp 147) (.tmp 152) 38 rfl _ _ _ rfl rfl tA.out ?_
         (try go_wp2_with fail)
         refine hK.out _ _ (trivial) ?_;clear hK K;intro hHeld
         try simp only[Act.put,s1,s2,s3]
         refine tk 12 (h:=?_);refine rd [13] (rc (fun K hK=>?_) .nil);obtain⟨-,-,-,-,-,⟨cA,aB⟩⟩:=cB.out;go_simp
         (try go_wp2_with fail)
         refine hK.out _ _ (trivial) ?_;clear hK K;intro hHeld
         try simp only[Act.put,s1,s2,s3]
         clear cA aB;refine wpAnyH_done (by kernel_rfl) ?_ _;exact hfin.out
       ·obtain⟨-,-,-,-,-,⟨cA,-⟩⟩:=aD.out;go_simp
        (try go_wp2_with fail)
        refine hK.out _ _ (trivial) ?_;clear hK K;intro hHeld
        try simp only[Act.put,s1,s2,s3]
        clear cA;refine tk 10 (h:=?_);refine rd [2] (rc (fun K hK=>?_) .nil);obtain⟨-,-,-,-,-,⟨cA,-⟩⟩:=aD.out;go_simp
        (try go_wp2_with fail)
        refine hK.out _ _ (trivial) ?_;clear hK K;intro hHeld
        try simp only[Act.put,s1,s2,s3]
        clear cA;refine tk 4 (h:=?_);refine rd [5] (rc (fun K hK=>?_) .nil);refine zM rfl (.tmp 142) (.tmp 146) 38 rfl _ _ _ rfl rfl sA.out ?_
        (try go_wp2_with fail)
        refine hK.out _ _ (trivial) ?_;clear hK K;intro hHeld
        try simp only[Act.put,s1,s2,s3]
        refine rd [11] (rc (fun K hK=>?_) .nil);refine zM rfl (.tmp 147) (.tmp 152) 38 rfl _ _ _ rfl rfl tA.out ?_
        (try go_wp2_with fail)
        refine hK.out _ _ (trivial) ?_;clear hK K;intro hHeld
        try simp only[Act.put,s1,s2,s3]
        refine tk 12 (h:=?_);refine rd [13] (rc (fun K hK=>?_) .nil);obtain⟨-,-,-,-,-,⟨cA,aB⟩⟩:=cB.out;go_simp
        (try go_wp2_with fail)
        refine hK.out _ _ (trivial) ?_;clear hK K;intro hHeld
        try simp only[Act.put,s1,s2,s3]
        clear cA aB;refine wpAnyH_done (by kernel_rfl) ?_ _;exact hfin.out
      ·obtain⟨-,-,-,-,-,⟨cA,-⟩⟩:=bE.out;go_simp
       (try go_wp2_with fail)
       refine hK.out _ _ (trivial) ?_;clear hK K;intro hHeld
       try simp only[Act.put,s1,s2,s3]
       clear cA;refine tk 4 (h:=?_);refine rd [0,7] (rc (fun K hK=>?_) (rc (fun K hK=>?_) .nil))
       ·go_simp
        (try go_wp2_with fail)
        refine hK.out _ _ (trivial) ?_;clear hK K;intro hHeld
        try simp only[Act.put,s1,s2,s3]
        refine rd [5,7] (rc (fun K hK=>?_) (rc (fun K hK=>?_) .nil))
        ·refine zM rfl (.tmp 142) (.tmp 146) 38 rfl _ _ _ rfl rfl sA.out ?_
         (try go_wp2_with fail)
         refine hK.out _ _ (trivial) ?_;clear hK K;intro hHeld
         try simp only[Act.put,s1,s2,s3]
         refine rd [7] (rc (fun K hK=>?_) .nil);obtain⟨-,-,-,-,-,⟨cA,-⟩⟩:=pH.out;go_simp
         (try go_wp2_with fail)
         refine hK.out _ _ (trivial) ?_;clear hK K;intro hHeld
         try simp only[Act.put,s1,s2,s3]
         clear cA;refine tk 10 (h:=?_);refine rd [11] (rc (fun K hK=>?_) .nil);refine zM rfl (.tmp 147) (.tmp 152) 38 rfl _ _ _ rfl rfl tA.out ?_
         (try go_wp2_with fail)
         refine hK.out _ _ (trivial) ?_;clear hK K;intro hHeld
         try simp only[Act.put,s1,s2,s3]
         refine tk 12 (h:=?_);refine rd [13] (rc (fun K hK=>?_) .nil);obtain⟨-,-,-,-,-,⟨cA,aB⟩⟩:=cB.out;go_simp
         (try go_wp2_with fail)
         refine hK.out _ _ (trivial) ?_;clear hK K;intro hHeld
         try simp only[Act.put,s1,s2,s3]
         clear cA aB;refine wpAnyH_done (by kernel_rfl) ?_ _;exact hfin.out
        ·obtain⟨-,-,-,-,-,⟨cA,-⟩⟩:=aD.out;go_simp
         (try go_wp2_with fail)
         refine hK.out _ _ (trivial) ?_;clear hK K;intro hHeld
         try simp only[Act.put,s1,s2,s3]
         clear cA;refine tk 10 (h:=?_);refine rd [5] (rc (fun K hK=>?_) .nil);refine zM rfl (.tmp 142) (.tmp 146) 38 rfl _ _ _ rfl rfl sA.out ?_
         (try go_wp2_with fail)
         refine hK.out _ _ (trivial) ?_;clear hK K;intro hHeld
         try simp only[Act.put,s1,s2,s3]
         refine rd [11] (rc (fun K hK=>?_) .nil);refine zM rfl (.tmp 147) (.tmp 152) 38 rfl _ _ _ rfl rfl tA.out ?_
         (try go_wp2_with fail)
         refine hK.out _ _ (trivial) ?_;clear hK K;intro hHeld
         try simp only[Act.put,s1,s2,s3]
         refine tk 12 (h:=?_);refine rd [13] (rc (fun K hK=>?_) .nil);obtain⟨-,-,-,-,-,⟨cA,aB⟩⟩:=cB.out;go_simp
         (try go_wp2_with fail)
         refine hK.out _ _ (trivial) ?_;clear hK K;intro hHeld
         try simp only[Act.put,s1,s2,s3]
         clear cA aB;refine wpAnyH_done (by kernel_rfl) ?_ _;exact hfin.out
       ·obtain⟨-,-,-,-,-,⟨cA,-⟩⟩:=bE.out;go_simp
        (try go_wp2_with fail)
        refine hK.out _ _ (trivial) ?_;clear hK K;intro hHeld
        try simp only[Act.put,s1,s2,s3]
        clear cA;refine tk 10 (h:=?_);refine rd [0] (rc (fun K hK=>?_) .nil);go_simp
        (try go_wp2_with fail)
        refine hK.out _ _ (trivial) ?_;clear hK K;intro hHeld
        try simp only[Act.put,s1,s2,s3]
        refine rd [5] (rc (fun K hK=>?_) .nil);refine zM rfl (.tmp 142) (.tmp 146) 38 rfl _ _ _ rfl rfl sA.out ?_
        (try go_wp2_with fail)
        refine hK.out _ _ (trivial) ?_;clear hK K;intro hHeld
        try simp only[Act.put,s1,s2,s3]
        refine rd [11] (rc (fun K hK=>?_) .nil);refine zM rfl (.tmp 147) (.tmp 152) 38 rfl _ _ _ rfl rfl tA.out ?_
        (try go_wp2_with fail)
        refine hK.out _ _ (trivial) ?_;clear hK K;intro hHeld
        try simp only[Act.put,s1,s2,s3]
        refine tk 12 (h:=?_);refine rd [13] (rc (fun K hK=>?_) .nil);obtain⟨-,-,-,-,-,⟨cA,aB⟩⟩:=cB.out;go_simp
        (try go_wp2_with fail)
        refine hK.out _ _ (trivial) ?_;clear hK K;intro hHeld
        try simp only[Act.put,s1,s2,s3]
        clear cA aB;refine wpAnyH_done (by kernel_rfl) ?_ _;exact hfin.out
      ·obtain⟨-,-,-,-,-,⟨cA,-⟩⟩:=bE.out;go_simp
       (try go_wp2_with fail)
       refine hK.out _ _ (trivial) ?_;clear hK K;intro hHeld
       try simp only[Act.put,s1,s2,s3]
       clear cA;refine tk 10 (h:=?_);refine rd [0,2] (rc (fun K hK=>?_) (rc (fun K hK=>?_) .nil))
       ·go_simp
        (try go_wp2_with fail)
        refine hK.out _ _ (trivial) ?_;clear hK K;intro hHeld
        try simp only[Act.put,s1,s2,s3]
        refine rd [2] (rc (fun K hK=>?_) .nil);obtain⟨-,-,-,-,-,⟨cA,-⟩⟩:=aD.out;go_simp
        (try go_wp2_with fail)
        refine hK.out _ _ (trivial) ?_;clear hK K;intro hHeld
        try simp only[Act.put,s1,s2,s3]
        clear cA;refine tk 4 (h:=?_);refine rd [5] (rc (fun K hK=>?_) .nil);refine zM rfl (.tmp 142) (.tmp 146) 38 rfl _ _ _ rfl rfl sA.out ?_
        (try go_wp2_with fail)
        refine hK.out _ _ (trivial) ?_;clear hK K;intro hHeld
        try simp only[Act.put,s1,s2,s3]
        refine rd [11] (rc (fun K hK=>?_) .nil);refine zM rfl (.tmp 147) (.tmp 152) 38 rfl _ _ _ rfl rfl tA.out ?_
        (try go_wp2_with fail)
        refine hK.out _ _ (trivial) ?_;clear hK K;intro hHeld
        try simp only[Act.put,s1,s2,s3]
        refine tk 12 (h:=?_);refine rd [13] (rc (fun K hK=>?_) .nil);obtain⟨-,-,-,-,-,⟨cA,aB⟩⟩:=cB.out;go_simp
        (try go_wp2_with fail)
        refine hK.out _ _ (trivial) ?_;clear hK K;intro hHeld
        try simp only[Act.put,s1,s2,s3]
        clear cA aB;refine wpAnyH_done (by kernel_rfl) ?_ _;exact hfin.out
       ·obtain⟨-,-,-,-,-,⟨cA,-⟩⟩:=bE.out;go_simp
        (try go_wp2_with fail)
        refine hK.out _ _ (trivial) ?_;clear hK K;intro hHeld
        try simp only[Act.put,s1,s2,s3]
        clear cA;refine tk 4 (h:=?_);refine rd [0] (rc (fun K hK=>?_) .nil);go_simp
        (try go_wp2_with fail)
        refine hK.out _ _ (trivial) ?_;clear hK K;intro hHeld
        try simp only[Act.put,s1,s2,s3]
        refine rd [5] (rc (fun K hK=>?_) .nil);refine zM rfl (.tmp 142) (.tmp 146) 38 rfl _ _ _ rfl rfl sA.out ?_
        (try go_wp2_with fail)
        refine hK.out _ _ (trivial) ?_;clear hK K;intro hHeld
        try simp only[Act.put,s1,s2,s3]
        refine rd [11] (rc (fun K hK=>?_) .nil);refine zM rfl (.tmp 147) (.tmp 152) 38 rfl _ _ _ rfl rfl tA.out ?_
        (try go_wp2_with fail)
        refine hK.out _ _ (trivial) ?_;clear hK K;intro hHeld
        try simp only[Act.put,s1,s2,s3]
        refine tk 12 (h:=?_);refine rd [13] (rc (fun K hK=>?_) .nil);obtain⟨-,-,-,-,-,⟨cA,aB⟩⟩:=cB.out;go_simp
        (try go_wp2_with fail)
        refine hK.out _ _ (trivial) ?_;clear hK K;intro hHeld
        try simp only[Act.put,s1,s2,s3]
        clear cA aB;refine wpAnyH_done (by kernel_rfl) ?_ _;exact hfin.out
     go_upto_region 29 with fail;have tG:=zE.put fC V 5 (.slice da (W.pn - 1) eA);have nD:zE (fun i=>i=V) wr (fC.setCell ⟨V,5,none⟩ (.slice da (W.pn - 1) eA)):=(zE.zOX pB).trans tG;have jK:=tG.size;have rH:=zB (show za (fC.setCell ⟨V,5,none⟩ (.slice da (W.pn - 1) eA)) V (.slice ya W2.zOa.n yc) (.slice yb W2.zOa.hn yd) (.int .i64 W.time) (.int .i64 W.next) (.slice (some ⟨sb,so,none⟩) W.sn sc) (.slice da (W.pn - 1) eA)from⟨cB.out.1.zOV _ (Or.inr (by decide)),cB.out.2.1.zOV _ (Or.inr (by decide)),cB.out.2.2.1.zOV _ (Or.inr (by decide)),cB.out.2.2.2.1.zOV _ (Or.inr (by decide)),cB.out.2.2.2.2.1.zOV _ (Or.inr (by decide)),cB.out.2.2.2.2.2.set _⟩);have jB:=zB (fJ.out.zOW nD (fun h=>by omega));have kB:Below w.heap.size w (fC.setCell ⟨V,5,none⟩ (.slice da (W.pn - 1) eA)):=kH.out.trans (nD.zOU (B:=w.heap.size) kH.out.size (fun i h=>by omega));obtain⟨g',hg⟩:∃g',0<W.pn - 1->da=some ⟨g',0,none⟩/\wr.heap.size<=g'/\g'<fC.heap.size/\∀i,i<(W.pn - 1)*8->zT fC g' i (if i<k*8 then(fun i=>cellSnap W2.zOb iB (i / 8) (i % 8)) i else(fun i=>cellSnap W2.zOb iB (i / 8) (i % 8)) (i+8)):=by
      by_cases h0:0<W.pn - 1
      ·obtain⟨g,h1,h2,h3,h4⟩:=tI.out h0;exact⟨g,fun _=>⟨h1,h2,h3,h4⟩⟩
      ·exact⟨0,fun h=>absurd h h0⟩
     obtain⟨g2,hg2⟩:∃g2,(0<W.pn - 1->g2=g')/\(¬0<W.pn - 1->g2=wr.heap.size):=by
      by_cases h0:0<W.pn - 1
      ·exact⟨g',fun _=>rfl,fun h=>absurd h0 h⟩
      ·exact⟨wr.heap.size,fun h=>absurd h h0,fun _=>rfl⟩
     have aC:∀i,i<W.pn->0<(W2.zOb i).dn->¬oD i=V/\oD i≠g2:=fun i hi h0=>by
      have:=kA.out _ (Or.inr (Or.inr (tD.out _ (Or.inr ⟨i,hi,h0,rfl⟩))));refine⟨this.2.2.1,?_⟩;by_cases h1:0<W.pn - 1
      ·rw[hg2.1 h1];have:=(hg h1).2.1;omega
      ·rw[hg2.2 h1];omega
     obtain⟨d1,d2,d3⟩:=zKN (g:=g2) (a2:=da) (cap:=eA) iJ.out dG.out hk nD aC pE (fun h0=>by
      obtain⟨e1,e2,e3,e4⟩:=hg h0;rw[hg2.1 h0];refine⟨e1,fun i hi r hr=>?_⟩;have h:=(e4 (i*8+r) (by omega)).zOV (b':=V) (o':=5) (.slice da (W.pn - 1) eA) (Or.inl (by omega));dsimp only at h;by_cases e:i<k
      ·rw[if_pos (by omega),show(i*8+r) / 8=i by omega,show(i*8+r) % 8=r by omega]at h;have ec:cellSnap (del W2.zOb k) (del iB k) i r=cellSnap W2.zOb iB i r:=(by unfold cellSnap;rw[show del W2.zOb k i=W2.zOb i from if_pos e,show del iB k i=iB i from if_pos e]);rw[ec];exact h
      ·rw[if_neg (by omega),show(i*8+r+8) / 8=i+1 by omega,show(i*8+r+8) % 8=r by omega]at h;have ec:cellSnap (del W2.zOb k) (del iB k) i r=cellSnap W2.zOb iB (i+1) r:=(by unfold cellSnap;rw[show del W2.zOb k i=W2.zOb (i+1)from if_neg e,show del iB k i=iB (i+1)from if_neg e]);rw[ec];exact h)
     have mH:=zB (show zf (fC.setCell ⟨V,5,none⟩ (.slice da (W.pn - 1) eA)) w4.heap.size (fC.setCell ⟨V,5,none⟩ (.slice da (W.pn - 1) eA)).heap.size (.slice ya W2.zOa.n yc) (.slice yb W2.zOa.hn yd) (.slice (some ⟨sb,so,none⟩) W.sn sc) (.slice da (W.pn - 1) eA) {W2 with pn:=W2.pn - 1,zOb:=del W2.zOb k}from by
      have aK:∀j,zAY g2 (del oD k) (W.pn - 1) (del W2.zOb k) j->R2 j\/(wr.heap.size<=j/\j<fC.heap.size):=fun j hj=>by
       rcases d3 j hj with⟨h0,rfl⟩ | ⟨i,hi,h0,rfl⟩
       ·rw[hg2.1 h0];exact Or.inr ⟨(hg h0).2.1,(hg h0).2.2.1⟩
       ·exact Or.inl (tD.out _ (Or.inr ⟨i,hi,h0,rfl⟩))
      have e1:=vI.out;refine⟨P2,Q2,_,⟨lB.out.zOa.zOW nD (fun i hi e=>(kA.out i (Or.inl hi)).2.2.1 e),lB.out.zOd.zOW nD (fun i hi e=>(kA.out i (Or.inr (Or.inl hi))).2.2.1 e),⟨g2,del oD k,del iB k,by show qI _ _ _ _ _ (W2.pn - 1) _;rw[e1];exact d1,by show yF _ (W2.pn - 1) _;rw[e1];exact d2,fun j hj=>aK j (by have h:zAY g2 (del oD k) (W2.pn - 1) (del W2.zOb k) j:=hj;rw[e1]at h;exact h)⟩,lB.out.pq,fun i hi hq=>?_,fun i hi hq=>?_⟩,fun i hi=>?_⟩
      ·rcases hq with hq | hq
       ·exact lB.out.pr i hi hq
       ·have:=kA.out i (Or.inl hi);omega
      ·rcases hq with hq | hq
       ·exact lB.out.qr i hi hq
       ·have:=kA.out i (Or.inr (Or.inl hi));omega
      ·rcases hi with h | h | h | h
       ·have:=kA.out i (Or.inl h);omega
       ·have:=kA.out i (Or.inr (Or.inl h));omega
       ·have:=kA.out i (Or.inr (Or.inr h));omega
       ·omega)
     clear nD tG d1 d2 d3;generalize (fC.setCell ⟨V,5,none⟩ (.slice da (W.pn - 1) eA))=wz at rH jB jK kB mH ⊢;obtain⟨⟨v0,-⟩,⟨v1,-⟩,⟨v2,-⟩,⟨v3,-⟩,⟨v4,-⟩,⟨v5,-⟩⟩:=rH.out;obtain⟨⟨r0,g0⟩,⟨r1,g1⟩,⟨r2,g2⟩,⟨r3,g3⟩,⟨r4,g4⟩,⟨r5,g5⟩,⟨r6,g6⟩,⟨r7,g7⟩,⟨r8,g8⟩⟩:=jB.out;go_wp2_with fail;have bA:=jB.out.put (.slice ya W2.zOa.n yc) (.slice yb W2.zOa.hn yd) (.int .i64 W.time) (.int .i64 W.next) (.slice (some ⟨sb,so,none⟩) W.sn sc) (.slice da (W.pn - 1) eA) (.int .i64 0) (.int .i64 m) (.int .i64 0);have hT:=zE.put9 wz (w.heap.size+1) (.slice ya W2.zOa.n yc) (.slice yb W2.zOa.hn yd) (.int .i64 W.time) (.int .i64 W.next) (.slice (some ⟨sb,so,none⟩) W.sn sc) (.slice da (W.pn - 1) eA) (.int .i64 0) (.int .i64 m) (.int .i64 0);clear r0 g0 r1 g1 r2 g2 r3 g3 r4 g4 r5 g5 r6 g6 r7 g7 r8 g8;refine bodyPost_ret (v:=.agg #[.slice ya W2.zOa.n yc,.slice yb W2.zOa.hn yd,.int .i64 W.time,.int .i64 W.next,.slice (some ⟨sb,so,none⟩) W.sn sc,.slice da (W.pn - 1) eA,.int .i64 0,.int .i64 m,.int .i64 0]) (by simp[results,Tryz.results26,go_sem,bA.1.1,bA.2.1.1,bA.2.2.1.1,bA.2.2.2.1.1,bA.2.2.2.2.1.1,bA.2.2.2.2.2.1.1,bA.2.2.2.2.2.2.1.1,bA.2.2.2.2.2.2.2.1.1,bA.2.2.2.2.2.2.2.2.1]) rfl ⟨none,⟨{W2 with pn:=W2.pn - 1,zOb:=del W2.zOb k},0,m,0⟩,Or.inr (Or.inr (Or.inr ⟨HL.out,Hw.out,jG.out,eJ.out,rfl⟩)),fun _=>⟨k,HK.out,dJ.out⟩,?_⟩;show zw ⟨{W2 with pn:=W2.pn - 1,zOb:=del W2.zOb k},0,m,0⟩ w _ _;refine⟨_,_,_,_,?_,(mH.out.zOW hT (fun i e=>by omega)).zOZ (by omega) hT.size,kB.trans (hT.zOU (B:=w.heap.size) kB.size (fun i e=>by omega))⟩;unfold zH8;rw[show({W2 with pn:=W2.pn - 1,zOb:=del W2.zOb k}:zH).time=W.time from pD.out.1,show({W2 with pn:=W2.pn - 1,zOb:=del W2.zOb k}:zH).next=W.next from pD.out.2]
end Go.Proofs.YtgabgheflgjgiaaGreatDoor
