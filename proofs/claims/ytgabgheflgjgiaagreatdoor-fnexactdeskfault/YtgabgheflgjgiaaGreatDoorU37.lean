/- A part of the proof. -/
import Derived.Test.YtgabgheflgjgiaaGreatDoorU36
set_option linter.unusedVariables false
set_option maxRecDepth 20000
set_option maxHeartbeats 4000000
namespace Go.Proofs.YtgabgheflgjgiaaGreatDoor
open Go.RowKit
theorem zEd(v0 v1 v2 v3:Value)(lo hi:Nat)(W:zH)(name:ByteArray)(w:World)(h:zr w lo hi v0 v1 v2 v3 W)(b1:qA W.zOv<=1048576)(b2:W.sn<=1048576)(b3:W.pn<=1048576)(b4:zAt W)(fC:name.size<=maxLen) :
  Calls Tryz.prog 27 #[qT v0 v1 v2 v3 W,.string name] w (qv W name w):=by
 have Hp:=zB h;obtain⟨a0,c0,a1,c1,a2,c2,a3,c3,rfl,rfl,rfl,rfl⟩:=h.form;have m1:=h.zOy.1;have m2:=h.zOw.1;unfold maxLen at m1 m2;clear h;unfold maxLen at fC;have aF:=zC w (.cells #[.slice a0 W.zOv.n c0,.slice a1 W.zOv.hn c1,.int .i64 W.time,.int .i64 W.next,.slice a2 W.sn c2,.slice a3 W.pn c3] 40);have nD:=zC (w.alloc (.cells #[.slice a0 W.zOv.n c0,.slice a1 W.zOv.hn c1,.int .i64 W.time,.int .i64 W.next,.slice a2 W.sn c2,.slice a3 W.pn c3] 40)) (.cells #[.slice none 0 0,.slice none 0 0,.int .i64 0,.int .i64 0,.slice none 0 0,.slice none 0 0,.int .i64 0,.int .i64 0,.int .i64 0] 71);have hb:=zA aF nD;have HX:=zB ((za.zOt w (.slice a0 W.zOv.n c0) (.slice a1 W.zOv.hn c1) (.int .i64 W.time) (.int .i64 W.next) (.slice a2 W.sn c2) (.slice a3 W.pn c3) 40).zOp nD);have hr:=zBi.zOt (w.alloc (.cells #[.slice a0 W.zOv.n c0,.slice a1 W.zOv.hn c1,.int .i64 W.time,.int .i64 W.next,.slice a2 W.sn c2,.slice a3 W.pn c3] 40)) (.slice none 0 0) (.slice none 0 0) (.int .i64 0) (.int .i64 0) (.slice none 0 0) (.slice none 0 0) (.int .i64 0) (.int .i64 0) (.int .i64 0) 71;rw[World.size_alloc]at hr;have HR:=zB hr;have hz:((w.alloc (.cells #[.slice a0 W.zOv.n c0,.slice a1 W.zOv.hn c1,.int .i64 W.time,.int .i64 W.next,.slice a2 W.sn c2,.slice a3 W.pn c3] 40)).alloc (.cells #[.slice none 0 0,.slice none 0 0,.int .i64 0,.int .i64 0,.slice none 0 0,.slice none 0 0,.int .i64 0,.int .i64 0,.int .i64 0] 71)).heap.size>=w.heap.size+2:=by rw[World.size_alloc,World.size_alloc];omega
 clear hr;go_enter Tryz.func27,Tryz.ntmps27;go_upto_region 1 with fail;generalize (w.alloc (.cells #[.slice a0 W.zOv.n c0,.slice a1 W.zOv.hn c1,.int .i64 W.time,.int .i64 W.next,.slice a2 W.sn c2,.slice a3 W.pn c3] 40)).alloc (.cells #[.slice none 0 0,.slice none 0 0,.int .i64 0,.int .i64 0,.slice none 0 0,.slice none 0 0,.int .i64 0,.int .i64 0,.int .i64 0] 71)=W1 at hb HX HR hz ⊢;clear aF nD;by_cases rD:8000<name.size
 ·have a1:(8000:Int)<(name.size:Int):=(by omega);go_wp2_with fail;refine(zR 2 _).mono ?_;rintro e wz ⟨rfl,rA⟩;have iA:=zA hb rA;have fA:=zB (HR.out.zOp rA);obtain⟨⟨r0,g0⟩,⟨r1,g1⟩,⟨r2,g2⟩,⟨r3,g3⟩,⟨r4,g4⟩,⟨r5,g5⟩,⟨r6,g6⟩,⟨r7,g7⟩,⟨r8,g8⟩⟩:=fA.out;go_wp2_with fail;have aA:=fA.out.put (.slice none 0 0) (.slice none 0 0) (.int .i64 0) (.int .i64 0) (.slice none 0 0) (.slice none 0 0) (.int .i64 0) (.int .i64 0) (.int .i64 2);have hT:=zE.put9 wz (w.heap.size+1) (.slice none 0 0) (.slice none 0 0) (.int .i64 0) (.int .i64 0) (.slice none 0 0) (.slice none 0 0) (.int .i64 0) (.int .i64 0) (.int .i64 2);clear r0 g0 r1 g1 r2 g2 r3 g3 r4 g4 r5 g5 r6 g6 r7 g7 r8 g8;refine bodyPost_ret (v:=.agg #[.slice none 0 0,.slice none 0 0,.int .i64 0,.int .i64 0,.slice none 0 0,.slice none 0 0,.int .i64 0,.int .i64 0,.int .i64 2]) (by simp[results,Tryz.results27,go_sem,aA.1.1,aA.2.1.1,aA.2.2.1.1,aA.2.2.2.1.1,aA.2.2.2.2.1.1,aA.2.2.2.2.2.1.1,aA.2.2.2.2.2.2.1.1,aA.2.2.2.2.2.2.2.1.1,aA.2.2.2.2.2.2.2.2.1]) rfl (qv.ill (i:=1) (Or.inl ⟨zDL.2 rD,rfl⟩) ?_);exact⟨_,_,_,_,rfl,zi,iA.trans (hT.zOp (B:=w.heap.size) iA.size (fun k e=>by omega))⟩
 have e1:¬(8000:Int)<(name.size:Int):=by omega
 have HL:=zB (show ¬(∃i,i<1/\8000<((fun (_:Nat)=>name) i).size)from fun h=>rD (zDL.1 h));have dD:=zB (show ¬(∃i,i<0/\¬qV ((fun _=>⟨#[]⟩) i))from fun ⟨i,hi,_⟩=>absurd hi (Nat.not_lt_zero _));clear rD;obtain⟨⟨x0,-⟩,⟨x1,-⟩,⟨x2,-⟩,⟨x3,-⟩,⟨x4,-⟩,⟨x5,-⟩⟩:=HX.out;go_wp2_with fail;clear x0 x1 x2 x3 x4 x5 e1;refine(zv _ _ _ _ lo hi W W1 (Hp.out.zOp hb)).mono ?_;rintro e w2 ⟨⟨t,rfl,ht⟩,aC⟩;have eD:=zA hb aC;have nA:=zB (HR.out.zOp aC);have nE:=zB (HX.out.zOp aC);have fI:=aC.size;clear aC;by_cases hw:zBr W;rotate_left
 ·obtain rfl:t=false:=zP ht hw;have Hw:=zB hw;clear ht hw;go_wp2_with fail;refine(zR 1 _).mono ?_;rintro e wz ⟨rfl,rA⟩;have iA:=zA eD rA;have fA:=zB (nA.out.zOp rA);obtain⟨⟨r0,g0⟩,⟨r1,g1⟩,⟨r2,g2⟩,⟨r3,g3⟩,⟨r4,g4⟩,⟨r5,g5⟩,⟨r6,g6⟩,⟨r7,g7⟩,⟨r8,g8⟩⟩:=fA.out;go_wp2_with fail;have aA:=fA.out.put (.slice none 0 0) (.slice none 0 0) (.int .i64 0) (.int .i64 0) (.slice none 0 0) (.slice none 0 0) (.int .i64 0) (.int .i64 0) (.int .i64 1);have hT:=zE.put9 wz (w.heap.size+1) (.slice none 0 0) (.slice none 0 0) (.int .i64 0) (.int .i64 0) (.slice none 0 0) (.slice none 0 0) (.int .i64 0) (.int .i64 0) (.int .i64 1);clear r0 g0 r1 g1 r2 g2 r3 g3 r4 g4 r5 g5 r6 g6 r7 g7 r8 g8;refine bodyPost_ret (v:=.agg #[.slice none 0 0,.slice none 0 0,.int .i64 0,.int .i64 0,.slice none 0 0,.slice none 0 0,.int .i64 0,.int .i64 0,.int .i64 1]) (by simp[results,Tryz.results27,go_sem,aA.1.1,aA.2.1.1,aA.2.2.1.1,aA.2.2.2.1.1,aA.2.2.2.2.1.1,aA.2.2.2.2.2.1.1,aA.2.2.2.2.2.2.1.1,aA.2.2.2.2.2.2.2.1.1,aA.2.2.2.2.2.2.2.2.1]) rfl (qv.ill (i:=0) (Or.inr (Or.inl ⟨HL.out,Or.inl (fun h=>Hw.out ((qM W).1 h)),rfl⟩)) ?_);exact⟨_,_,_,_,rfl,zi,iA.trans (hT.zOp (B:=w.heap.size) iA.size (fun k e=>by omega))⟩
 obtain rfl:t=true:=ht.2 hw;have oB:=zB hw;have Hw:=zB ((qM W).2 hw);clear ht hw;obtain⟨⟨x0,-⟩,⟨x1,-⟩,⟨x2,-⟩,⟨x3,-⟩,⟨x4,-⟩,⟨x5,-⟩⟩:=nE.out;go_wp2_with fail;clear x0 x1 x2 x3 x4 x5;refine(yY _ _ _ _ lo hi W name _ (Hp.out.zOp eD)).mono ?_;rintro e w3 ⟨r,rfl,hF,bC⟩;have fD:=zA eD bC;have eE:=zB (nA.out.zOp bC);have oE:=zB (nE.out.zOp bC);have gI:=bC.size;clear bC;rcases hF with⟨k,hk,rE,gC,rfl⟩ | ⟨eF,rfl⟩;rotate_left
 ·have bG:=zB eF;clear eF;go_wp2_with fail;refine(zR 4 _).mono ?_;rintro e wz ⟨rfl,rA⟩;have iA:=zA fD rA;have fA:=zB (eE.out.zOp rA);obtain⟨⟨r0,g0⟩,⟨r1,g1⟩,⟨r2,g2⟩,⟨r3,g3⟩,⟨r4,g4⟩,⟨r5,g5⟩,⟨r6,g6⟩,⟨r7,g7⟩,⟨r8,g8⟩⟩:=fA.out;go_wp2_with fail;have aA:=fA.out.put (.slice none 0 0) (.slice none 0 0) (.int .i64 0) (.int .i64 0) (.slice none 0 0) (.slice none 0 0) (.int .i64 0) (.int .i64 0) (.int .i64 4);have hT:=zE.put9 wz (w.heap.size+1) (.slice none 0 0) (.slice none 0 0) (.int .i64 0) (.int .i64 0) (.slice none 0 0) (.slice none 0 0) (.int .i64 0) (.int .i64 0) (.int .i64 4);clear r0 g0 r1 g1 r2 g2 r3 g3 r4 g4 r5 g5 r6 g6 r7 g7 r8 g8;refine bodyPost_ret (v:=.agg #[.slice none 0 0,.slice none 0 0,.int .i64 0,.int .i64 0,.slice none 0 0,.slice none 0 0,.int .i64 0,.int .i64 0,.int .i64 4]) (by simp[results,Tryz.results27,go_sem,aA.1.1,aA.2.1.1,aA.2.2.1.1,aA.2.2.2.1.1,aA.2.2.2.2.1.1,aA.2.2.2.2.2.1.1,aA.2.2.2.2.2.2.1.1,aA.2.2.2.2.2.2.2.1.1,aA.2.2.2.2.2.2.2.2.1]) rfl (qv.ill (i:=2) (Or.inr (Or.inr (Or.inl ⟨HL.out,Hw.out,dD.out,0,by omega,fun ⟨j,hj,h⟩=>bG.out j hj h,fun j hj=>absurd hj (Nat.not_lt_zero _),rfl⟩))) ?_);exact⟨_,_,_,_,rfl,zi,iA.trans (hT.zOp (B:=w.heap.size) iA.size (fun k e=>by omega))⟩
 have HN:=zB (show zAO W name k from⟨hk,rE,gC⟩);clear rE gC;have k0:¬(k:Int)<0:=by omega
 have aI:(k:Int)<(W.sn:Int):=by omega
 have dE:=zB (show ∀j,j<1->(fun i=>match i with | 0=>zx W name | _=>¬∃i,i<W.pn/\(W.zOw i).set=name) j from fun j hj=>by
  obtain rfl:j=0:=(by omega);exact⟨k,HN.out.1,HN.out.2.1⟩)
 obtain⟨⟨x0,-⟩,⟨x1,-⟩,⟨x2,-⟩,⟨x3,-⟩,⟨x4,-⟩,⟨x5,-⟩⟩:=oE.out;go_wp2_with fail;clear x0 x1 x2 x3 x4 x5;refine(zKH _ _ _ _ lo hi W name _ (Hp.out.zOp fD)).mono ?_;rintro e w4 ⟨⟨t,rfl,ht⟩,gA⟩;have gD:=zA fD gA;have fE:=zB (eE.out.zOp gA);have pE:=zB (oE.out.zOp gA);have iI:=gA.size;clear gA;by_cases hq:∃i,i<W.pn/\(W.zOw i).set=name
 ·obtain rfl:t=true:=ht.2 hq;have Hq:=zB hq;clear ht hq;go_wp2_with fail;refine(zR 7 _).mono ?_;rintro e wz ⟨rfl,rA⟩;have iA:=zA gD rA;have fA:=zB (fE.out.zOp rA);obtain⟨⟨r0,g0⟩,⟨r1,g1⟩,⟨r2,g2⟩,⟨r3,g3⟩,⟨r4,g4⟩,⟨r5,g5⟩,⟨r6,g6⟩,⟨r7,g7⟩,⟨r8,g8⟩⟩:=fA.out;go_wp2_with fail;have aA:=fA.out.put (.slice none 0 0) (.slice none 0 0) (.int .i64 0) (.int .i64 0) (.slice none 0 0) (.slice none 0 0) (.int .i64 0) (.int .i64 0) (.int .i64 7);have hT:=zE.put9 wz (w.heap.size+1) (.slice none 0 0) (.slice none 0 0) (.int .i64 0) (.int .i64 0) (.slice none 0 0) (.slice none 0 0) (.int .i64 0) (.int .i64 0) (.int .i64 7);clear r0 g0 r1 g1 r2 g2 r3 g3 r4 g4 r5 g5 r6 g6 r7 g7 r8 g8;refine bodyPost_ret (v:=.agg #[.slice none 0 0,.slice none 0 0,.int .i64 0,.int .i64 0,.slice none 0 0,.slice none 0 0,.int .i64 0,.int .i64 0,.int .i64 7]) (by simp[results,Tryz.results27,go_sem,aA.1.1,aA.2.1.1,aA.2.2.1.1,aA.2.2.2.1.1,aA.2.2.2.2.1.1,aA.2.2.2.2.2.1.1,aA.2.2.2.2.2.2.1.1,aA.2.2.2.2.2.2.2.1.1,aA.2.2.2.2.2.2.2.2.1]) rfl (qv.ill (i:=5) (Or.inr (Or.inr (Or.inl ⟨HL.out,Hw.out,dD.out,1,by omega,fun h=>h Hq.out,dE.out,rfl⟩))) ?_);exact⟨_,_,_,_,rfl,zi,iA.trans (hT.zOp (B:=w.heap.size) iA.size (fun k e=>by omega))⟩
 obtain rfl:t=false:=zP ht hq;have oF:=zB (show ∀i,i<2->(fun i=>match i with | 0=>zx W name | _=>¬∃i,i<W.pn/\(W.zOw i).set=name) i from fun i hi=>by
  rcases(by omega:i=0\/i=1)with rfl | rfl
  ·exact dE.out 0 (by omega)
  ·exact hq)
 clear ht hq;obtain⟨⟨x0,-⟩,⟨x1,-⟩,⟨x2,-⟩,⟨x3,-⟩,⟨x4,-⟩,⟨x5,-⟩⟩:=pE.out;go_wp2_with fail;clear x0 x1 x2 x3 x4 x5;refine(yq _ _ _ _ lo hi W _ (Hp.out.zOp gD) b1 b2 b3 b4).mono ?_;rintro e w5 ⟨z0,z1,z2,z3,rfl,ho,mC⟩;obtain⟨P,Q,R,eC,cB⟩:=ho;have pC:=eC.isIn;obtain⟨sb,kb,kv,hS,sE,lD⟩:=pC.zOy;obtain⟨so,tA,rfl,lG⟩:=hS.nth hk;obtain⟨l0,dB,l1,rC,l2,tG,l3,eB,rfl,rfl,e2,rfl⟩:=zf.form (lo:=w4.heap.size) (hi:=w5.heap.size) ⟨P,Q,R,pC,cB⟩;clear e2;have jG:W.sn<=tA:=by obtain⟨_,a,c',e,h,_⟩:=hS;injection e with e1 e2 e3;omega
 have cG:=zA gD mC;have jI:=mC.size;have jB:=zC w5 (.cells #[.slice l0 W.zOv.n dB,.slice l1 W.zOv.hn rC,.int .i64 W.time,.int .i64 W.next,.slice (some ⟨sb,so,none⟩) W.sn tA,.slice l3 W.pn eB] 40);have oG:(w5.alloc (.cells #[.slice l0 W.zOv.n dB,.slice l1 W.zOv.hn rC,.int .i64 W.time,.int .i64 W.next,.slice (some ⟨sb,so,none⟩) W.sn tA,.slice l3 W.pn eB] 40)).heap.size=w5.heap.size+1:=World.size_alloc _ _;have lE:=zB (za.zOt w5 (.slice l0 W.zOv.n dB) (.slice l1 W.zOv.hn rC) (.int .i64 W.time) (.int .i64 W.next) (.slice (some ⟨sb,so,none⟩) W.sn tA) (.slice l3 W.pn eB) 40);have fB:=zB pC;have eA:=zB cB;have sF:=zB hS;have tC:=zB sE;have kC:=zB lD;have jD:Q sb:=lD _ (Or.inl ⟨by omega,rfl⟩);have mG:=cB sb (Or.inr (Or.inl jD));have jH:=zB jD;have bD:=zB ((pE.out.zOp mC).zOp jB);have gE:=zB ((fE.out.zOp mC).zOp jB);have rB:=zA cG jB;clear eC pC cB hS sE lD lG jD;obtain⟨ab,ao,lH,rfl,jF⟩:=Hp.out.zOy.cells hk;have vC:=zB jF;clear jF;go_upto_region 11 with fail;generalize w5.alloc (.cells #[.slice l0 W.zOv.n dB,.slice l1 W.zOv.hn rC,.int .i64 W.time,.int .i64 W.next,.slice (some ⟨sb,so,none⟩) W.sn tA,.slice l3 W.pn eB] 40)=w6 at jB oG lE bD gE rB ⊢;have lA:Below w6.heap.size w6 w6.drew:=(Below.refl _ _).drew;have gB:=zB (show ∀w',Below w6.heap.size w6 w'->(fun w':World=>w'.cell? ⟨w.heap.size,0,none⟩=some (.slice a0 W.zOv.n c0)/\w'.cell? ⟨w.heap.size,1,none⟩=some (.slice a1 W.zOv.hn c1)/\w'.cell? ⟨w.heap.size,2,none⟩=some (.int .i64 W.time)/\w'.cell? ⟨w.heap.size,3,none⟩=some (.int .i64 W.next)/\w'.cell? ⟨w.heap.size,4,none⟩=some (.slice (some ⟨ab,ao,none⟩) W.sn c2)/\w'.cell? ⟨w.heap.size,5,none⟩=some (.slice a3 W.pn c3)/\w'.cell? ⟨ab,ao+k*6+2,none⟩=some (.int .i64 (W.zOy k).zO0)) w' from fun w' hb=>by
  have hx:=bD.out.zOp hb;exact⟨hx.1.1,hx.2.1.1,hx.2.2.1.1,hx.2.2.2.1.1,hx.2.2.2.2.1.1,hx.2.2.2.2.2.1,(vC.out.zOp (zA rB hb)).c2⟩)
 refine wp_region_held_drew (S:=(fun w':World=>w'.cell? ⟨w.heap.size,0,none⟩=some (.slice a0 W.zOv.n c0)/\w'.cell? ⟨w.heap.size,1,none⟩=some (.slice a1 W.zOv.hn c1)/\w'.cell? ⟨w.heap.size,2,none⟩=some (.int .i64 W.time)/\w'.cell? ⟨w.heap.size,3,none⟩=some (.int .i64 W.next)/\w'.cell? ⟨w.heap.size,4,none⟩=some (.slice (some ⟨ab,ao,none⟩) W.sn c2)/\w'.cell? ⟨w.heap.size,5,none⟩=some (.slice a3 W.pn c3)/\w'.cell? ⟨ab,ao+k*6+2,none⟩=some (.int .i64 (W.zOy k).zO0))) (by kernel_rfl) (gB.out _ lA) (fun hHeld=>?_);generalize w6.drew=q0 at hHeld lA ⊢
 refine' zCu (fun hfin=>_) _
 rotate_left
 ·skip;refine tk 0 (h:=tk 1 (h:=tk 2 (h:=tk 3 (h:=tk 4 (h:=tk 5 (h:=tk 6 (h:=?_)))))));refine rd [7,11] (rc (fun K hK=>?_) (rc (fun K hK=>?_) .nil))
  ·skip;go_simp;go_at_call 54;refine(yS _ _ _ _ lo hi W (W.zOy k).zO0 _ (Hp.out.zOp (zA rB lA))).mono ?_;rintro e w4 ⟨s,b,t,rfl,hA,gA⟩
   (try go_wp2_with fail)
   refine hK.out _ _ (gB.out _ (zA lA gA)) ?_;clear hK K;intro hHeld
   try simp only[Act.put,s1,s2,s3]
   refine tk 8 (h:=tk 9 (h:=tk 10 (h:=?_)));refine rd [11] (rc (fun K hK=>?_) .nil);have bB:=zC w4 (.cells #[.int .i64 0,.int .i64 0] 99);go_simp
   (try go_wp2_with fail)
   refine hK.out _ _ (gB.out _ (zA (zA lA gA) bB)) ?_;clear hK K;intro hHeld
   try simp only[Act.put,s1,s2,s3]
   refine rd [12] (rc (fun K hK=>?_) .nil);have oD:=zC w4 (.cells #[.int .i64 s,.int .i64 b] 99);go_simp
   (try go_wp2_with fail)
   refine hK.out _ _ (gB.out _ (zA (zA lA gA) oD)) ?_;clear hK K;intro hHeld
   try simp only[Act.put,s1,s2,s3]
   refine tk 13 (h:=?_);have mA:Below w6.heap.size w6 (w4.alloc (.cells #[.int .i64 s,.int .i64 b] 99)):=zA (zA lA gA) oD;generalize (w4.alloc (.cells #[.int .i64 s,.int .i64 b] 99))=wq at mA ⊢;generalize (Value.pointer (some ⟨w4.heap.size,0,none⟩))=pv;refine wpAnyH_done (by kernel_rfl) ?_ _;clear hHeld bB oD;revert wq pv;revert hA;revert t b s;exact hfin.out
  ·skip;have bB:=zC q0 (.cells #[.int .i64 0,.int .i64 0] 99);have cE:=zB (zk.zOt q0 (.int .i64 0) (.int .i64 0) 99);go_simp
   (try go_wp2_with fail)
   refine hK.out _ _ (gB.out _ (zA lA bB)) ?_;clear hK K;intro hHeld
   try simp only[Act.put,s1,s2,s3]
   generalize q0.alloc (.cells #[.int .i64 0,.int .i64 0] 99)=qa at bB cE hHeld ⊢;refine rd [7] (rc (fun K hK=>?_) .nil);go_simp;go_at_call 54;refine(yS _ _ _ _ lo hi W (W.zOy k).zO0 _ (Hp.out.zOp (zA rB (zA lA bB)))).mono ?_;rintro e w4 ⟨s,b,t,rfl,hA,gA⟩
   (try go_wp2_with fail)
   refine hK.out _ _ (gB.out _ (zA (zA lA bB) gA)) ?_;clear hK K;intro hHeld
   try simp only[Act.put,s1,s2,s3]
   refine tk 8 (h:=tk 9 (h:=tk 10 (h:=?_)));refine rd [12] (rc (fun K hK=>?_) .nil);obtain⟨⟨m0,vG⟩,⟨m1,aH⟩⟩:=cE.out.zOp gA;have tE:zE (fun i=>i=q0.heap.size) w4 ((w4.setCell ⟨q0.heap.size,0,none⟩ (.int .i64 s)).setCell ⟨q0.heap.size,1,none⟩ (.int .i64 b)):=(zE.put _ _ _ _).trans (zE.put _ _ _ _);have pD:Below w6.heap.size w6 ((w4.setCell ⟨q0.heap.size,0,none⟩ (.int .i64 s)).setCell ⟨q0.heap.size,1,none⟩ (.int .i64 b)):=(zA (zA lA bB) gA).trans (tE.zOp (B:=w6.heap.size) (by have:=lA.size;have:=bB.size;have:=gA.size;omega) (fun i e=>by have:=lA.size;omega));go_simp
   (try go_wp2_with fail)
   refine hK.out _ _ (gB.out _ pD) ?_;clear hK K;intro hHeld
   try simp only[Act.put,s1,s2,s3]
   clear m0 vG m1 aH;refine tk 13 (h:=?_);have mA:Below w6.heap.size w6 ((w4.setCell ⟨q0.heap.size,0,none⟩ (.int .i64 s)).setCell ⟨q0.heap.size,1,none⟩ (.int .i64 b)):=pD;generalize ((w4.setCell ⟨q0.heap.size,0,none⟩ (.int .i64 s)).setCell ⟨q0.heap.size,1,none⟩ (.int .i64 b))=wq at mA ⊢;generalize (Value.pointer (some ⟨q0.heap.size,0,none⟩))=pv;refine wpAnyH_done (by kernel_rfl) ?_ _;clear hHeld tE pD;revert wq pv;revert hA;revert t b s;exact hfin.out
 intro s b t hA wq mA pv;have Ht:=zB (zGX hA (fun ⟨i,hi⟩=>by
  have h1:=((oB.out.zO3.2.2.2.2.2 i hi.1).1).1;have h2:=hi.2.1;omega))
 clear hA;have pG:=mA.size;have lC:=zA rB mA;have cD:=zB (bD.out.zOp mA);have vF:=zB (lE.out.zOp mA);have sC:=zB (gE.out.zOp mA);go_upto_region 12 with fail;obtain⟨⟨x0,-⟩,⟨x1,-⟩,-,-,⟨x4,-⟩,⟨x5,-⟩⟩:=cD.out;have q3:=(vC.out.zOp lC).c3;have q4:=(vC.out.zOp lC).c4;have HT:=zB (oB.out.zOy k hk).1;have sD:=qs W.zOv (W.zOy k).rs (W.zOy k).rb;obtain⟨T,hT⟩:∃T,T=zY W.zOv (W.zOy k).rs (W.zOy k).rb:=⟨_,rfl⟩;rw[<-hT]at sD;have jE:=zB hT;clear hT;go_region_held3 (fun w'=>w'.cell? ⟨w.heap.size,0,none⟩=some (.slice a0 W.zOv.n c0)/\w'.cell? ⟨w.heap.size,1,none⟩=some (.slice a1 W.zOv.hn c1)/\w'.cell? ⟨w.heap.size,4,none⟩=some (.slice (some ⟨ab,ao,none⟩) W.sn c2)/\w'.cell? ⟨ab,ao+k*6+3,none⟩=some (.int .i64 (W.zOy k).rs)/\w'.cell? ⟨ab,ao+k*6+4,none⟩=some (.int .i64 (W.zOy k).rb)) (go_keep)
  (first
   | (go_at_call 58;refine(q8 _ _ lo hi W.zOv (W.zOy k).rs (W.zOy k).rb _ ((Hp.out.zOv.zOp lC).zOp (Below.refl _ _).drew) oB.out.right HT.out).mono ?_;rw[<-jE.out];rintro e w7 ⟨v7,rfl,vD,bF⟩;obtain⟨t7,oI,rfl,-⟩:=zX vD;have pA:=zJ bF;obtain⟨⟨y0,-⟩,⟨y1,-⟩,-,-,⟨y4,-⟩,⟨y5,-⟩⟩:=cD.out.zOp pA;have cH:=(pA.cell (zD q3)).trans q3;have eH:=(pA.cell (zD q4)).trans q4;have pF:=zB vD;clear vD)
   | (go_at_call 55;refine(zBD _ T.length 0 w7.heap.size (zg T) (zj T) t _ (by obtain⟨bb,ho,nC⟩:=qH.own pF.out (by unfold maxLen;omega);exact ho.at (fun h0=>⟨Nat.zero_le _,(nC h0).2.2⟩)) (by omega)).mono ?_;rintro e w8 ⟨vy,vo,rfl,aE,fF,-,cF⟩;obtain⟨t8,pI,rfl,-⟩:=zX aE;obtain⟨s8,nI,rfl,-⟩:=zX fF;have dA:=zA pA cF;obtain⟨⟨sG,-⟩,⟨k1,-⟩,-,-,⟨k4,-⟩,⟨k5,-⟩⟩:=cD.out.zOp dA;have dH:=(dA.cell (zD q3)).trans q3;have fH:=(dA.cell (zD q4)).trans q4;have iE:=zB aE;clear aE fF))
 have dG:=zA lC dA;have lI:=dA.size;have kI:=pA.size;obtain⟨L,hL⟩:∃L,L=q9 W (W.zOy k):=⟨_,rfl⟩;have eL:yh (zg T) (zj T) t T.length=L:=by
  rw[hL];unfold q9;rw[<-jE.out,<-Ht.out]
 rw[eL]at iE;have vH:L.length<=73:=by
  have:=zAX (zg T) (zj T) t T.length;rw[eL]at this;omega
 have mF:=zB hL;simp only[eL];clear hL eL x0 x1 x4 x5 y0 y1 y4 y5 sG k1 k4 k5 q3 q4 cH eH dH fH bF cF;go_wp2_with fail;have kG:W.zOv.hn<=400:=by
  have h1:=((zC0 W.zOv).2 oB.out.right).2.1;have h2:=oB.out.right.1;omega
 refine(zBl w5.heap.size w6.heap.size w8.heap.size P _ _ _ _ _ W.time W.next W.zOv L w8 (vF.out.zOp dA) (((fB.out.zOv.zOp jB).zOp mA).zOp dA) (fun j hj=>(eA.out j (Or.inl hj)).2) (by obtain⟨bb,ho,nC⟩:=qH.own iE.out (by unfold maxLen;omega);exact ho.at (fun h0=>⟨by have:=(nC h0).2.1;omega,(nC h0).2.2⟩)) (by omega) (Nat.le_refl _) (by omega) kG).mono ?_;rintro e w9 ⟨rfl,y1,nB,iD,lB⟩;have eG:=mF.out;subst eG;obtain⟨b9,jC,rfl⟩:∃a c,y1 = .slice a (zW W.zOv (q9 W (W.zOy k))).hn c:=by
  obtain⟨_,_,_,_,_,_,⟨_,a,c,e,_⟩,_⟩:=iD;exact⟨a,c,e⟩
 have mI:=lB.size;have iC:∀j,j<w4.heap.size->¬(j=w5.heap.size\/P j\/w8.heap.size<=j):=fun j hj h=>by
  rcases h with h | h | h
  ·omega
  ·have:=eA.out j (Or.inl h);omega
  ·omega
 have rF:=zB ((sC.out.zOp dA).zOr lB (iC _ (by omega)));have fG:∀j,Q j->¬(j=w5.heap.size\/P j\/w8.heap.size<=j):=fun j hj h=>by
  have:=eA.out j (Or.inr (Or.inl hj));rcases h with h | h | h
  ·omega
  ·exact fB.out.pq j h hj
  ·omega
 have gG:∀j,R j->¬(j=w5.heap.size\/P j\/w8.heap.size<=j):=fun j hj h=>by
  have:=eA.out j (Or.inr (Or.inr hj));rcases h with h | h | h
  ·omega
  ·exact fB.out.pr j h hj
  ·omega
 have kD:=(((sF.out.zOp jB).zOp mA).zOp dA).zOr lB (fun j hj=>fG j (kC.out j hj));have vE:=((((fB.out.zOw.zOr (zE.zOs (S:=fun _=>False) jB) (fun _ _ h=>h)).zOr (zE.zOs (S:=fun _=>False) mA) (fun _ _ h=>h)).zOr (zE.zOs (S:=fun _=>False) dA) (fun _ _ h=>h))).zOr lB (fun j hj=>gG j hj);have dC:∀i,i<W.sn->qx w9 sb (so+i*6) (kb i) (kv i) (W.zOy i):=fun i hi=>by
  obtain⟨bH,c',ev,h⟩:=kD.nth hi;simp only[Value.slice.injEq,Option.some.injEq,Addr.mk.injEq,and_true,true_and]at ev;obtain⟨rfl,rfl⟩:=ev;exact h
 have sH:=Hw.out.zO3.zOy.1;obtain⟨A2,tH,kF⟩:∃A2,(if tA=k+1 then some (⟨sb,so,none⟩:Addr)else some ⟨sb,so+(k+1)*6,none⟩)=A2/\Hid (0<W.sn - (k+1)->A2=some ⟨sb,so+(k+1)*6,none⟩):=⟨_,rfl,fun h=>if_neg (by omega)⟩;have kB:Below w9.heap.size w9 w9.drew:=(Below.refl _ _).drew;obtain⟨ra,gH,iH,da,cA,vA,gF,iF,sB,vB,cC,sA⟩:=zLr w9.drew sb so W.sn k tA (tA - (k+1)) (some ⟨sb,so,none⟩) A2 (fun i=>cellSet W.zOy kv (i / 6) (i % 6)) (fun i hi=>by
  have h:=dC (i / 6) (by omega);have h1:=zIz h (i % 6) (by omega);rw[show so+i / 6*6+i % 6=so+i by omega]at h1;exact⟨h1,zLH h (i % 6)⟩) hk (by omega) (fun _=>rfl) kF.out
 have tB:Below w9.heap.size w9 iH:=zJ sB;have oA:Below w9.heap.size w9 vA:=zJ vB;have nG:=oA.size;have pB:=zB (nB.zOp kB);have iB:=zB ((nB.zOp kB).zOp (zC w9.drew (.cells #[] 102)));have kE:=zB (nB.zOp tB);have kA:=zB (nB.zOp oA);have aB:=zB gF;have nA:=zB iF;have lF:=zB sA;have kH:=zB nB;have nF:=zB iD;have aD:=zB kD;have aG:=zB vE;have tF:=zB lB;have bI:k<=tA:=by omega
 have cI:k<=W.sn:=by omega
 have dI:k+1<=W.sn:=by omega
 have iG:k+1<=tA:=by omega
 have mH:(0:Int)<=(k:Int):=by omega
 have nH:(0:Int)<=(k:Int)+1:=by omega
 have oH:(k:Int)+1<=(W.sn:Int):=by omega
 have pH:(k:Int)<=(W.sn:Int):=by omega
 have rH:(k:Int)<=(tA:Int):=by omega
 have eI:IntKind.i64.wrap ((k:Int)+1)=((k+1:Nat):Int):=by first | (rw[zBd (by omega) (by omega)];rfl) | (rw[zBd _ (by omega) (by omega)];rfl)
 clear gF iF sA nB iD kD vE lB dC sB vB;go_upto_region 14 with fail;refine wp_region_held_drew (S:=fun _=>True) (by kernel_rfl) trivial (fun hHeld=>?_);generalize w9.drew=q1 at hHeld pB iB aB kB ⊢
 refine' zCu (fun hfin=>_) _
 rotate_left
 ·skip;refine tk 1 (h:=tk 3 (h:=tk 6 (h:=tk 8 (h:=tk 9 (h:=?_)))));refine rd [0,2,7] (rc (fun K hK=>?_) (rc (fun K hK=>?_) (rc (fun K hK=>?_) .nil)))
  ·go_simp
   (try go_wp2_with fail)
   refine hK.out _ _ (trivial) ?_;clear hK K;intro hHeld
   try simp only[Act.put,s1,s2,s3]
   refine rd [2,7] (rc (fun K hK=>?_) (rc (fun K hK=>?_) .nil))
   ·obtain⟨-,-,-,-,⟨bA,-⟩,-⟩:=iB.out;go_simp
    (try go_wp2_with fail)
    refine hK.out _ _ (trivial) ?_;clear hK K;intro hHeld
    try simp only[Act.put,s1,s2,s3]
    clear bA;refine tk 4 (h:=?_);refine rd [5,7] (rc (fun K hK=>?_) (rc (fun K hK=>?_) .nil))
    ·refine zM rfl (.tmp 59) (.tmp 63) 37 rfl _ _ _ rfl rfl aB.out ?_
     (try go_wp2_with fail)
     refine hK.out _ _ (trivial) ?_;clear hK K;intro hHeld
     try simp only[Act.put,s1,s2,s3]
     refine rd [7] (rc (fun K hK=>?_) .nil);obtain⟨-,-,-,-,⟨bA,-⟩,-⟩:=kE.out;go_simp
     (try go_wp2_with fail)
     refine hK.out _ _ (trivial) ?_;clear hK K;intro hHeld
     try simp only[Act.put,s1,s2,s3]
     clear bA;refine tk 10 (h:=?_);refine rd [11] (rc (fun K hK=>?_) .nil);refine zM rfl (.tmp 64) (.tmp 69) 37 rfl _ _ _ rfl rfl nA.out ?_
     (try go_wp2_with fail)
     refine hK.out _ _ (trivial) ?_;clear hK K;intro hHeld
     try simp only[Act.put,s1,s2,s3]
     refine tk 12 (h:=?_);refine rd [13] (rc (fun K hK=>?_) .nil);obtain⟨-,-,-,-,⟨bA,jA⟩,-⟩:=kA.out;go_simp
     (try go_wp2_with fail)
     refine hK.out _ _ (trivial) ?_;clear hK K;intro hHeld
     try simp only[Act.put,s1,s2,s3]
     clear bA jA;refine wpAnyH_done (by kernel_rfl) ?_ _;exact hfin.out
    ·obtain⟨-,-,-,-,⟨bA,-⟩,-⟩:=iB.out;go_simp
     (try go_wp2_with fail)
     refine hK.out _ _ (trivial) ?_;clear hK K;intro hHeld
     try simp only[Act.put,s1,s2,s3]
     clear bA;refine tk 10 (h:=?_);refine rd [5] (rc (fun K hK=>?_) .nil);refine zM rfl (.tmp 59) (.tmp 63) 37 rfl _ _ _ rfl rfl aB.out ?_
     (try go_wp2_with fail)
     refine hK.out _ _ (trivial) ?_;clear hK K;intro hHeld
     try simp only[Act.put,s1,s2,s3]
     refine rd [11] (rc (fun K hK=>?_) .nil);refine zM rfl (.tmp 64) (.tmp 69) 37 rfl _ _ _ rfl rfl nA.out ?_
     (try go_wp2_with fail)
     refine hK.out _ _ (trivial) ?_;clear hK K;intro hHeld
     try simp only[Act.put,s1,s2,s3]
     refine tk 12 (h:=?_);refine rd [13] (rc (fun K hK=>?_) .nil);obtain⟨-,-,-,-,⟨bA,jA⟩,-⟩:=kA.out;go_simp
     (try go_wp2_with fail)
     refine hK.out _ _ (trivial) ?_;clear hK K;intro hHeld
     try simp only[Act.put,s1,s2,s3]
     clear bA jA;refine wpAnyH_done (by kernel_rfl) ?_ _;exact hfin.out
   ·obtain⟨-,-,-,-,⟨bA,-⟩,-⟩:=iB.out;go_simp
    (try go_wp2_with fail)
    refine hK.out _ _ (trivial) ?_;clear hK K;intro hHeld
    try simp only[Act.put,s1,s2,s3]
    clear bA;refine tk 10 (h:=?_);refine rd [2] (rc (fun K hK=>?_) .nil);obtain⟨-,-,-,-,⟨bA,-⟩,-⟩:=iB.out;go_simp
    (try go_wp2_with fail)
    refine hK.out _ _ (trivial) ?_;clear hK K;intro hHeld
    try simp only[Act.put,s1,s2,s3]
    clear bA;refine tk 4 (h:=?_);refine rd [5] (rc (fun K hK=>?_) .nil);refine zM rfl (.tmp 59) (.tmp 63) 37 rfl _ _ _ rfl rfl aB.out ?_
    (try go_wp2_with fail)
    refine hK.out _ _ (trivial) ?_;clear hK K;intro hHeld
    try simp only[Act.put,s1,s2,s3]
    refine rd [11] (rc (fun K hK=>?_) .nil);refine zM rfl (.tmp 64) (.tmp 69) 37 rfl _ _ _ rfl rfl nA.out ?_
    (try go_wp2_with fail)
    refine hK.out _ _ (trivial) ?_;clear hK K;intro hHeld
    try simp only[Act.put,s1,s2,s3]
    refine tk 12 (h:=?_);refine rd [13] (rc (fun K hK=>?_) .nil);obtain⟨-,-,-,-,⟨bA,jA⟩,-⟩:=kA.out;go_simp
    (try go_wp2_with fail)
    refine hK.out _ _ (trivial) ?_;clear hK K;intro hHeld
    try simp only[Act.put,s1,s2,s3]
    clear bA jA;refine wpAnyH_done (by kernel_rfl) ?_ _;exact hfin.out
  ·obtain⟨-,-,-,-,⟨bA,-⟩,-⟩:=pB.out;go_simp
   (try go_wp2_with fail)
   refine hK.out _ _ (trivial) ?_;clear hK K;intro hHeld
   try simp only[Act.put,s1,s2,s3]
   clear bA;refine tk 4 (h:=?_);refine rd [0,7] (rc (fun K hK=>?_) (rc (fun K hK=>?_) .nil))
   ·go_simp
    (try go_wp2_with fail)
    refine hK.out _ _ (trivial) ?_;clear hK K;intro hHeld
    try simp only[Act.put,s1,s2,s3]
    refine rd [5,7] (rc (fun K hK=>?_) (rc (fun K hK=>?_) .nil))
    ·refine zM rfl (.tmp 59) (.tmp 63) 37 rfl _ _ _ rfl rfl aB.out ?_
     (try go_wp2_with fail)
     refine hK.out _ _ (trivial) ?_;clear hK K;intro hHeld
     try simp only[Act.put,s1,s2,s3]
     refine rd [7] (rc (fun K hK=>?_) .nil);obtain⟨-,-,-,-,⟨bA,-⟩,-⟩:=kE.out;go_simp
     (try go_wp2_with fail)
     refine hK.out _ _ (trivial) ?_;clear hK K;intro hHeld
     try simp only[Act.put,s1,s2,s3]
     clear bA;refine tk 10 (h:=?_);refine rd [11] (rc (fun K hK=>?_) .nil);refine zM rfl (.tmp 64) (.tmp 69) 37 rfl _ _ _ rfl rfl nA.out ?_
     (try go_wp2_with fail)
     refine hK.out _ _ (trivial) ?_;clear hK K;intro hHeld
     try simp only[Act.put,s1,s2,s3]
     refine tk 12 (h:=?_);refine rd [13] (rc (fun K hK=>?_) .nil);obtain⟨-,-,-,-,⟨bA,jA⟩,-⟩:=kA.out;go_simp
     (try go_wp2_with fail)
     refine hK.out _ _ (trivial) ?_;clear hK K;intro hHeld
     try simp only[Act.put,s1,s2,s3]
     clear bA jA;refine wpAnyH_done (by kernel_rfl) ?_ _;exact hfin.out
    ·obtain⟨-,-,-,-,⟨bA,-⟩,-⟩:=iB.out;go_simp
     (try go_wp2_with fail)
     refine hK.out _ _ (trivial) ?_;clear hK K;intro hHeld
     try simp only[Act.put,s1,s2,s3]
     clear bA;refine tk 10 (h:=?_);refine rd [5] (rc (fun K hK=>?_) .nil);refine zM rfl (.tmp 59) (.tmp 63) 37 rfl _ _ _ rfl rfl aB.out ?_
     (try go_wp2_with fail)
     refine hK.out _ _ (trivial) ?_;clear hK K;intro hHeld
     try simp only[Act.put,s1,s2,s3]
     refine rd [11] (rc (fun K hK=>?_) .nil);refine zM rfl (.tmp 64) (.tmp 69) 37 rfl _ _ _ rfl rfl nA.out ?_
     (try go_wp2_with fail)
     refine hK.out _ _ (trivial) ?_;clear hK K;intro hHeld
     try simp only[Act.put,s1,s2,s3]
     refine tk 12 (h:=?_);refine rd [13] (rc (fun K hK=>?_) .nil);obtain⟨-,-,-,-,⟨bA,jA⟩,-⟩:=kA.out;go_simp
     (try go_wp2_with fail)
     refine hK.out _ _ (trivial) ?_;clear hK K;intro hHeld
     try simp only[Act.put,s1,s2,s3]
     clear bA jA;refine wpAnyH_done (by kernel_rfl) ?_ _;exact hfin.out
   ·obtain⟨-,-,-,-,⟨bA,-⟩,-⟩:=pB.out;go_simp
    (try go_wp2_with fail)
    refine hK.out _ _ (trivial) ?_;clear hK K;intro hHeld
    try simp only[Act.put,s1,s2,s3]
    clear bA;refine tk 10 (h:=?_);refine rd [0] (rc (fun K hK=>?_) .nil);go_simp
    (try go_wp2_with fail)
    refine hK.out _ _ (trivial) ?_;clear hK K;intro hHeld
    try simp only[Act.put,s1,s2,s3]
    refine rd [5] (rc (fun K hK=>?_) .nil);refine zM rfl (.tmp 59) (.tmp 63) 37 rfl _ _ _ rfl rfl aB.out ?_
    (try go_wp2_with fail)
    refine hK.out _ _ (trivial) ?_;clear hK K;intro hHeld
    try simp only[Act.put,s1,s2,s3]
    refine rd [11] (rc (fun K hK=>?_) .nil);refine zM rfl (.tmp 64) (.tmp 69) 37 rfl _ _ _ rfl rfl nA.out ?_
    (try go_wp2_with fail)
    refine hK.out _ _ (trivial) ?_;clear hK K;intro hHeld
    try simp only[Act.put,s1,s2,s3]
    refine tk 12 (h:=?_);refine rd [13] (rc (fun K hK=>?_) .nil);obtain⟨-,-,-,-,⟨bA,jA⟩,-⟩:=kA.out;go_simp
    (try go_wp2_with fail)
    refine hK.out _ _ (trivial) ?_;clear hK K;intro hHeld
    try simp only[Act.put,s1,s2,s3]
    clear bA jA;refine wpAnyH_done (by kernel_rfl) ?_ _;exact hfin.out
  ·obtain⟨-,-,-,-,⟨bA,-⟩,-⟩:=pB.out;go_simp
   (try go_wp2_with fail)
   refine hK.out _ _ (trivial) ?_;clear hK K;intro hHeld
   try simp only[Act.put,s1,s2,s3]
   clear bA;refine tk 10 (h:=?_);refine rd [0,2] (rc (fun K hK=>?_) (rc (fun K hK=>?_) .nil))
   ·go_simp
    (try go_wp2_with fail)
    refine hK.out _ _ (trivial) ?_;clear hK K;intro hHeld
    try simp only[Act.put,s1,s2,s3]
    refine rd [2] (rc (fun K hK=>?_) .nil);obtain⟨-,-,-,-,⟨bA,-⟩,-⟩:=iB.out;go_simp
    (try go_wp2_with fail)
    refine hK.out _ _ (trivial) ?_;clear hK K;intro hHeld
    try simp only[Act.put,s1,s2,s3]
    clear bA;refine tk 4 (h:=?_);refine rd [5] (rc (fun K hK=>?_) .nil);refine zM rfl (.tmp 59) (.tmp 63) 37 rfl _ _ _ rfl rfl aB.out ?_
    (try go_wp2_with fail)
    refine hK.out _ _ (trivial) ?_;clear hK K;intro hHeld
    try simp only[Act.put,s1,s2,s3]
    refine rd [11] (rc (fun K hK=>?_) .nil);refine zM rfl (.tmp 64) (.tmp 69) 37 rfl _ _ _ rfl rfl nA.out ?_
    (try go_wp2_with fail)
    refine hK.out _ _ (trivial) ?_;clear hK K;intro hHeld
    try simp only[Act.put,s1,s2,s3]
    refine tk 12 (h:=?_);refine rd [13] (rc (fun K hK=>?_) .nil);obtain⟨-,-,-,-,⟨bA,jA⟩,-⟩:=kA.out;go_simp
    (try go_wp2_with fail)
    refine hK.out _ _ (trivial) ?_;clear hK K;intro hHeld
    try simp only[Act.put,s1,s2,s3]
    clear bA jA;refine wpAnyH_done (by kernel_rfl) ?_ _;exact hfin.out
   ·obtain⟨-,-,-,-,⟨bA,-⟩,-⟩:=pB.out;go_simp
    (try go_wp2_with fail)
    refine hK.out _ _ (trivial) ?_;clear hK K;intro hHeld
    try simp only[Act.put,s1,s2,s3]
    clear bA;refine tk 4 (h:=?_);refine rd [0] (rc (fun K hK=>?_) .nil);go_simp
    (try go_wp2_with fail)
    refine hK.out _ _ (trivial) ?_;clear hK K;intro hHeld
    try simp only[Act.put,s1,s2,s3]
    refine rd [5] (rc (fun K hK=>?_) .nil);refine zM rfl (.tmp 59) (.tmp 63) 37 rfl _ _ _ rfl rfl aB.out ?_
    (try go_wp2_with fail)
    refine hK.out _ _ (trivial) ?_;clear hK K;intro hHeld
    try simp only[Act.put,s1,s2,s3]
    refine rd [11] (rc (fun K hK=>?_) .nil);refine zM rfl (.tmp 64) (.tmp 69) 37 rfl _ _ _ rfl rfl nA.out ?_
    (try go_wp2_with fail)
    refine hK.out _ _ (trivial) ?_;clear hK K;intro hHeld
    try simp only[Act.put,s1,s2,s3]
    refine tk 12 (h:=?_);refine rd [13] (rc (fun K hK=>?_) .nil);obtain⟨-,-,-,-,⟨bA,jA⟩,-⟩:=kA.out;go_simp
    (try go_wp2_with fail)
    refine hK.out _ _ (trivial) ?_;clear hK K;intro hHeld
    try simp only[Act.put,s1,s2,s3]
    clear bA jA;refine wpAnyH_done (by kernel_rfl) ?_ _;exact hfin.out
 go_upto_region 15 with fail;have mD:=zE.put vA w5.heap.size 4 (.slice da (W.sn - 1) cA);have mB:zE (fun i=>i=w5.heap.size) w9 (vA.setCell ⟨w5.heap.size,4,none⟩ (.slice da (W.sn - 1) cA)):=(zE.zOs oA).trans mD;have rG:=mD.size;have mE:=zB (show za (vA.setCell ⟨w5.heap.size,4,none⟩ (.slice da (W.sn - 1) cA)) w5.heap.size (.slice l0 W.zOv.n dB) (.slice b9 (zW W.zOv (q9 W (W.zOy k))).hn jC) (.int .i64 W.time) (.int .i64 W.next) (.slice da (W.sn - 1) cA) (.slice l3 W.pn eB)from⟨kA.out.1.zOq _ (Or.inr (by decide)),kA.out.2.1.zOq _ (Or.inr (by decide)),kA.out.2.2.1.zOq _ (Or.inr (by decide)),kA.out.2.2.2.1.zOq _ (Or.inr (by decide)),kA.out.2.2.2.2.1.set _,kA.out.2.2.2.2.2.zOq _ (Or.inr (by decide))⟩);have fA:=zB (rF.out.zOr mB (fun h=>by omega));have iA:Below w.heap.size w (vA.setCell ⟨w5.heap.size,4,none⟩ (.slice da (W.sn - 1) cA)):=(dG.trans (tF.out.zOp (B:=w.heap.size) (by omega) (fun i h=>by
  rcases h with h | h | h
  ·omega
  ·have:=eA.out i (Or.inl h);omega
  ·omega))).trans (mB.zOp (B:=w.heap.size) (by omega) (fun i h=>by omega))
 obtain⟨g,hg⟩:∃g,0<W.sn - 1->da=some ⟨g,0,none⟩/\w9.heap.size<=g/\g<vA.heap.size/\∀i,i<(W.sn - 1)*6->zT vA g i (if i<k*6 then(fun i=>cellSet W.zOy kv (i / 6) (i % 6)) i else(fun i=>cellSet W.zOy kv (i / 6) (i % 6)) (i+6)):=by
  by_cases h0:0<W.sn - 1
  ·obtain⟨g,h1,h2,h3,h4⟩:=lF.out h0;exact⟨g,fun _=>⟨h1,h2,h3,h4⟩⟩
  ·exact⟨w9.heap.size,fun h=>absurd h h0⟩
 have dF:∀i,i<W.sn->0<(W.zOy i).dn->¬kb i=w5.heap.size/\(0<W.sn - 1->kb i≠g):=fun i hi h0=>by
  have:=eA.out _ (Or.inr (Or.inl (kC.out _ (Or.inr ⟨i,hi,h0,rfl⟩))));exact⟨by omega,fun h=>by have:=(hg h).2.1;omega⟩
 obtain⟨g',oC⟩:∃g',(0<W.sn - 1->g'=g)/\(¬0<W.sn - 1->g'=w9.heap.size):=by
  by_cases h0:0<W.sn - 1
  ·exact⟨g,fun _=>rfl,fun h=>absurd h0 h⟩
  ·exact⟨w9.heap.size,fun h=>absurd h h0,fun _=>rfl⟩
 obtain⟨d1,d2,d3⟩:=zLv (g:=g') (a2:=da) (cap:=cA) aD.out tC.out hk mB (fun i hi h0=>⟨(dF i hi h0).1,by
  by_cases h1:0<W.sn - 1
  ·rw[oC.1 h1];exact(dF i hi h0).2 h1
  ·rw[oC.2 h1];have:=eA.out _ (Or.inr (Or.inl (kC.out _ (Or.inr ⟨i,hi,h0,rfl⟩))));omega⟩) cC (fun h0=>by
  obtain⟨e1,e2,e3,e4⟩:=hg h0;rw[oC.1 h0];refine⟨e1,fun i hi r hr=>?_⟩;have h:=(e4 (i*6+r) (by omega)).zOq (b':=w5.heap.size) (o':=4) (.slice da (W.sn - 1) cA) (Or.inl (by omega));dsimp only at h;by_cases e:i<k
  ·rw[if_pos (by omega),show(i*6+r) / 6=i by omega,show(i*6+r) % 6=r by omega]at h;have ec:cellSet (del W.zOy k) (del kv k) i r=cellSet W.zOy kv i r:=(by unfold cellSet;rw[zGh e,zGh e]);rw[ec];exact h
  ·rw[if_neg (by omega),show(i*6+r+6) / 6=i+1 by omega,show(i*6+r+6) % 6=r by omega]at h;have ec:cellSet (del W.zOy k) (del kv k) i r=cellSet W.zOy kv (i+1) r:=(by unfold cellSet;rw[zGg e,zGg e]);rw[ec];exact h)
 have bE:=zB (show zf (vA.setCell ⟨w5.heap.size,4,none⟩ (.slice da (W.sn - 1) cA)) w4.heap.size ((vA.setCell ⟨w5.heap.size,4,none⟩ (.slice da (W.sn - 1) cA))).heap.size (.slice l0 W.zOv.n dB) (.slice b9 (zW W.zOv (q9 W (W.zOy k))).hn jC) (.slice da (W.sn - 1) cA) (.slice l3 W.pn eB) (zKq W k)from by
  have tD:∀j,yo g' (del kb k) (W.sn - 1) (del W.zOy k) j->Q j\/(w9.heap.size<=j/\j<vA.heap.size):=fun j hj=>by
   rcases d3 j hj with⟨h0,rfl⟩ | ⟨i,hi,h0,rfl⟩
   ·rw[oC.1 h0];exact Or.inr ⟨(hg h0).2.1,(hg h0).2.2.1⟩
   ·exact Or.inl (kC.out _ (Or.inr ⟨i,hi,h0,rfl⟩))
  refine⟨(fun i=>P i\/(w8.heap.size<=i/\i<w9.heap.size)),_,R,⟨nF.out.zOr mB (fun i hi e=>?_),⟨g',_,_,d1,d2,fun j hj=>hj⟩,aG.out.zOr mB (fun i hi e=>?_),fun i hi hq=>?_,fun i hi hq=>?_,fun i hi hq=>?_⟩,fun i hi=>?_⟩
  ·rcases hi with h | h
   ·have:=eA.out i (Or.inl h);omega
   ·omega
  ·have:=eA.out i (Or.inr (Or.inr hi));omega
  ·rcases tD i hq with h' | h'
   ·have:=eA.out i (Or.inr (Or.inl h'));rcases hi with h | h
    ·exact fB.out.pq i h h'
    ·omega
   ·rcases hi with h | h
    ·have:=eA.out i (Or.inl h);omega
    ·omega
  ·have:=eA.out i (Or.inr (Or.inr hq));rcases hi with h | h
   ·exact fB.out.pr i h hq
   ·omega
  ·have:=eA.out i (Or.inr (Or.inr hq));rcases tD i hi with h' | h'
   ·exact fB.out.qr i h' hq
   ·omega
  ·rcases hi with(h | h) | h | h
   ·have:=eA.out i (Or.inl h);omega
   ·omega
   ·rcases tD i h with h' | h'
    ·have:=eA.out i (Or.inr (Or.inl h'));omega
    ·omega
   ·have:=eA.out i (Or.inr (Or.inr h));omega)
 clear mB mD d1 d2 d3;generalize (vA.setCell ⟨w5.heap.size,4,none⟩ (.slice da (W.sn - 1) cA))=wz at mE fA rG iA bE ⊢;obtain⟨⟨v0,-⟩,⟨v1,-⟩,⟨v2,-⟩,⟨v3,-⟩,⟨v4,-⟩,⟨v5,-⟩⟩:=mE.out;obtain⟨⟨r0,g0⟩,⟨r1,g1⟩,⟨r2,g2⟩,⟨r3,g3⟩,⟨r4,g4⟩,⟨r5,g5⟩,⟨r6,g6⟩,⟨r7,g7⟩,⟨r8,g8⟩⟩:=fA.out;go_wp2_with fail;have aA:=fA.out.put (.slice l0 W.zOv.n dB) (.slice b9 (zW W.zOv (q9 W (W.zOy k))).hn jC) (.int .i64 W.time) (.int .i64 W.next) (.slice da (W.sn - 1) cA) (.slice l3 W.pn eB) (.int .i64 0) (.int .i64 ((q9 W (W.zOy k)).length:Int)) (.int .i64 0);have hT:=zE.put9 wz (w.heap.size+1) (.slice l0 W.zOv.n dB) (.slice b9 (zW W.zOv (q9 W (W.zOy k))).hn jC) (.int .i64 W.time) (.int .i64 W.next) (.slice da (W.sn - 1) cA) (.slice l3 W.pn eB) (.int .i64 0) (.int .i64 ((q9 W (W.zOy k)).length:Int)) (.int .i64 0);clear r0 g0 r1 g1 r2 g2 r3 g3 r4 g4 r5 g5 r6 g6 r7 g7 r8 g8;refine bodyPost_ret (v:=.agg #[.slice l0 W.zOv.n dB,.slice b9 (zW W.zOv (q9 W (W.zOy k))).hn jC,.int .i64 W.time,.int .i64 W.next,.slice da (W.sn - 1) cA,.slice l3 W.pn eB,.int .i64 0,.int .i64 ((q9 W (W.zOy k)).length:Int),.int .i64 0]) (by simp[results,Tryz.results27,go_sem,aA.1.1,aA.2.1.1,aA.2.2.1.1,aA.2.2.2.1.1,aA.2.2.2.2.1.1,aA.2.2.2.2.2.1.1,aA.2.2.2.2.2.2.1.1,aA.2.2.2.2.2.2.2.1.1,aA.2.2.2.2.2.2.2.2.1]) rfl ⟨none,⟨zKq W k,0,((q9 W (W.zOy k)).length:Int),0⟩,Or.inr (Or.inr (Or.inr ⟨HL.out,Hw.out,dD.out,oF.out,rfl⟩)),fun _=>⟨k,HN.out,rfl⟩,?_⟩;show zw ⟨zKq W k,0,((q9 W (W.zOy k)).length:Int),0⟩ w _ _;exact⟨_,_,_,_,rfl,(bE.out.zOr hT (fun i e=>by omega)).zOu (by omega) hT.size,iA.trans (hT.zOp (B:=w.heap.size) iA.size (fun i e=>by omega))⟩
end Go.Proofs.YtgabgheflgjgiaaGreatDoor
