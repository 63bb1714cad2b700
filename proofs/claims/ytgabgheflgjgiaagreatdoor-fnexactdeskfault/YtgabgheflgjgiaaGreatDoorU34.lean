/- A part of the proof. -/
import Derived.Test.YtgabgheflgjgiaaGreatDoorU33
import Derived.Test.YtgabgheflgjgiaaGreatDoorU25
set_option linter.unusedVariables false
set_option maxRecDepth 20000
set_option maxHeartbeats 4000000
namespace Go.Proofs.YtgabgheflgjgiaaGreatDoor
open Go.RowKit
def zC7(base:Nat)(o:zCW)(w:World)(e:Ending)(w':World):Prop:=∃v0 v1 v2 v3,e = .returned (zIK v0 v1 v2 v3 o)/\zf w' base w'.heap.size v0 v1 v2 v3 o.world/\Below base w w'
theorem zFv(v0 v1 v2 v3 eH fH vo:Value)(lo hi k base rA kB:Nat)(W:zH)(y:zCV)(w:World)(h:zr w lo hi v0 v1 v2 v3 W)(hS:zBr W)(b1:qA W.zOv<=1048576)(b2:W.sn<=1048576)(b3:W.pn<=1048576)(b4:zAt W)(hk:k<W.sn)(hy:zHo y)(pG:base<=rA)(rG:base<=w.heap.size)(iE:zh w rA kB eH fH y.zOv)(vJ:kB<=w.heap.size)(dF:zp w rA w.heap.size vo y.old.length (zg y.old) (zj y.old))(rJ:hi<=base) :
  Calls Tryz.prog 48 #[qT v0 v1 v2 v3 W,.int .i64 k,.agg #[eH,fH,.int .i64 y.rs,.int .i64 y.rb,vo,.int .i64 y.code]] w (zC7 base (zDB W k y) w):=by
 have Hp:=zB h;obtain⟨a0,c0,a1,c1,a2,c2,a3,c3,rfl,rfl,rfl,rfl⟩:=h.form;obtain⟨ab,ao,mJ,rfl,dH⟩:=h.zOy.cells hk;obtain⟨dA,eA,jA,kA,rfl,rfl⟩:=iE.at.form;obtain⟨-,oo,oc,rfl,-,-⟩:=id dF;have aI:=zB hS;have HY:=zB hy;have kH:=zB iE;have cI:=zB dF;have tH:=zB dH;have tJ:=hy.2.1;have oJ:=b4.1 k hk;have h8:=hS.zO3.2.2.1;have nJ:=hS.zO3.2.2.2.1;clear h hS hy iE dF dH;have oG:=zC w (.cells #[.slice a0 W.zOv.n c0,.slice a1 W.zOv.hn c1,.int .i64 W.time,.int .i64 W.next,.slice (some ⟨ab,ao,none⟩) W.sn c2,.slice a3 W.pn c3] 40);have oE:=zC (w.alloc (.cells #[.slice a0 W.zOv.n c0,.slice a1 W.zOv.hn c1,.int .i64 W.time,.int .i64 W.next,.slice (some ⟨ab,ao,none⟩) W.sn c2,.slice a3 W.pn c3] 40)) (.cells #[.slice dA y.zOv.n eA,.slice jA y.zOv.hn kA,.int .i64 y.rs,.int .i64 y.rb,.slice oo y.old.length oc,.int .i64 y.code] 106);have iD:=zC ((w.alloc (.cells #[.slice a0 W.zOv.n c0,.slice a1 W.zOv.hn c1,.int .i64 W.time,.int .i64 W.next,.slice (some ⟨ab,ao,none⟩) W.sn c2,.slice a3 W.pn c3] 40)).alloc (.cells #[.slice dA y.zOv.n eA,.slice jA y.zOv.hn kA,.int .i64 y.rs,.int .i64 y.rb,.slice oo y.old.length oc,.int .i64 y.code] 106)) (.cells #[.slice none 0 0,.slice none 0 0,.int .i64 0,.int .i64 0,.slice none 0 0,.slice none 0 0,.int .i64 0,.int .i64 0,.int .i64 0] 71);have hb:=zA (zA oG oE) iD;have HX:=zB (((za.zOt w (.slice a0 W.zOv.n c0) (.slice a1 W.zOv.hn c1) (.int .i64 W.time) (.int .i64 W.next) (.slice (some ⟨ab,ao,none⟩) W.sn c2) (.slice a3 W.pn c3) 40).zOp oE).zOp iD);have eF:=(za.zOt (w.alloc (.cells #[.slice a0 W.zOv.n c0,.slice a1 W.zOv.hn c1,.int .i64 W.time,.int .i64 W.next,.slice (some ⟨ab,ao,none⟩) W.sn c2,.slice a3 W.pn c3] 40)) (.slice dA y.zOv.n eA) (.slice jA y.zOv.hn kA) (.int .i64 y.rs) (.int .i64 y.rb) (.slice oo y.old.length oc) (.int .i64 y.code) 106).zOp iD;rw[World.size_alloc]at eF;have cE:=zB eF;have hr:=zBi.zOt ((w.alloc (.cells #[.slice a0 W.zOv.n c0,.slice a1 W.zOv.hn c1,.int .i64 W.time,.int .i64 W.next,.slice (some ⟨ab,ao,none⟩) W.sn c2,.slice a3 W.pn c3] 40)).alloc (.cells #[.slice dA y.zOv.n eA,.slice jA y.zOv.hn kA,.int .i64 y.rs,.int .i64 y.rb,.slice oo y.old.length oc,.int .i64 y.code] 106)) (.slice none 0 0) (.slice none 0 0) (.int .i64 0) (.int .i64 0) (.slice none 0 0) (.slice none 0 0) (.int .i64 0) (.int .i64 0) (.int .i64 0) 71;rw[World.size_alloc,World.size_alloc]at hr;have HR:=zB hr;have hz:(((w.alloc (.cells #[.slice a0 W.zOv.n c0,.slice a1 W.zOv.hn c1,.int .i64 W.time,.int .i64 W.next,.slice (some ⟨ab,ao,none⟩) W.sn c2,.slice a3 W.pn c3] 40)).alloc (.cells #[.slice dA y.zOv.n eA,.slice jA y.zOv.hn kA,.int .i64 y.rs,.int .i64 y.rb,.slice oo y.old.length oc,.int .i64 y.code] 106)).alloc (.cells #[.slice none 0 0,.slice none 0 0,.int .i64 0,.int .i64 0,.slice none 0 0,.slice none 0 0,.int .i64 0,.int .i64 0,.int .i64 0] 71)).heap.size>=w.heap.size+3:=by rw[World.size_alloc,World.size_alloc,World.size_alloc];omega
 have pJ:(k:Int)<(W.sn:Int):=by omega
 have k0:¬(k:Int)<0:=by omega
 clear eF hr;go_enter Tryz.func48,Tryz.ntmps48;go_upto_region 1 with fail;generalize (((w.alloc (.cells #[.slice a0 W.zOv.n c0,.slice a1 W.zOv.hn c1,.int .i64 W.time,.int .i64 W.next,.slice (some ⟨ab,ao,none⟩) W.sn c2,.slice a3 W.pn c3] 40)).alloc (.cells #[.slice dA y.zOv.n eA,.slice jA y.zOv.hn kA,.int .i64 y.rs,.int .i64 y.rb,.slice oo y.old.length oc,.int .i64 y.code] 106)).alloc (.cells #[.slice none 0 0,.slice none 0 0,.int .i64 0,.int .i64 0,.slice none 0 0,.slice none 0 0,.int .i64 0,.int .i64 0,.int .i64 0] 71))=W1 at hb HX cE HR hz ⊢;clear oG oE iD;obtain⟨⟨x0,-⟩,⟨x1,-⟩,⟨x2,-⟩,⟨x3,-⟩,⟨x4,-⟩,⟨x5,-⟩⟩:=cE.out;by_cases rC:y.code=0;rotate_left
 ·have ec:(y.code != 0)=true:=bne_iff_ne.2 rC;go_wp2_with fail;clear x0 x1 x2 x3 x4 x5;refine(zR y.code _).mono ?_;rintro e wz ⟨rfl,sG⟩;have pC:=zA hb sG;have vB:=zB (HR.out.zOp sG);obtain⟨⟨r0,g0⟩,⟨r1,g1⟩,⟨r2,g2⟩,⟨r3,g3⟩,⟨r4,g4⟩,⟨r5,g5⟩,⟨r6,g6⟩,⟨r7,g7⟩,⟨r8,g8⟩⟩:=vB.out;go_wp2_with fail;have bA:=vB.out.put (.slice none 0 0) (.slice none 0 0) (.int .i64 0) (.int .i64 0) (.slice none 0 0) (.slice none 0 0) (.int .i64 0) (.int .i64 0) (.int .i64 y.code);have hT:=zE.put9 wz (w.heap.size+1+1) (.slice none 0 0) (.slice none 0 0) (.int .i64 0) (.int .i64 0) (.slice none 0 0) (.slice none 0 0) (.int .i64 0) (.int .i64 0) (.int .i64 y.code);clear r0 g0 r1 g1 r2 g2 r3 g3 r4 g4 r5 g5 r6 g6 r7 g7 r8 g8;refine bodyPost_ret (v:=.agg #[.slice none 0 0,.slice none 0 0,.int .i64 0,.int .i64 0,.slice none 0 0,.slice none 0 0,.int .i64 0,.int .i64 0,.int .i64 y.code]) (by simp[results,Tryz.results48,go_sem,bA.1.1,bA.2.1.1,bA.2.2.1.1,bA.2.2.2.1.1,bA.2.2.2.2.1.1,bA.2.2.2.2.2.1.1,bA.2.2.2.2.2.2.1.1,bA.2.2.2.2.2.2.2.1.1,bA.2.2.2.2.2.2.2.2.1]) rfl ?_;have eO:zDB W k y=yB y.code:=if_neg rC;rw[eO];exact⟨_,_,_,_,rfl,zi,(pC.trans (hT.zOp (B:=w.heap.size) pC.size (fun k e=>by omega))).mono rG⟩
 have gG:=zB rC;have ec:(y.code != 0)=false:=by rw[rC];rfl
 clear rC;obtain⟨⟨w0,-⟩,⟨w1,-⟩,⟨w2,-⟩,⟨w3,-⟩,⟨w4,-⟩,⟨w5,-⟩⟩:=HX.out;go_wp2_with fail;clear x0 x1 x2 x3 x4 x5 w0 w1 w2 w3 w4 w5 ec;have jI:=hb;refine(yq _ _ _ _ lo hi W _ (Hp.out.zOp hb) b1 b2 b3 b4).mono ?_;rintro e w5 ⟨z0,z1,z2,z3,rfl,ho,nC⟩;obtain⟨P,Q,R,oA,iB⟩:=ho;have vG:=oA.isIn;obtain⟨sb,kb,kv,kE,lG,lE,-,kG⟩:=oA.zOy;obtain⟨so,pA,rfl,bH⟩:=kE.nth hk;obtain⟨l0,mD,l1,nD,l2,dJ,l3,jB,rfl,rfl,e2,rfl⟩:=zf.form (lo:=W1.heap.size) (hi:=w5.heap.size) ⟨P,Q,R,vG,iB⟩;clear e2;have cD:=zA jI nC;have aK:=nC.size;have dB:=zC w5 (.cells #[.slice l0 W.zOv.n mD,.slice l1 W.zOv.hn nD,.int .i64 W.time,.int .i64 W.next,.slice (some ⟨sb,so,none⟩) W.sn pA,.slice l3 W.pn jB] 40);have sI:(w5.alloc (.cells #[.slice l0 W.zOv.n mD,.slice l1 W.zOv.hn nD,.int .i64 W.time,.int .i64 W.next,.slice (some ⟨sb,so,none⟩) W.sn pA,.slice l3 W.pn jB] 40)).heap.size=w5.heap.size+1:=World.size_alloc _ _;have vA:=zB (za.zOt w5 (.slice l0 W.zOv.n mD) (.slice l1 W.zOv.hn nD) (.int .i64 W.time) (.int .i64 W.next) (.slice (some ⟨sb,so,none⟩) W.sn pA) (.slice l3 W.pn jB) 40);have iA:=zB iB;have vH:=zB kE;have tD:=zB lG;have mB:=zB lE;have sH:=zB bH;have nH:=zB (kG k hk);have HZ:=zB oA.zOw.isIn;have pD:=zB oA.qr;have jE:Q sb:=lE _ (Or.inl ⟨by omega,rfl⟩);have pI:=iB sb (Or.inr (Or.inl jE));have nF:=zB jE;have oB:=zB ((HX.out.zOp nC).zOp dB);have aB:=zB ((cE.out.zOp nC).zOp dB);have nB:=zB ((HR.out.zOp nC).zOp dB);have pB:=zA cD dB;clear oA vG iB kE lG lE bH jE kG;go_upto_region 4 with fail;generalize w5.alloc (.cells #[.slice l0 W.zOv.n mD,.slice l1 W.zOv.hn nD,.int .i64 W.time,.int .i64 W.next,.slice (some ⟨sb,so,none⟩) W.sn pA,.slice l3 W.pn jB] 40)=w6a at dB sI vA oB aB nB pB ⊢;obtain⟨⟨x0,-⟩,⟨x1,-⟩,-⟩:=aB.out;obtain⟨⟨v0,kJ⟩,⟨v1,lJ⟩,-⟩:=vA.out;go_upto_region 5 with fail;clear x0 x1 v0 kJ v1 lJ;have bB:zE (fun j=>j=w5.heap.size) w6a ((w6a.setCell ⟨w5.heap.size,0,none⟩ (.slice dA y.zOv.n eA)).setCell ⟨w5.heap.size,1,none⟩ (.slice jA y.zOv.hn kA)):=(zE.put _ _ _ _).trans (zE.put _ _ _ _);have cC:Below w.heap.size w ((w6a.setCell ⟨w5.heap.size,0,none⟩ (.slice dA y.zOv.n eA)).setCell ⟨w5.heap.size,1,none⟩ (.slice jA y.zOv.hn kA)):=pB.trans (bB.zOp (B:=w.heap.size) pB.size (fun j e=>by have:=cD.size;omega));have vF:=zB (show za ((w6a.setCell ⟨w5.heap.size,0,none⟩ (.slice dA y.zOv.n eA)).setCell ⟨w5.heap.size,1,none⟩ (.slice jA y.zOv.hn kA)) w5.heap.size (.slice dA y.zOv.n eA) (.slice jA y.zOv.hn kA) (.int .i64 W.time) (.int .i64 W.next) (.slice (some ⟨sb,so,none⟩) W.sn pA) (.slice l3 W.pn jB)from by
  have h:=vA.out;exact⟨(h.1.set _).zOq _ (Or.inr (by decide)),(h.2.1.zOq _ (Or.inr (by decide))).set _,(h.2.2.1.zOq _ (Or.inr (by decide))).zOq _ (Or.inr (by decide)),(h.2.2.2.1.zOq _ (Or.inr (by decide))).zOq _ (Or.inr (by decide)),(h.2.2.2.2.1.zOq _ (Or.inr (by decide))).zOq _ (Or.inr (by decide)),(h.2.2.2.2.2.zOq _ (Or.inr (by decide))).zOq _ (Or.inr (by decide))⟩)
 have cG:=zB (oB.out.zOr bB (by omega));have dG:=zB (aB.out.zOr bB (by omega));have oF:=zB (nB.out.zOr bB (by omega));have fF:=bB.size;have jC:=zB ((vH.out.zOp dB).zOr bB (fun j hj e=>by have:=iA.out j (Or.inr (Or.inl (mB.out j hj)));omega));have sD:=zB ((sH.out.zOp dB).zOr bB (by omega) (fun h0 e=>by have:=iA.out _ (Or.inr (Or.inl (mB.out _ (Or.inr ⟨k,hk,h0,rfl⟩))));omega));have fC:=zB (((nH.out.zOp dB).set ⟨w5.heap.size,0,none⟩ (.slice dA y.zOv.n eA)).set ⟨w5.heap.size,1,none⟩ (.slice jA y.zOv.hn kA));have fG:=zB ((HZ.out.zOp dB).zOr bB (fun j hj e=>by have:=iA.out j (Or.inr (Or.inr hj));omega));clear bB vA oB aB nB;generalize ((w6a.setCell ⟨w5.heap.size,0,none⟩ (.slice dA y.zOv.n eA)).setCell ⟨w5.heap.size,1,none⟩ (.slice jA y.zOv.hn kA))=w6 at cC vF cG dG oF fF jC sD fC fG ⊢;have gA:Below w6.heap.size w6 w6.drew:=(Below.refl _ _).drew;have lB:=zB (show ∀w',Below w6.heap.size w6 w'->(fun w':World=>w'.cell? ⟨w.heap.size,0,none⟩=some (.slice a0 W.zOv.n c0)/\w'.cell? ⟨w.heap.size,1,none⟩=some (.slice a1 W.zOv.hn c1)/\w'.cell? ⟨w.heap.size,2,none⟩=some (.int .i64 W.time)/\w'.cell? ⟨w.heap.size,3,none⟩=some (.int .i64 W.next)/\w'.cell? ⟨w.heap.size,4,none⟩=some (.slice (some ⟨ab,ao,none⟩) W.sn c2)/\w'.cell? ⟨w.heap.size,5,none⟩=some (.slice a3 W.pn c3)/\w'.cell? ⟨ab,ao+k*6+2,none⟩=some (.int .i64 (W.zOy k).zO0)) w' from fun w' hb=>by
  have hx:=cG.out.zOp hb;exact⟨hx.1.1,hx.2.1.1,hx.2.2.1.1,hx.2.2.2.1.1,hx.2.2.2.2.1.1,hx.2.2.2.2.2.1,(tH.out.zOp (zA cC hb)).c2⟩)
 refine wp_region_held_drew (S:=(fun w':World=>w'.cell? ⟨w.heap.size,0,none⟩=some (.slice a0 W.zOv.n c0)/\w'.cell? ⟨w.heap.size,1,none⟩=some (.slice a1 W.zOv.hn c1)/\w'.cell? ⟨w.heap.size,2,none⟩=some (.int .i64 W.time)/\w'.cell? ⟨w.heap.size,3,none⟩=some (.int .i64 W.next)/\w'.cell? ⟨w.heap.size,4,none⟩=some (.slice (some ⟨ab,ao,none⟩) W.sn c2)/\w'.cell? ⟨w.heap.size,5,none⟩=some (.slice a3 W.pn c3)/\w'.cell? ⟨ab,ao+k*6+2,none⟩=some (.int .i64 (W.zOy k).zO0))) (by kernel_rfl) (lB.out _ gA) (fun hHeld=>?_);generalize w6.drew=q0 at hHeld gA ⊢
 refine' zCu (fun hfin=>_) _
 rotate_left
 ·skip;refine tk 0 (h:=tk 1 (h:=tk 2 (h:=tk 3 (h:=tk 4 (h:=tk 5 (h:=tk 6 (h:=?_)))))));refine rd [7,11] (rc (fun K hK=>?_) (rc (fun K hK=>?_) .nil))
  ·skip;go_simp;go_at_call 54;refine(yS _ _ _ _ lo hi W (W.zOy k).zO0 _ (Hp.out.zOp (zA cC gA))).mono ?_;rintro e w4 ⟨s,b,t,rfl,hA,eB⟩
   (try go_wp2_with fail)
   refine hK.out _ _ (lB.out _ (zA gA eB)) ?_;clear hK K;intro hHeld
   try simp only[Act.put,s1,s2,s3]
   refine tk 8 (h:=tk 9 (h:=tk 10 (h:=?_)));refine rd [11] (rc (fun K hK=>?_) .nil);have cB:=zC w4 (.cells #[.int .i64 0,.int .i64 0] 99);go_simp
   (try go_wp2_with fail)
   refine hK.out _ _ (lB.out _ (zA (zA gA eB) cB)) ?_;clear hK K;intro hHeld
   try simp only[Act.put,s1,s2,s3]
   refine rd [12] (rc (fun K hK=>?_) .nil);have pE:=zC w4 (.cells #[.int .i64 s,.int .i64 b] 99);go_simp
   (try go_wp2_with fail)
   refine hK.out _ _ (lB.out _ (zA (zA gA eB) pE)) ?_;clear hK K;intro hHeld
   try simp only[Act.put,s1,s2,s3]
   refine tk 13 (h:=?_);have lA:Below w6.heap.size w6 (w4.alloc (.cells #[.int .i64 s,.int .i64 b] 99)):=zA (zA gA eB) pE;generalize (w4.alloc (.cells #[.int .i64 s,.int .i64 b] 99))=wq at lA ⊢;generalize (Value.pointer (some ⟨w4.heap.size,0,none⟩))=pv;refine wpAnyH_done (by kernel_rfl) ?_ _;clear hHeld cB pE;revert wq pv;revert hA;revert t b s;exact hfin.out
  ·skip;have cB:=zC q0 (.cells #[.int .i64 0,.int .i64 0] 99);have mF:=zB (zk.zOt q0 (.int .i64 0) (.int .i64 0) 99);go_simp
   (try go_wp2_with fail)
   refine hK.out _ _ (lB.out _ (zA gA cB)) ?_;clear hK K;intro hHeld
   try simp only[Act.put,s1,s2,s3]
   generalize q0.alloc (.cells #[.int .i64 0,.int .i64 0] 99)=qa at cB mF hHeld ⊢;refine rd [7] (rc (fun K hK=>?_) .nil);go_simp;go_at_call 54;refine(yS _ _ _ _ lo hi W (W.zOy k).zO0 _ (Hp.out.zOp (zA cC (zA gA cB)))).mono ?_;rintro e w4 ⟨s,b,t,rfl,hA,eB⟩
   (try go_wp2_with fail)
   refine hK.out _ _ (lB.out _ (zA (zA gA cB) eB)) ?_;clear hK K;intro hHeld
   try simp only[Act.put,s1,s2,s3]
   refine tk 8 (h:=tk 9 (h:=tk 10 (h:=?_)));refine rd [12] (rc (fun K hK=>?_) .nil);obtain⟨⟨m0,eJ⟩,⟨m1,fJ⟩⟩:=mF.out.zOp eB;have mG:zE (fun i=>i=q0.heap.size) w4 ((w4.setCell ⟨q0.heap.size,0,none⟩ (.int .i64 s)).setCell ⟨q0.heap.size,1,none⟩ (.int .i64 b)):=(zE.put _ _ _ _).trans (zE.put _ _ _ _);have rE:Below w6.heap.size w6 ((w4.setCell ⟨q0.heap.size,0,none⟩ (.int .i64 s)).setCell ⟨q0.heap.size,1,none⟩ (.int .i64 b)):=(zA (zA gA cB) eB).trans (mG.zOp (B:=w6.heap.size) (by have:=gA.size;have:=cB.size;have:=eB.size;omega) (fun i e=>by have:=gA.size;omega));go_simp
   (try go_wp2_with fail)
   refine hK.out _ _ (lB.out _ rE) ?_;clear hK K;intro hHeld
   try simp only[Act.put,s1,s2,s3]
   clear m0 eJ m1 fJ;refine tk 13 (h:=?_);have lA:Below w6.heap.size w6 ((w4.setCell ⟨q0.heap.size,0,none⟩ (.int .i64 s)).setCell ⟨q0.heap.size,1,none⟩ (.int .i64 b)):=rE;generalize ((w4.setCell ⟨q0.heap.size,0,none⟩ (.int .i64 s)).setCell ⟨q0.heap.size,1,none⟩ (.int .i64 b))=wq at lA ⊢;generalize (Value.pointer (some ⟨q0.heap.size,0,none⟩))=pv;refine wpAnyH_done (by kernel_rfl) ?_ _;clear hHeld mG rE;revert wq pv;revert hA;revert t b s;exact hfin.out
 intro s b t hA wq lA pv;obtain⟨A,fE⟩:∃A,A=zN W (W.zOy k).zO0:=⟨_,rfl⟩;have Ht:=zGX hA (fun ⟨i,hi⟩=>by
  have h1:=((aI.out.zO3.2.2.2.2.2 i hi.1).1).1;have h2:=hi.2.1;omega)
 rw[<-fE]at Ht;subst Ht;have HA:=zB fE;clear hA fE lB;have tI:=lA.size;have kI:=zA cC lA;have bI:=zB (vF.out.zOp lA);have eG:=zB (dG.out.zOp lA);have mH:=zB (oF.out.zOp lA);obtain⟨⟨x0,-⟩,⟨x1,-⟩,⟨x2,-⟩,⟨x3,-⟩,⟨x4,-⟩,⟨x5,-⟩⟩:=eG.out;go_wp2_with fail;clear x0 x1 x2 x3 x4 x5;refine(zBD _ y.old.length rA w.heap.size (zg y.old) (zj y.old) A.time wq (cI.out.zOp kI) (by omega)).mono ?_;rintro e w8 ⟨vy,vo,rfl,kD,jD,-,dC⟩;obtain⟨t8,fK,rfl,-⟩:=zX kD;obtain⟨s8,gH,rfl,-⟩:=zX jD;obtain⟨Y,gD⟩:∃Y,Y=yh (zg y.old) (zj y.old) A.time y.old.length:=⟨_,rfl⟩;obtain⟨L,hL⟩:∃L,L=zDm (zg y.old) (zj y.old) A.time y.old.length:=⟨_,rfl⟩;have mI:=zAX (zg y.old) (zj y.old) A.time y.old.length;rw[<-gD]at kD;rw[<-hL]at jD;rw[<-gD,<-hL]at mI ⊢;have eI:=zB gD;have jH:=zB hL;have pH:=zB kD;have pF:=zB jD;have bK:=dC.size;have fB:=zA lA dC;have oC:=zA cC fB;clear kD jD gD hL;go_wp2_with fail;have oI:y.zOv.hn<=400:=by
  have hR:=(HY.out.2.2 gG.out).1;have h1:=((zC0 y.zOv).2 hR).2.1;have h2:=hR.1;omega
 refine(zBl w5.heap.size wq.heap.size w8.heap.size (fun j=>rA<=j/\j<kB) _ _ _ _ _ W.time W.next y.zOv Y w8 (bI.out.zOp dC) ((kH.out.zOp oC).isIn (S:=fun j=>rA<=j/\j<kB) (fun j h1 h2=>⟨h1,h2⟩)) (fun j hj=>by have:=cD.size;omega) (by
  obtain⟨bb,ho,nA⟩:=qH.own pH.out (by unfold maxLen;omega);exact ho.at (fun h0=>⟨(nA h0).2.1,(nA h0).2.2⟩)) (by omega) (Nat.le_refl _) (by omega) oI).mono ?_
 rintro e wh ⟨rfl,y1,nG,gE,tA⟩;obtain⟨b9,bD,rfl⟩:∃a c,y1 = .slice a (zW y.zOv Y).hn c:=by
  obtain⟨_,_,_,_,_,_,⟨_,a,c,e,_⟩,_⟩:=gE;exact⟨a,c,e⟩
 have dK:=tA.size;have bJ:=cD.size;have aA:∀j,w.heap.size<=j->j<w8.heap.size->j≠w5.heap.size->¬(j=w5.heap.size\/(rA<=j/\j<kB)\/w8.heap.size<=j):=fun j h1 h2 h3 h=>by omega
 have aG:=zB nG;have lH:=zB gE;have sF:=zB tA;have fI:=zB ((eG.out.zOp dC).zOr tA (aA _ (by omega) (by omega) (by omega)));have rH:=zB ((mH.out.zOp dC).zOr tA (aA _ (by omega) (by omega) (by omega)));have dD:∀j,Q j->¬(j=w5.heap.size\/(rA<=j/\j<kB)\/w8.heap.size<=j):=fun j hj=>by have:=iA.out j (Or.inr (Or.inl hj));exact aA j (by omega) (by omega) (by omega)
 have lI:∀j,R j->¬(j=w5.heap.size\/(rA<=j/\j<kB)\/w8.heap.size<=j):=fun j hj=>by have:=iA.out j (Or.inr (Or.inr hj));exact aA j (by omega) (by omega) (by omega)
 have vD:=zB ((jC.out.zOp fB).zOr tA (fun j hj=>dD j (mB.out j hj)));have lD:=((sD.out.zOp fB).zOr tA (dD _ nF.out) (fun h0=>dD _ (mB.out _ (Or.inr ⟨k,hk,h0,rfl⟩))));have gI:=zB ((fG.out.zOp fB).zOr tA lI);have oH:=zB (show zp wh 0 wh.heap.size (.slice s8 L.length gH) L.length (zg L) (zj L)from by
  obtain⟨bb,ho,nA⟩:=qH.own pF.out (by unfold maxLen;omega);exact(ho.zOr tA (fun h0=>aA _ (by have:=(nA h0).2.1;omega) (nA h0).2.2 (by have:=(nA h0).2.1;omega))).at (fun h0=>⟨Nat.zero_le _,by have:=(nA h0).2.2;omega⟩))
 have rD:=zB (fC.out.turnedL (zA lA dC) tA (fun h0=>by
  have nI:(kv k).ownBlock=some (kb k):=by
   obtain⟨_,a,c,hv,_,hx⟩:=sD.out.zO5;obtain⟨off,ha,_⟩:=hx h0;rw[hv,ha];rfl
  exact⟨kb k,nI,dD _ (mB.out _ (Or.inr ⟨k,hk,h0,rfl⟩))⟩))
 have sA:=zB lD;clear nG gE tA aA;obtain⟨-,-,⟨x2,-⟩,⟨x3,-⟩,-⟩:=fI.out;obtain⟨-,-,-,-,⟨v4,-⟩,-⟩:=aG.out;obtain⟨t3,iJ⟩:=lD.c3;obtain⟨t4,jJ⟩:=lD.c4;have n1:sb≠w5.heap.size:=by omega
 have n2:w5.heap.size≠sb:=by omega
 have n3:sb≠w.heap.size+1:=by omega
 have n4:w.heap.size+1≠sb:=by omega
 clear lD;go_upto_region 9 with fail;clear x2 x3 v4 t3 iJ t4 jJ;have rB:zE (fun j=>j=sb) wh ((wh.setCell ⟨sb,so+k*6+3,none⟩ (.int .i64 y.rs)).setCell ⟨sb,so+k*6+3+1,none⟩ (.int .i64 y.rb)):=(zE.put _ _ _ _).trans (zE.put _ _ _ _);have aJ:=rB.size;have cH:0<(W.zOy k).dn->¬kb k=sb:=fun h0=>sA.out.zO4 h0
 have gF:=zB (show ∀j,j<W.sn->j≠k->∀r,r<6->∀u,zT wh sb (so+j*6+r) u->zT ((wh.setCell ⟨sb,so+k*6+3,none⟩ (.int .i64 y.rs)).setCell ⟨sb,so+k*6+3+1,none⟩ (.int .i64 y.rb)) sb (so+j*6+r) u from fun j hj sJ r hr u hc=>(hc.zOq _ (Or.inr (by omega))).zOq _ (Or.inr (by omega)));have tB:=zB (show ∀r,r<6->r≠3->r≠4->∀u,zT wh sb (so+k*6+r) u->zT ((wh.setCell ⟨sb,so+k*6+3,none⟩ (.int .i64 y.rs)).setCell ⟨sb,so+k*6+3+1,none⟩ (.int .i64 y.rb)) sb (so+k*6+r) u from fun r hr h3 h4 u hc=>(hc.zOq _ (Or.inr (by omega))).zOq _ (Or.inr (by omega)));have iF:=zB (show zT ((wh.setCell ⟨sb,so+k*6+3,none⟩ (.int .i64 y.rs)).setCell ⟨sb,so+k*6+3+1,none⟩ (.int .i64 y.rb)) sb (so+k*6+3) (.int .i64 y.rs)from(sA.out.c3.set _).zOq _ (Or.inr (by omega)));have jF:=zB (show zT ((wh.setCell ⟨sb,so+k*6+3,none⟩ (.int .i64 y.rs)).setCell ⟨sb,so+k*6+3+1,none⟩ (.int .i64 y.rb)) sb (so+k*6+4) (.int .i64 y.rb)from(sA.out.c4.zOq _ (Or.inr (by omega))).set _);have bE:=zB (aG.out.zOr rB n2);have rF:=zB (rH.out.zOr rB (by omega));have lC:=(rD.out.set ⟨sb,so+k*6+3,none⟩ (.int .i64 y.rs)).set ⟨sb,so+k*6+3+1,none⟩ (.int .i64 y.rb);have tG:=sA.out.zO5.zOr rB cH;have kC:zp ((wh.setCell ⟨sb,so+k*6+3,none⟩ (.int .i64 y.rs)).setCell ⟨sb,so+k*6+3+1,none⟩ (.int .i64 y.rb)) 0 (((wh.setCell ⟨sb,so+k*6+3,none⟩ (.int .i64 y.rs)).setCell ⟨sb,so+k*6+3+1,none⟩ (.int .i64 y.rb))).heap.size (.slice s8 L.length gH) L.length (zg L) (zj L):=by
  obtain⟨bb,ho,nA⟩:=qH.own pF.out (by unfold maxLen;omega);exact((ho.zOr sF.out (fun h0=>by have:=(nA h0).2;omega)).zOr rB (fun h0=>by have:=(nA h0).2;omega)).at (fun h0=>⟨Nat.zero_le _,by have:=(nA h0).2.2;omega⟩)
 have tF:=zB rB;have gC:=zB lC;have dE:=zB tG;have eC:=zB kC;clear rB lC tG kC;generalize ((wh.setCell ⟨sb,so+k*6+3,none⟩ (.int .i64 y.rs)).setCell ⟨sb,so+k*6+3+1,none⟩ (.int .i64 y.rb))=wi at aJ gF tB iF jF bE rF tF gC dE eC ⊢;have fA:Below wi.heap.size wi wi.drew:=(Below.refl _ _).drew;obtain⟨-,ak,ck,eE,-,-⟩:=id dE.out;have sE:=dE.out.zOp fA;have cF:=gC.out.zOp fA;rw[eE]at sE cF;obtain⟨da,dc,wb,nb,vC,tC,fD,aH⟩:=zF2 (lo:=0) (hi:=wi.heap.size) sE cF (eC.out.zOp fA) (by omega) 100;have gB:∀j,(0<(W.zOy k).dn/\j=kb k)->j≠sb/\j≠w5.heap.size/\w.heap.size+3<=j/\j<w5.heap.size/\Q j:=fun j hj=>by
  have h1:=mB.out j (Or.inr ⟨k,hk,hj.1,hj.2⟩);have h2:=iA.out j (Or.inr (Or.inl h1));exact⟨fun e=>cH hj.1 (by rw[<-hj.2];exact e),by omega,by omega,by omega,h1⟩
 have c5:=tB.out 5 (by omega) (by omega) (by omega) _ sA.out.c5;have iI:=(c5.zOp fA).zOr fD (fun h=>(gB _ h).1 rfl);rw[eE]at c5;obtain⟨d5,iG⟩:=c5.zOp fA;obtain⟨m5,gJ⟩:=iI;have nE:=(bE.out.zOp fA).zOr fD (fun h=>(gB _ h).2.1 rfl);obtain⟨v4,-⟩:=(bE.out.zOp fA).2.2.2.2.1;obtain⟨u4,-⟩:=nE.2.2.2.2.1;have rI:w5.heap.size<wb.heap.size:=zD u4;have mE:=zE.put wb sb (so+k*6+5) (.slice da ((W.zOy k).dn+L.length) dc);have iH:=zB (show(fun w':World=>w'.cell? ⟨w5.heap.size,4,none⟩=some (.slice (some ⟨sb,so,none⟩) W.sn pA)) (wb.setCell ⟨sb,so+k*6+5,none⟩ (.slice da ((W.zOy k).dn+L.length) dc))from(mE.cell (o:=4) rI n2).trans u4);have oD:=zB tC;have aC:=zB fD;have kF:=zB aH;have iC:=zB vC;have HU:=zB u4;have aE:=zB v4;have cA:=zB gB;have bC:=zB mE;have dI:=zB nE;clear vC tC fD aH u4 v4 sE cF c5 gB mE nE eE;refine wp_region_held_drew (S:=(fun w':World=>w'.cell? ⟨w5.heap.size,4,none⟩=some (.slice (some ⟨sb,so,none⟩) W.sn pA))) (by kernel_rfl) aE.out (fun hHeld=>?_);generalize wi.drew=q7 at hHeld aE iC aC kF d5 iG fA ⊢;refine tk 0 (h:=tk 1 (h:=tk 2 (h:=tk 3 (h:=tk 4 (h:=tk 5 (h:=tk 6 (h:=tk 7 (h:=tk 9 (h:=?_)))))))));refine rd [8] (rc (fun K hK=>?_) .nil);go_simp
 (try go_wp2_with fail)
 refine hK.out _ _ (aE.out) ?_;clear hK K;intro hHeld
 try simp only[Act.put,s1,s2,s3]
 refine rd [10] (rc (fun K hK=>?_) .nil);refine zM rfl (.tmp 59) (.tmp 60) 100 rfl _ _ _ rfl rfl iC.out ?_
 (try go_wp2_with fail)
 refine hK.out _ _ (HU.out) ?_;clear hK K;intro hHeld
 try simp only[Act.put,s1,s2,s3]
 clear d5 iG;refine tk 11 (h:=tk 12 (h:=?_));refine rd [13] (rc (fun K hK=>?_) .nil);go_simp
 (try go_wp2_with fail)
 refine hK.out _ _ (iH.out) ?_;clear hK K;intro hHeld
 try simp only[Act.put,s1,s2,s3]
 refine wpAnyH_done (by kernel_rfl) ?_ _;clear hHeld m5 gJ;have eK:=fA.size;have cK:=aC.out.size;have cJ:=bC.out.size;have vB:=zB (((rF.out.zOp fA).zOr aC.out (fun h=>by have:=cA.out _ h;omega)).zOr bC.out (by omega));have bG:=zB (dI.out.zOr bC.out n2);have eD:zGA W k y=yr (W.zOy k).dn (W.zOy k).ds (W.zOy k).db ++ L:=by unfold zGA zNh;rw[jH.out,HA.out]
 have eY:zHe W k y=Y:=by unfold zHe;rw[eI.out,HA.out]
 have mC:zE (fun j=>j=sb\/(0<(W.zOy k).dn/\j=kb k)) q7 (wb.setCell ⟨sb,so+k*6+5,none⟩ (.slice da ((W.zOy k).dn+L.length) dc)):=(aC.out.mono (fun j e=>Or.inr e)).trans (bC.out.mono (fun j e=>Or.inl e));have mA:zE (fun j=>j=sb\/(0<(W.zOy k).dn/\j=kb k)) wh (wb.setCell ⟨sb,so+k*6+5,none⟩ (.slice da ((W.zOy k).dn+L.length) dc)):=((tF.out.mono (fun j e=>Or.inl e)).trans (zE.zOs fA)).trans mC;have sB:∀o u,o≠so+k*6+5->zT wi sb o u->zT (wb.setCell ⟨sb,so+k*6+5,none⟩ (.slice da ((W.zOy k).dn+L.length) dc)) sb o u:=fun o u ho h=>((h.zOp fA).zOr aC.out (fun h=>(cA.out _ h).1 rfl)).zOq _ (Or.inr (by omega))
 have bF:0<(zEa W k y).dn->((0<(W.zOy k).dn/\nb=kb k)\/(q7.heap.size<=nb/\nb<wb.heap.size)):=fun h=>kF.out (by
  have:(zEa W k y).dn=(W.zOy k).dn+L.length:=(by show(zGA W k y).length=_;rw[eD,List.length_append,zAK]);omega)
 have sC:0<(zEa W k y).dn->nb≠sb:=fun h=>by
  rcases bF h with h | h
  ·exact(cA.out nb h).1
  ·omega
 have aD:qx (wb.setCell ⟨sb,so+k*6+5,none⟩ (.slice da ((W.zOy k).dn+L.length) dc)) sb (so+k*6) nb (.slice da ((W.zOy k).dn+L.length) dc) (zEa W k y):=by
  refine⟨?_,?_,?_,?_,?_,?_,?_,sA.out.zO6,sC⟩
  ·exact sB _ _ (by omega) (tB.out 0 (by omega) (by omega) (by omega) _ sA.out.c0)
  ·exact sB _ _ (by omega) (tB.out 1 (by omega) (by omega) (by omega) _ sA.out.c1)
  ·exact sB _ _ (by omega) (tB.out 2 (by omega) (by omega) (by omega) _ sA.out.c2)
  ·exact sB _ _ (by omega) iF.out
  ·exact sB _ _ (by omega) jF.out
  ·exact(((tB.out 5 (by omega) (by omega) (by omega) _ sA.out.c5).zOp fA).zOr aC.out (fun h=>(cA.out _ h).1 rfl)).set _
  ·have h:=oD.out.zOr bC.out (fun h0=>sC (by show 0<(zGA W k y).length;rw[eD];exact h0));show ze _ nb _ (zGA W k y).length (zg (zGA W k y)) (zj (zGA W k y));rw[eD];exact h
 have jG:qN (wb.setCell ⟨sb,so+k*6+5,none⟩ (.slice da ((W.zOy k).dn+L.length) dc)) (fun j=>(rA<=j/\j<kB)\/(w8.heap.size<=j/\j<wh.heap.size)) (.slice dA y.zOv.n eA) (.slice b9 (zW y.zOv Y).hn bD) (zW y.zOv Y):=lH.out.zOr mA (fun j hj e=>by
  rcases e with e | e
  ·omega
  ·have:=cA.out j e;omega)
 have lF:=zB (show ∃P Q R,zAT (wb.setCell ⟨sb,so+k*6+5,none⟩ (.slice da ((W.zOy k).dn+L.length) dc)) P Q R (.slice dA y.zOv.n eA) (.slice b9 (zW y.zOv Y).hn bD) (.slice (some ⟨sb,so,none⟩) W.sn pA) (.slice l3 W.pn jB) (zOJ W k y)/\∀j,P j\/Q j\/R j->base<=j/\j<((wb.setCell ⟨sb,so+k*6+5,none⟩ (.slice da ((W.zOy k).dn+L.length) dc))).heap.size/\j≠w.heap.size+1+1 from by
  refine⟨(fun j=>(rA<=j/\j<kB)\/(w8.heap.size<=j/\j<wh.heap.size)),(fun j=>Q j\/(q7.heap.size<=j/\j<wb.heap.size)),R,⟨?_,?_,?_,?_,?_,?_⟩,?_⟩
  ·show qN _ _ _ _ (zW y.zOv (zHe W k y));rw[eY];exact jG
  ·refine zHG (w:=wh) vD.out tD.out (fun j hj=>Or.inl (mB.out j hj)) hk mA (fun j hj aF r hr u hc=>sB _ _ (by omega) (gF.out j hj aF r hr u hc)) aD (fun h=>⟨(bF h).imp id (fun h j hj e=>?_),?_⟩)
   ·have:=iA.out j (Or.inr (Or.inl (mB.out j hj)));omega
   ·rcases bF h with h | h
    ·exact Or.inl (cA.out nb h).2.2.2.2
    ·exact Or.inr h
  ·exact gI.out.zOr mA (fun j hj e=>by
    rcases e with e | e
    ·exact pD.out sb nF.out (by rw[<-e];exact hj)
    ·exact pD.out j (cA.out j e).2.2.2.2 hj)
  ·intro j hj hq;rcases hq with hq | hq
   ·have:=iA.out j (Or.inr (Or.inl hq));omega
   ·omega
  ·intro j hj hq;have:=iA.out j (Or.inr (Or.inr hq));omega
  ·intro j hj hq;rcases hj with hj | hj
   ·exact pD.out j hj hq
   ·have:=iA.out j (Or.inr (Or.inr hq));omega
  ·rintro j (h | h | h)
   ·omega
   ·rcases h with h | h
    ·have:=iA.out j (Or.inr (Or.inl h));omega
    ·omega
   ·have:=iA.out j (Or.inr (Or.inr h));omega)
 have pC:Below base w (wb.setCell ⟨sb,so+k*6+5,none⟩ (.slice da ((W.zOy k).dn+L.length) dc)):=((oC.mono rG).trans (sF.out.zOp (B:=base) (by omega) (fun j h=>by omega))).trans (mA.zOp (B:=base) (by omega) (fun j h=>by
  rcases h with h | h
  ·omega
  ·have:=cA.out j h;omega))
 clear mC mA sB aD jG;generalize (wb.setCell ⟨sb,so+k*6+5,none⟩ (.slice da ((W.zOy k).dn+L.length) dc))=wz at bC vB bG cJ lF pC ⊢;obtain⟨⟨v0,-⟩,⟨v1,-⟩,⟨v2,-⟩,⟨v3,-⟩,⟨v4,-⟩,⟨v5,-⟩⟩:=bG.out;obtain⟨⟨r0,g0⟩,⟨r1,g1⟩,⟨r2,g2⟩,⟨r3,g3⟩,⟨r4,g4⟩,⟨r5,g5⟩,⟨r6,g6⟩,⟨r7,g7⟩,⟨r8,g8⟩⟩:=vB.out;go_wp2_with fail;have bA:=vB.out.put (.slice dA y.zOv.n eA) (.slice b9 (zW y.zOv Y).hn bD) (.int .i64 W.time) (.int .i64 W.next) (.slice (some ⟨sb,so,none⟩) W.sn pA) (.slice l3 W.pn jB) (.int .i64 0) (.int .i64 (Y.length:Int)) (.int .i64 0);have hT:=zE.put9 wz (w.heap.size+1+1) (.slice dA y.zOv.n eA) (.slice b9 (zW y.zOv Y).hn bD) (.int .i64 W.time) (.int .i64 W.next) (.slice (some ⟨sb,so,none⟩) W.sn pA) (.slice l3 W.pn jB) (.int .i64 0) (.int .i64 (Y.length:Int)) (.int .i64 0);clear r0 g0 r1 g1 r2 g2 r3 g3 r4 g4 r5 g5 r6 g6 r7 g7 r8 g8;refine bodyPost_ret (v:=.agg #[.slice dA y.zOv.n eA,.slice b9 (zW y.zOv Y).hn bD,.int .i64 W.time,.int .i64 W.next,.slice (some ⟨sb,so,none⟩) W.sn pA,.slice l3 W.pn jB,.int .i64 0,.int .i64 (Y.length:Int),.int .i64 0]) (by simp[results,Tryz.results48,go_sem,bA.1.1,bA.2.1.1,bA.2.2.1.1,bA.2.2.2.1.1,bA.2.2.2.2.1.1,bA.2.2.2.2.2.1.1,bA.2.2.2.2.2.2.1.1,bA.2.2.2.2.2.2.2.1.1,bA.2.2.2.2.2.2.2.2.1]) rfl ?_;have eO:zDB W k y=⟨zOJ W k y,0,((zHe W k y).length:Int),0⟩:=if_pos gG.out;rw[eO,eY];obtain⟨P1,Q1,R1,tE,vE⟩:=lF.out;have vI:=hT.size;exact⟨_,_,_,_,rfl,⟨P1,Q1,R1,tE.zOr hT (fun i hi e=>(vE i hi).2.2 e),fun i hi=>⟨(vE i hi).1,Nat.lt_of_lt_of_le (vE i hi).2.1 vI⟩⟩,pC.trans (hT.zOp (B:=base) (by omega) (fun i e=>by omega))⟩
end Go.Proofs.YtgabgheflgjgiaaGreatDoor
