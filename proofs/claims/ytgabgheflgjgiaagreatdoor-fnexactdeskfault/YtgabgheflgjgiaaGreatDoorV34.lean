/- A part of the proof. -/
import Derived.Test.YtgabgheflgjgiaaGreatDoorV33
import Derived.Test.YtgabgheflgjgiaaGreatDoorV25
set_option linter.unusedVariables false
set_option maxRecDepth 20000
set_option maxHeartbeats 4000000
namespace Go.Proofs.YtgabgheflgjgiaaGreatDoor
open Go.RowKit
def zC3(base:Nat)(o:zCT)(w:World)(e:Ending)(w':World):Prop:=∃v0 v1 v2 v3,e = .returned (zH8 v0 v1 v2 v3 o)/\zf w' base w'.heap.size v0 v1 v2 v3 o.world/\Below base w w'
theorem zFm(v0 v1 v2 v3 cH dH vo:Value)(lo hi k base rA kB:Nat)(W:zH)(y:zCS)(w:World)(h:zr w lo hi v0 v1 v2 v3 W)(hS:zBp W)(b1:qA W.zOa<=1048576)(b2:W.sn<=1048576)(b3:W.pn<=1048576)(b4:zAs W)(hk:k<W.sn)(hy:zHc y)(oG:base<=rA)(pG:base<=w.heap.size)(gE:zh w rA kB cH dH y.zOa)(pJ:kB<=w.heap.size)(cF:zp w rA w.heap.size vo y.old.length (zg y.old) (zj y.old))(nJ:hi<=base) :
  Calls Tryz.prog 48 #[qT v0 v1 v2 v3 W,.int .i64 k,.agg #[cH,dH,.int .i64 y.rs,.int .i64 y.rb,vo,.int .i64 y.code]] w (zC3 base (zC7 W k y) w):=by
 have Hp:=zB h;obtain⟨a0,c0,a1,c1,a2,c2,a3,c3,rfl,rfl,rfl,rfl⟩:=h.form;obtain⟨ab,ao,jJ,rfl,bH⟩:=h.zOd.cells hk;obtain⟨dA,eA,jA,kA,rfl,rfl⟩:=gE.at.form;obtain⟨-,oo,oc,rfl,-,-⟩:=id cF;have tH:=zB hS;have HY:=zB hy;have iH:=zB gE;have aI:=zB cF;have rH:=zB bH;have oJ:=hy.2.1;have lJ:=b4.1 k hk;have h8:=hS.zOj.2.2.1;have kJ:=hS.zOj.2.2.2.1;clear h hS hy gE cF bH;have nG:=zC w (.cells #[.slice a0 W.zOa.n c0,.slice a1 W.zOa.hn c1,.int .i64 W.time,.int .i64 W.next,.slice (some ⟨ab,ao,none⟩) W.sn c2,.slice a3 W.pn c3] 40);have nE:=zC (w.alloc (.cells #[.slice a0 W.zOa.n c0,.slice a1 W.zOa.hn c1,.int .i64 W.time,.int .i64 W.next,.slice (some ⟨ab,ao,none⟩) W.sn c2,.slice a3 W.pn c3] 40)) (.cells #[.slice dA y.zOa.n eA,.slice jA y.zOa.hn kA,.int .i64 y.rs,.int .i64 y.rb,.slice oo y.old.length oc,.int .i64 y.code] 106);have gD:=zC ((w.alloc (.cells #[.slice a0 W.zOa.n c0,.slice a1 W.zOa.hn c1,.int .i64 W.time,.int .i64 W.next,.slice (some ⟨ab,ao,none⟩) W.sn c2,.slice a3 W.pn c3] 40)).alloc (.cells #[.slice dA y.zOa.n eA,.slice jA y.zOa.hn kA,.int .i64 y.rs,.int .i64 y.rb,.slice oo y.old.length oc,.int .i64 y.code] 106)) (.cells #[.slice none 0 0,.slice none 0 0,.int .i64 0,.int .i64 0,.slice none 0 0,.slice none 0 0,.int .i64 0,.int .i64 0,.int .i64 0] 71);have hb:=zA (zA nG nE) gD;have HX:=zB (((za.zOY w (.slice a0 W.zOa.n c0) (.slice a1 W.zOa.hn c1) (.int .i64 W.time) (.int .i64 W.next) (.slice (some ⟨ab,ao,none⟩) W.sn c2) (.slice a3 W.pn c3) 40).zOU nE).zOU gD);have dF:=(za.zOY (w.alloc (.cells #[.slice a0 W.zOa.n c0,.slice a1 W.zOa.hn c1,.int .i64 W.time,.int .i64 W.next,.slice (some ⟨ab,ao,none⟩) W.sn c2,.slice a3 W.pn c3] 40)) (.slice dA y.zOa.n eA) (.slice jA y.zOa.hn kA) (.int .i64 y.rs) (.int .i64 y.rb) (.slice oo y.old.length oc) (.int .i64 y.code) 106).zOU gD;rw[World.size_alloc]at dF;have bE:=zB dF;have hr:=zBg.zOY ((w.alloc (.cells #[.slice a0 W.zOa.n c0,.slice a1 W.zOa.hn c1,.int .i64 W.time,.int .i64 W.next,.slice (some ⟨ab,ao,none⟩) W.sn c2,.slice a3 W.pn c3] 40)).alloc (.cells #[.slice dA y.zOa.n eA,.slice jA y.zOa.hn kA,.int .i64 y.rs,.int .i64 y.rb,.slice oo y.old.length oc,.int .i64 y.code] 106)) (.slice none 0 0) (.slice none 0 0) (.int .i64 0) (.int .i64 0) (.slice none 0 0) (.slice none 0 0) (.int .i64 0) (.int .i64 0) (.int .i64 0) 71;rw[World.size_alloc,World.size_alloc]at hr;have HR:=zB hr;have hz:(((w.alloc (.cells #[.slice a0 W.zOa.n c0,.slice a1 W.zOa.hn c1,.int .i64 W.time,.int .i64 W.next,.slice (some ⟨ab,ao,none⟩) W.sn c2,.slice a3 W.pn c3] 40)).alloc (.cells #[.slice dA y.zOa.n eA,.slice jA y.zOa.hn kA,.int .i64 y.rs,.int .i64 y.rb,.slice oo y.old.length oc,.int .i64 y.code] 106)).alloc (.cells #[.slice none 0 0,.slice none 0 0,.int .i64 0,.int .i64 0,.slice none 0 0,.slice none 0 0,.int .i64 0,.int .i64 0,.int .i64 0] 71)).heap.size>=w.heap.size+3:=by rw[World.size_alloc,World.size_alloc,World.size_alloc];omega
 have mJ:(k:Int)<(W.sn:Int):=by omega
 have k0:¬(k:Int)<0:=by omega
 clear dF hr;go_enter Tryz.func48,Tryz.ntmps48;go_upto_region 1 with fail;generalize (((w.alloc (.cells #[.slice a0 W.zOa.n c0,.slice a1 W.zOa.hn c1,.int .i64 W.time,.int .i64 W.next,.slice (some ⟨ab,ao,none⟩) W.sn c2,.slice a3 W.pn c3] 40)).alloc (.cells #[.slice dA y.zOa.n eA,.slice jA y.zOa.hn kA,.int .i64 y.rs,.int .i64 y.rb,.slice oo y.old.length oc,.int .i64 y.code] 106)).alloc (.cells #[.slice none 0 0,.slice none 0 0,.int .i64 0,.int .i64 0,.slice none 0 0,.slice none 0 0,.int .i64 0,.int .i64 0,.int .i64 0] 71))=W1 at hb HX bE HR hz ⊢;clear nG nE gD;obtain⟨⟨x0,-⟩,⟨x1,-⟩,⟨x2,-⟩,⟨x3,-⟩,⟨x4,-⟩,⟨x5,-⟩⟩:=bE.out;by_cases hc0:y.code=0;rotate_left
 ·have ec:(y.code != 0)=true:=bne_iff_ne.2 hc0;go_wp2_with fail;clear x0 x1 x2 x3 x4 x5;refine(zR y.code _).mono ?_;rintro e wz ⟨rfl,rG⟩;have pC:=zA hb rG;have vB:=zB (HR.out.zOU rG);obtain⟨⟨r0,g0⟩,⟨r1,g1⟩,⟨r2,g2⟩,⟨r3,g3⟩,⟨r4,g4⟩,⟨r5,g5⟩,⟨r6,g6⟩,⟨r7,g7⟩,⟨r8,g8⟩⟩:=vB.out;go_wp2_with fail;have bA:=vB.out.put (.slice none 0 0) (.slice none 0 0) (.int .i64 0) (.int .i64 0) (.slice none 0 0) (.slice none 0 0) (.int .i64 0) (.int .i64 0) (.int .i64 y.code);have hT:=zE.put9 wz (w.heap.size+1+1) (.slice none 0 0) (.slice none 0 0) (.int .i64 0) (.int .i64 0) (.slice none 0 0) (.slice none 0 0) (.int .i64 0) (.int .i64 0) (.int .i64 y.code);clear r0 g0 r1 g1 r2 g2 r3 g3 r4 g4 r5 g5 r6 g6 r7 g7 r8 g8;refine bodyPost_ret (v:=.agg #[.slice none 0 0,.slice none 0 0,.int .i64 0,.int .i64 0,.slice none 0 0,.slice none 0 0,.int .i64 0,.int .i64 0,.int .i64 y.code]) (by simp[results,Tryz.results48,go_sem,bA.1.1,bA.2.1.1,bA.2.2.1.1,bA.2.2.2.1.1,bA.2.2.2.2.1.1,bA.2.2.2.2.2.1.1,bA.2.2.2.2.2.2.1.1,bA.2.2.2.2.2.2.2.1.1,bA.2.2.2.2.2.2.2.2.1]) rfl ?_;have eO:zC7 W k y=yB y.code:=if_neg hc0;rw[eO];exact⟨_,_,_,_,rfl,zi,(pC.trans (hT.zOU (B:=w.heap.size) pC.size (fun k e=>by omega))).mono pG⟩
 have fG:=zB hc0;have ec:(y.code != 0)=false:=by rw[hc0];rfl
 clear hc0;obtain⟨⟨w0,-⟩,⟨w1,-⟩,⟨w2,-⟩,⟨w3,-⟩,⟨w4,-⟩,⟨w5,-⟩⟩:=HX.out;go_wp2_with fail;clear x0 x1 x2 x3 x4 x5 w0 w1 w2 w3 w4 w5 ec;have gI:=hb;refine(yq _ _ _ _ lo hi W _ (Hp.out.zOU hb) b1 b2 b3 b4).mono ?_;rintro e w5 ⟨z0,z1,z2,z3,rfl,ho,nC⟩;obtain⟨P,Q,R,oA,iB⟩:=ho;have tG:=oA.isIn;obtain⟨sb,kb,kv,jE,kG,kE,-,jG⟩:=oA.zOd;obtain⟨so,pA,rfl,hs5⟩:=jE.nth hk;obtain⟨l0,lD,l1,mD,l2,aJ,l3,jB,rfl,rfl,e2,rfl⟩:=zf.form (lo:=W1.heap.size) (hi:=w5.heap.size) ⟨P,Q,R,tG,iB⟩;clear e2;have bD:=zA gI nC;have hz5:=nC.size;have dB:=zC w5 (.cells #[.slice l0 W.zOa.n lD,.slice l1 W.zOa.hn mD,.int .i64 W.time,.int .i64 W.next,.slice (some ⟨sb,so,none⟩) W.sn pA,.slice l3 W.pn jB] 40);have hz6:(w5.alloc (.cells #[.slice l0 W.zOa.n lD,.slice l1 W.zOa.hn mD,.int .i64 W.time,.int .i64 W.next,.slice (some ⟨sb,so,none⟩) W.sn pA,.slice l3 W.pn jB] 40)).heap.size=w5.heap.size+1:=World.size_alloc _ _;have vA:=zB (za.zOY w5 (.slice l0 W.zOa.n lD) (.slice l1 W.zOa.hn mD) (.int .i64 W.time) (.int .i64 W.next) (.slice (some ⟨sb,so,none⟩) W.sn pA) (.slice l3 W.pn jB) 40);have iA:=zB iB;have sH:=zB jE;have sD:=zB kG;have mB:=zB kE;have pH:=zB hs5;have lH:=zB (jG k hk);have HZ:=zB oA.zOb.isIn;have oD:=zB oA.qr;have iE:Q sb:=kE _ (Or.inl ⟨by omega,rfl⟩);have nI:=iB sb (Or.inr (Or.inl iE));have mF:=zB iE;have oB:=zB ((HX.out.zOU nC).zOU dB);have aB:=zB ((bE.out.zOU nC).zOU dB);have nB:=zB ((HR.out.zOU nC).zOU dB);have pB:=zA bD dB;clear oA tG iB jE kG kE hs5 iE jG;go_upto_region 4 with fail;generalize w5.alloc (.cells #[.slice l0 W.zOa.n lD,.slice l1 W.zOa.hn mD,.int .i64 W.time,.int .i64 W.next,.slice (some ⟨sb,so,none⟩) W.sn pA,.slice l3 W.pn jB] 40)=w6a at dB hz6 vA oB aB nB pB ⊢;obtain⟨⟨x0,-⟩,⟨x1,-⟩,-⟩:=aB.out;obtain⟨⟨v0,gJ⟩,⟨v1,iJ⟩,-⟩:=vA.out;go_upto_region 5 with fail;clear x0 x1 v0 gJ v1 iJ;have bB:zE (fun j=>j=w5.heap.size) w6a ((w6a.setCell ⟨w5.heap.size,0,none⟩ (.slice dA y.zOa.n eA)).setCell ⟨w5.heap.size,1,none⟩ (.slice jA y.zOa.hn kA)):=(zE.put _ _ _ _).trans (zE.put _ _ _ _);have cC:Below w.heap.size w ((w6a.setCell ⟨w5.heap.size,0,none⟩ (.slice dA y.zOa.n eA)).setCell ⟨w5.heap.size,1,none⟩ (.slice jA y.zOa.hn kA)):=pB.trans (bB.zOU (B:=w.heap.size) pB.size (fun j e=>by have:=bD.size;omega));have tF:=zB (show za ((w6a.setCell ⟨w5.heap.size,0,none⟩ (.slice dA y.zOa.n eA)).setCell ⟨w5.heap.size,1,none⟩ (.slice jA y.zOa.hn kA)) w5.heap.size (.slice dA y.zOa.n eA) (.slice jA y.zOa.hn kA) (.int .i64 W.time) (.int .i64 W.next) (.slice (some ⟨sb,so,none⟩) W.sn pA) (.slice l3 W.pn jB)from by
  have h:=vA.out;exact⟨(h.1.set _).zOV _ (Or.inr (by decide)),(h.2.1.zOV _ (Or.inr (by decide))).set _,(h.2.2.1.zOV _ (Or.inr (by decide))).zOV _ (Or.inr (by decide)),(h.2.2.2.1.zOV _ (Or.inr (by decide))).zOV _ (Or.inr (by decide)),(h.2.2.2.2.1.zOV _ (Or.inr (by decide))).zOV _ (Or.inr (by decide)),(h.2.2.2.2.2.zOV _ (Or.inr (by decide))).zOV _ (Or.inr (by decide))⟩)
 have bG:=zB (oB.out.zOW bB (by omega));have cG:=zB (aB.out.zOW bB (by omega));have nF:=zB (nB.out.zOW bB (by omega));have eF:=bB.size;have jC:=zB ((sH.out.zOU dB).zOW bB (fun j hj e=>by have:=iA.out j (Or.inr (Or.inl (mB.out j hj)));omega));have rD:=zB ((pH.out.zOU dB).zOW bB (by omega) (fun h0 e=>by have:=iA.out _ (Or.inr (Or.inl (mB.out _ (Or.inr ⟨k,hk,h0,rfl⟩))));omega));have fC:=zB (((lH.out.zOU dB).set ⟨w5.heap.size,0,none⟩ (.slice dA y.zOa.n eA)).set ⟨w5.heap.size,1,none⟩ (.slice jA y.zOa.hn kA));have eG:=zB ((HZ.out.zOU dB).zOW bB (fun j hj e=>by have:=iA.out j (Or.inr (Or.inr hj));omega));clear bB vA oB aB nB;generalize ((w6a.setCell ⟨w5.heap.size,0,none⟩ (.slice dA y.zOa.n eA)).setCell ⟨w5.heap.size,1,none⟩ (.slice jA y.zOa.hn kA))=w6 at cC tF bG cG nF eF jC rD fC eG ⊢;have gA:Below w6.heap.size w6 w6.drew:=(Below.refl _ _).drew;have lB:=zB (show ∀w',Below w6.heap.size w6 w'->(fun w':World=>w'.cell? ⟨w.heap.size,0,none⟩=some (.slice a0 W.zOa.n c0)/\w'.cell? ⟨w.heap.size,1,none⟩=some (.slice a1 W.zOa.hn c1)/\w'.cell? ⟨w.heap.size,2,none⟩=some (.int .i64 W.time)/\w'.cell? ⟨w.heap.size,3,none⟩=some (.int .i64 W.next)/\w'.cell? ⟨w.heap.size,4,none⟩=some (.slice (some ⟨ab,ao,none⟩) W.sn c2)/\w'.cell? ⟨w.heap.size,5,none⟩=some (.slice a3 W.pn c3)/\w'.cell? ⟨ab,ao+k*6+2,none⟩=some (.int .i64 (W.zOd k).zOg)) w' from fun w' hb=>by
  have hx:=bG.out.zOU hb;exact⟨hx.1.1,hx.2.1.1,hx.2.2.1.1,hx.2.2.2.1.1,hx.2.2.2.2.1.1,hx.2.2.2.2.2.1,(rH.out.zOU (zA cC hb)).c2⟩)
 refine wp_region_held_drew (S:=(fun w':World=>w'.cell? ⟨w.heap.size,0,none⟩=some (.slice a0 W.zOa.n c0)/\w'.cell? ⟨w.heap.size,1,none⟩=some (.slice a1 W.zOa.hn c1)/\w'.cell? ⟨w.heap.size,2,none⟩=some (.int .i64 W.time)/\w'.cell? ⟨w.heap.size,3,none⟩=some (.int .i64 W.next)/\w'.cell? ⟨w.heap.size,4,none⟩=some (.slice (some ⟨ab,ao,none⟩) W.sn c2)/\w'.cell? ⟨w.heap.size,5,none⟩=some (.slice a3 W.pn c3)/\w'.cell? ⟨ab,ao+k*6+2,none⟩=some (.int .i64 (W.zOd k).zOg))) (by kernel_rfl) (lB.out _ gA) (fun hHeld=>?_);generalize w6.drew=q0 at hHeld gA ⊢
 refine' zCq (fun hfin=>_) _
 rotate_left
 ·skip;refine tk 0 (h:=tk 1 (h:=tk 2 (h:=tk 3 (h:=tk 4 (h:=tk 5 (h:=tk 6 (h:=?_)))))));refine rd [7,11] (rc (fun K hK=>?_) (rc (fun K hK=>?_) .nil))
  ·skip;go_simp;go_at_call 54;refine(yS _ _ _ _ lo hi W (W.zOd k).zOg _ (Hp.out.zOU (zA cC gA))).mono ?_;rintro e w4 ⟨s,b,t,rfl,hA,eB⟩
   (try go_wp2_with fail)
   refine hK.out _ _ (lB.out _ (zA gA eB)) ?_;clear hK K;intro hHeld
   try simp only[Act.put,s1,s2,s3]
   refine tk 8 (h:=tk 9 (h:=tk 10 (h:=?_)));refine rd [11] (rc (fun K hK=>?_) .nil);have cB:=zC w4 (.cells #[.int .i64 0,.int .i64 0] 99);go_simp
   (try go_wp2_with fail)
   refine hK.out _ _ (lB.out _ (zA (zA gA eB) cB)) ?_;clear hK K;intro hHeld
   try simp only[Act.put,s1,s2,s3]
   refine rd [12] (rc (fun K hK=>?_) .nil);have oE:=zC w4 (.cells #[.int .i64 s,.int .i64 b] 99);go_simp
   (try go_wp2_with fail)
   refine hK.out _ _ (lB.out _ (zA (zA gA eB) oE)) ?_;clear hK K;intro hHeld
   try simp only[Act.put,s1,s2,s3]
   refine tk 13 (h:=?_);have lA:Below w6.heap.size w6 (w4.alloc (.cells #[.int .i64 s,.int .i64 b] 99)):=zA (zA gA eB) oE;generalize (w4.alloc (.cells #[.int .i64 s,.int .i64 b] 99))=wq at lA ⊢;generalize (Value.pointer (some ⟨w4.heap.size,0,none⟩))=pv;refine wpAnyH_done (by kernel_rfl) ?_ _;clear hHeld cB oE;revert wq pv;revert hA;revert t b s;exact hfin.out
  ·skip;have cB:=zC q0 (.cells #[.int .i64 0,.int .i64 0] 99);have lF:=zB (zk.zOY q0 (.int .i64 0) (.int .i64 0) 99);go_simp
   (try go_wp2_with fail)
   refine hK.out _ _ (lB.out _ (zA gA cB)) ?_;clear hK K;intro hHeld
   try simp only[Act.put,s1,s2,s3]
   generalize q0.alloc (.cells #[.int .i64 0,.int .i64 0] 99)=qa at cB lF hHeld ⊢;refine rd [7] (rc (fun K hK=>?_) .nil);go_simp;go_at_call 54;refine(yS _ _ _ _ lo hi W (W.zOd k).zOg _ (Hp.out.zOU (zA cC (zA gA cB)))).mono ?_;rintro e w4 ⟨s,b,t,rfl,hA,eB⟩
   (try go_wp2_with fail)
   refine hK.out _ _ (lB.out _ (zA (zA gA cB) eB)) ?_;clear hK K;intro hHeld
   try simp only[Act.put,s1,s2,s3]
   refine tk 8 (h:=tk 9 (h:=tk 10 (h:=?_)));refine rd [12] (rc (fun K hK=>?_) .nil);obtain⟨⟨m0,bJ⟩,⟨m1,cJ⟩⟩:=lF.out.zOU eB;have lG:zE (fun i=>i=q0.heap.size) w4 ((w4.setCell ⟨q0.heap.size,0,none⟩ (.int .i64 s)).setCell ⟨q0.heap.size,1,none⟩ (.int .i64 b)):=(zE.put _ _ _ _).trans (zE.put _ _ _ _);have pE:Below w6.heap.size w6 ((w4.setCell ⟨q0.heap.size,0,none⟩ (.int .i64 s)).setCell ⟨q0.heap.size,1,none⟩ (.int .i64 b)):=(zA (zA gA cB) eB).trans (lG.zOU (B:=w6.heap.size) (by have:=gA.size;have:=cB.size;have:=eB.size;omega) (fun i e=>by have:=gA.size;omega));go_simp
   (try go_wp2_with fail)
   refine hK.out _ _ (lB.out _ pE) ?_;clear hK K;intro hHeld
   try simp only[Act.put,s1,s2,s3]
   clear m0 bJ m1 cJ;refine tk 13 (h:=?_);have lA:Below w6.heap.size w6 ((w4.setCell ⟨q0.heap.size,0,none⟩ (.int .i64 s)).setCell ⟨q0.heap.size,1,none⟩ (.int .i64 b)):=pE;generalize ((w4.setCell ⟨q0.heap.size,0,none⟩ (.int .i64 s)).setCell ⟨q0.heap.size,1,none⟩ (.int .i64 b))=wq at lA ⊢;generalize (Value.pointer (some ⟨q0.heap.size,0,none⟩))=pv;refine wpAnyH_done (by kernel_rfl) ?_ _;clear hHeld lG pE;revert wq pv;revert hA;revert t b s;exact hfin.out
 intro s b t hA wq lA pv;obtain⟨A,eE⟩:∃A,A=zN W (W.zOd k).zOg:=⟨_,rfl⟩;have Ht:=zGM hA (fun ⟨i,hi⟩=>by
  have h1:=((tH.out.zOj.2.2.2.2.2 i hi.1).1).1;have h2:=hi.2.1;omega)
 rw[<-eE]at Ht;subst Ht;have HA:=zB eE;clear hA eE lB;have pI:=lA.size;have iI:=zA cC lA;have vH:=zB (tF.out.zOU lA);have dG:=zB (cG.out.zOU lA);have kH:=zB (nF.out.zOU lA);obtain⟨⟨x0,-⟩,⟨x1,-⟩,⟨x2,-⟩,⟨x3,-⟩,⟨x4,-⟩,⟨x5,-⟩⟩:=dG.out;go_wp2_with fail;clear x0 x1 x2 x3 x4 x5;refine(zBC _ y.old.length rA w.heap.size (zg y.old) (zj y.old) A.time wq (aI.out.zOU iI) (by omega)).mono ?_;rintro e w8 ⟨vy,vo,rfl,jD,iD,-,dC⟩;obtain⟨t8,aK,rfl,-⟩:=zX jD;obtain⟨s8,eH,rfl,-⟩:=zX iD;obtain⟨Y,fD⟩:∃Y,Y=yh (zg y.old) (zj y.old) A.time y.old.length:=⟨_,rfl⟩;obtain⟨L,hL⟩:∃L,L=zDg (zg y.old) (zj y.old) A.time y.old.length:=⟨_,rfl⟩;have kI:=zAW (zg y.old) (zj y.old) A.time y.old.length;rw[<-fD]at jD;rw[<-hL]at iD;rw[<-fD,<-hL]at kI ⊢;have cI:=zB fD;have gH:=zB hL;have nH:=zB jD;have oF:=zB iD;have rJ:=dC.size;have fB:=zA lA dC;have oC:=zA cC fB;clear jD iD fD hL;go_wp2_with fail;have mI:y.zOa.hn<=400:=by
  have hR:=(HY.out.2.2 fG.out).1;have h1:=((zCw y.zOa).2 hR).2.1;have h2:=hR.1;omega
 refine(zBj w5.heap.size wq.heap.size w8.heap.size (fun j=>rA<=j/\j<kB) _ _ _ _ _ W.time W.next y.zOa Y w8 (vH.out.zOU dC) ((iH.out.zOU oC).isIn (S:=fun j=>rA<=j/\j<kB) (fun j h1 h2=>⟨h1,h2⟩)) (fun j hj=>by have:=bD.size;omega) (by
  obtain⟨bb,ho,nA⟩:=qH.own nH.out (by unfold maxLen;omega);exact ho.at (fun h0=>⟨(nA h0).2.1,(nA h0).2.2⟩)) (by omega) (Nat.le_refl _) (by omega) mI).mono ?_
 rintro e wh ⟨rfl,y1,mG,fE,tA⟩;obtain⟨b9,aD,rfl⟩:∃a c,y1 = .slice a (zW y.zOa Y).hn c:=by
  obtain⟨_,_,_,_,_,_,⟨_,a,c,e,_⟩,_⟩:=fE;exact⟨a,c,e⟩
 have tJ:=tA.size;have tI:=bD.size;have aA:∀j,w.heap.size<=j->j<w8.heap.size->j≠w5.heap.size->¬(j=w5.heap.size\/(rA<=j/\j<kB)\/w8.heap.size<=j):=fun j h1 h2 h3 h=>by omega
 have vF:=zB mG;have jH:=zB fE;have rF:=zB tA;have dI:=zB ((dG.out.zOU dC).zOW tA (aA _ (by omega) (by omega) (by omega)));have oH:=zB ((kH.out.zOU dC).zOW tA (aA _ (by omega) (by omega) (by omega)));have cD:∀j,Q j->¬(j=w5.heap.size\/(rA<=j/\j<kB)\/w8.heap.size<=j):=fun j hj=>by have:=iA.out j (Or.inr (Or.inl hj));exact aA j (by omega) (by omega) (by omega)
 have jI:∀j,R j->¬(j=w5.heap.size\/(rA<=j/\j<kB)\/w8.heap.size<=j):=fun j hj=>by have:=iA.out j (Or.inr (Or.inr hj));exact aA j (by omega) (by omega) (by omega)
 have tD:=zB ((jC.out.zOU fB).zOW tA (fun j hj=>cD j (mB.out j hj)));have kD:=((rD.out.zOU fB).zOW tA (cD _ mF.out) (fun h0=>cD _ (mB.out _ (Or.inr ⟨k,hk,h0,rfl⟩))));have eI:=zB ((eG.out.zOU fB).zOW tA jI);have mH:=zB (show zp wh 0 wh.heap.size (.slice s8 L.length eH) L.length (zg L) (zj L)from by
  obtain⟨bb,ho,nA⟩:=qH.own oF.out (by unfold maxLen;omega);exact(ho.zOW tA (fun h0=>aA _ (by have:=(nA h0).2.1;omega) (nA h0).2.2 (by have:=(nA h0).2.1;omega))).at (fun h0=>⟨Nat.zero_le _,by have:=(nA h0).2.2;omega⟩))
 have pD:=zB (fC.out.turnedL (zA lA dC) tA (fun h0=>by
  have lI:(kv k).ownBlock=some (kb k):=by
   obtain⟨_,a,c,hv,_,hx⟩:=rD.out.zOl;obtain⟨off,ha,_⟩:=hx h0;rw[hv,ha];rfl
  exact⟨kb k,lI,cD _ (mB.out _ (Or.inr ⟨k,hk,h0,rfl⟩))⟩))
 have sA:=zB kD;clear mG fE tA aA;obtain⟨-,-,⟨x2,-⟩,⟨x3,-⟩,-⟩:=dI.out;obtain⟨-,-,-,-,⟨v4,-⟩,-⟩:=vF.out;obtain⟨t3,eJ⟩:=kD.c3;obtain⟨t4,fJ⟩:=kD.c4;have n1:sb≠w5.heap.size:=by omega
 have n2:w5.heap.size≠sb:=by omega
 have n3:sb≠w.heap.size+1:=by omega
 have n4:w.heap.size+1≠sb:=by omega
 clear kD;go_upto_region 9 with fail;clear x2 x3 v4 t3 eJ t4 fJ;have rB:zE (fun j=>j=sb) wh ((wh.setCell ⟨sb,so+k*6+3,none⟩ (.int .i64 y.rs)).setCell ⟨sb,so+k*6+3+1,none⟩ (.int .i64 y.rb)):=(zE.put _ _ _ _).trans (zE.put _ _ _ _);have sI:=rB.size;have aH:0<(W.zOd k).dn->¬kb k=sb:=fun h0=>sA.out.zOk h0
 have fF:=zB (show ∀j,j<W.sn->j≠k->∀r,r<6->∀u,zT wh sb (so+j*6+r) u->zT ((wh.setCell ⟨sb,so+k*6+3,none⟩ (.int .i64 y.rs)).setCell ⟨sb,so+k*6+3+1,none⟩ (.int .i64 y.rb)) sb (so+j*6+r) u from fun j hj hne r hr u hc=>(hc.zOV _ (Or.inr (by omega))).zOV _ (Or.inr (by omega)));have tB:=zB (show ∀r,r<6->r≠3->r≠4->∀u,zT wh sb (so+k*6+r) u->zT ((wh.setCell ⟨sb,so+k*6+3,none⟩ (.int .i64 y.rs)).setCell ⟨sb,so+k*6+3+1,none⟩ (.int .i64 y.rb)) sb (so+k*6+r) u from fun r hr h3 h4 u hc=>(hc.zOV _ (Or.inr (by omega))).zOV _ (Or.inr (by omega)));have gF:=zB (show zT ((wh.setCell ⟨sb,so+k*6+3,none⟩ (.int .i64 y.rs)).setCell ⟨sb,so+k*6+3+1,none⟩ (.int .i64 y.rb)) sb (so+k*6+3) (.int .i64 y.rs)from(sA.out.c3.set _).zOV _ (Or.inr (by omega)));have iF:=zB (show zT ((wh.setCell ⟨sb,so+k*6+3,none⟩ (.int .i64 y.rs)).setCell ⟨sb,so+k*6+3+1,none⟩ (.int .i64 y.rb)) sb (so+k*6+4) (.int .i64 y.rb)from(sA.out.c4.zOV _ (Or.inr (by omega))).set _);have aE:=zB (vF.out.zOW rB n2);have pF:=zB (oH.out.zOW rB (by omega));have lC:=(pD.out.set ⟨sb,so+k*6+3,none⟩ (.int .i64 y.rs)).set ⟨sb,so+k*6+3+1,none⟩ (.int .i64 y.rb);have sG:=sA.out.zOl.zOW rB aH;have kC:zp ((wh.setCell ⟨sb,so+k*6+3,none⟩ (.int .i64 y.rs)).setCell ⟨sb,so+k*6+3+1,none⟩ (.int .i64 y.rb)) 0 (((wh.setCell ⟨sb,so+k*6+3,none⟩ (.int .i64 y.rs)).setCell ⟨sb,so+k*6+3+1,none⟩ (.int .i64 y.rb))).heap.size (.slice s8 L.length eH) L.length (zg L) (zj L):=by
  obtain⟨bb,ho,nA⟩:=qH.own oF.out (by unfold maxLen;omega);exact((ho.zOW rF.out (fun h0=>by have:=(nA h0).2;omega)).zOW rB (fun h0=>by have:=(nA h0).2;omega)).at (fun h0=>⟨Nat.zero_le _,by have:=(nA h0).2.2;omega⟩)
 have sF:=zB rB;have gC:=zB lC;have cE:=zB sG;have eC:=zB kC;clear rB lC sG kC;generalize ((wh.setCell ⟨sb,so+k*6+3,none⟩ (.int .i64 y.rs)).setCell ⟨sb,so+k*6+3+1,none⟩ (.int .i64 y.rb))=wi at sI fF tB gF iF aE pF sF gC cE eC ⊢;have fA:Below wi.heap.size wi wi.drew:=(Below.refl _ _).drew;obtain⟨-,ak,ck,dE,-,-⟩:=id cE.out;have rE:=cE.out.zOU fA;have bF:=gC.out.zOU fA;rw[dE]at rE bF;obtain⟨da,dc,wb,nb,tC,sC,dD,vG⟩:=zFs (lo:=0) (hi:=wi.heap.size) rE bF (eC.out.zOU fA) (by omega) 100;have gB:∀j,(0<(W.zOd k).dn/\j=kb k)->j≠sb/\j≠w5.heap.size/\w.heap.size+3<=j/\j<w5.heap.size/\Q j:=fun j hj=>by
  have h1:=mB.out j (Or.inr ⟨k,hk,hj.1,hj.2⟩);have h2:=iA.out j (Or.inr (Or.inl h1));exact⟨fun e=>aH hj.1 (by rw[<-hj.2];exact e),by omega,by omega,by omega,h1⟩
 have c5:=tB.out 5 (by omega) (by omega) (by omega) _ sA.out.c5;have fI:=(c5.zOU fA).zOW dD (fun h=>(gB _ h).1 rfl);rw[dE]at c5;obtain⟨d5,gG⟩:=c5.zOU fA;obtain⟨m5,dJ⟩:=fI;have mE:=(aE.out.zOU fA).zOW dD (fun h=>(gB _ h).2.1 rfl);obtain⟨v4,-⟩:=(aE.out.zOU fA).2.2.2.2.1;obtain⟨u4,-⟩:=mE.2.2.2.2.1;have oI:w5.heap.size<wb.heap.size:=zD u4;have lE:=zE.put wb sb (so+k*6+5) (.slice da ((W.zOd k).dn+L.length) dc);have fH:=zB (show(fun w':World=>w'.cell? ⟨w5.heap.size,4,none⟩=some (.slice (some ⟨sb,so,none⟩) W.sn pA)) (wb.setCell ⟨sb,so+k*6+5,none⟩ (.slice da ((W.zOd k).dn+L.length) dc))from(lE.cell (o:=4) oI n2).trans u4);have nD:=zB sC;have aC:=zB dD;have jF:=zB vG;have iC:=zB tC;have HU:=zB u4;have vD:=zB v4;have cA:=zB gB;have bC:=zB lE;have bI:=zB mE;clear tC sC dD vG u4 v4 rE bF c5 gB lE mE dE;refine wp_region_held_drew (S:=(fun w':World=>w'.cell? ⟨w5.heap.size,4,none⟩=some (.slice (some ⟨sb,so,none⟩) W.sn pA))) (by kernel_rfl) vD.out (fun hHeld=>?_);generalize wi.drew=q7 at hHeld vD iC aC jF d5 gG fA ⊢;refine tk 0 (h:=tk 1 (h:=tk 2 (h:=tk 3 (h:=tk 4 (h:=tk 5 (h:=tk 6 (h:=tk 7 (h:=tk 9 (h:=?_)))))))));refine rd [8] (rc (fun K hK=>?_) .nil);go_simp
 (try go_wp2_with fail)
 refine hK.out _ _ (vD.out) ?_;clear hK K;intro hHeld
 try simp only[Act.put,s1,s2,s3]
 refine rd [10] (rc (fun K hK=>?_) .nil);refine zM rfl (.tmp 59) (.tmp 60) 100 rfl _ _ _ rfl rfl iC.out ?_
 (try go_wp2_with fail)
 refine hK.out _ _ (HU.out) ?_;clear hK K;intro hHeld
 try simp only[Act.put,s1,s2,s3]
 clear d5 gG;refine tk 11 (h:=tk 12 (h:=?_));refine rd [13] (rc (fun K hK=>?_) .nil);go_simp
 (try go_wp2_with fail)
 refine hK.out _ _ (fH.out) ?_;clear hK K;intro hHeld
 try simp only[Act.put,s1,s2,s3]
 refine wpAnyH_done (by kernel_rfl) ?_ _;clear hHeld m5 dJ;have vJ:=fA.size;have sJ:=aC.out.size;have vI:=bC.out.size;have vB:=zB (((pF.out.zOU fA).zOW aC.out (fun h=>by have:=cA.out _ h;omega)).zOW bC.out (by omega));have aG:=zB (bI.out.zOW bC.out n2);have eD:zFz W k y=yr (W.zOd k).dn (W.zOd k).ds (W.zOd k).db ++ L:=by unfold zFz zNO;rw[gH.out,HA.out]
 have eY:zHS W k y=Y:=by unfold zHS;rw[cI.out,HA.out]
 have mC:zE (fun j=>j=sb\/(0<(W.zOd k).dn/\j=kb k)) q7 (wb.setCell ⟨sb,so+k*6+5,none⟩ (.slice da ((W.zOd k).dn+L.length) dc)):=(aC.out.mono (fun j e=>Or.inr e)).trans (bC.out.mono (fun j e=>Or.inl e));have mA:zE (fun j=>j=sb\/(0<(W.zOd k).dn/\j=kb k)) wh (wb.setCell ⟨sb,so+k*6+5,none⟩ (.slice da ((W.zOd k).dn+L.length) dc)):=((sF.out.mono (fun j e=>Or.inl e)).trans (zE.zOX fA)).trans mC;have sB:∀o u,o≠so+k*6+5->zT wi sb o u->zT (wb.setCell ⟨sb,so+k*6+5,none⟩ (.slice da ((W.zOd k).dn+L.length) dc)) sb o u:=fun o u ho h=>((h.zOU fA).zOW aC.out (fun h=>(cA.out _ h).1 rfl)).zOV _ (Or.inr (by omega))
 have aF:0<(zES W k y).dn->((0<(W.zOd k).dn/\nb=kb k)\/(q7.heap.size<=nb/\nb<wb.heap.size)):=fun h=>jF.out (by
  have:(zES W k y).dn=(W.zOd k).dn+L.length:=(by show(zFz W k y).length=_;rw[eD,List.length_append,zAJ]);omega)
 have rC:0<(zES W k y).dn->nb≠sb:=fun h=>by
  rcases aF h with h | h
  ·exact(cA.out nb h).1
  ·omega
 have vC:qx (wb.setCell ⟨sb,so+k*6+5,none⟩ (.slice da ((W.zOd k).dn+L.length) dc)) sb (so+k*6) nb (.slice da ((W.zOd k).dn+L.length) dc) (zES W k y):=by
  refine⟨?_,?_,?_,?_,?_,?_,?_,sA.out.zOm,rC⟩
  ·exact sB _ _ (by omega) (tB.out 0 (by omega) (by omega) (by omega) _ sA.out.c0)
  ·exact sB _ _ (by omega) (tB.out 1 (by omega) (by omega) (by omega) _ sA.out.c1)
  ·exact sB _ _ (by omega) (tB.out 2 (by omega) (by omega) (by omega) _ sA.out.c2)
  ·exact sB _ _ (by omega) gF.out
  ·exact sB _ _ (by omega) iF.out
  ·exact(((tB.out 5 (by omega) (by omega) (by omega) _ sA.out.c5).zOU fA).zOW aC.out (fun h=>(cA.out _ h).1 rfl)).set _
  ·have h:=nD.out.zOW bC.out (fun h0=>rC (by show 0<(zFz W k y).length;rw[eD];exact h0));show ze _ nb _ (zFz W k y).length (zg (zFz W k y)) (zj (zFz W k y));rw[eD];exact h
 have iG:qN (wb.setCell ⟨sb,so+k*6+5,none⟩ (.slice da ((W.zOd k).dn+L.length) dc)) (fun j=>(rA<=j/\j<kB)\/(w8.heap.size<=j/\j<wh.heap.size)) (.slice dA y.zOa.n eA) (.slice b9 (zW y.zOa Y).hn aD) (zW y.zOa Y):=jH.out.zOW mA (fun j hj e=>by
  rcases e with e | e
  ·omega
  ·have:=cA.out j e;omega)
 have kF:=zB (show ∃P Q R,zAS (wb.setCell ⟨sb,so+k*6+5,none⟩ (.slice da ((W.zOd k).dn+L.length) dc)) P Q R (.slice dA y.zOa.n eA) (.slice b9 (zW y.zOa Y).hn aD) (.slice (some ⟨sb,so,none⟩) W.sn pA) (.slice l3 W.pn jB) (zNz W k y)/\∀j,P j\/Q j\/R j->base<=j/\j<((wb.setCell ⟨sb,so+k*6+5,none⟩ (.slice da ((W.zOd k).dn+L.length) dc))).heap.size/\j≠w.heap.size+1+1 from by
  refine⟨(fun j=>(rA<=j/\j<kB)\/(w8.heap.size<=j/\j<wh.heap.size)),(fun j=>Q j\/(q7.heap.size<=j/\j<wb.heap.size)),R,⟨?_,?_,?_,?_,?_,?_⟩,?_⟩
  ·show qN _ _ _ _ (zW y.zOa (zHS W k y));rw[eY];exact iG
  ·refine zG4 (w:=wh) tD.out sD.out (fun j hj=>Or.inl (mB.out j hj)) hk mA (fun j hj vE r hr u hc=>sB _ _ (by omega) (fF.out j hj vE r hr u hc)) vC (fun h=>⟨(aF h).imp id (fun h j hj e=>?_),?_⟩)
   ·have:=iA.out j (Or.inr (Or.inl (mB.out j hj)));omega
   ·rcases aF h with h | h
    ·exact Or.inl (cA.out nb h).2.2.2.2
    ·exact Or.inr h
  ·exact eI.out.zOW mA (fun j hj e=>by
    rcases e with e | e
    ·exact oD.out sb mF.out (by rw[<-e];exact hj)
    ·exact oD.out j (cA.out j e).2.2.2.2 hj)
  ·intro j hj hq;rcases hq with hq | hq
   ·have:=iA.out j (Or.inr (Or.inl hq));omega
   ·omega
  ·intro j hj hq;have:=iA.out j (Or.inr (Or.inr hq));omega
  ·intro j hj hq;rcases hj with hj | hj
   ·exact oD.out j hj hq
   ·have:=iA.out j (Or.inr (Or.inr hq));omega
  ·rintro j (h | h | h)
   ·omega
   ·rcases h with h | h
    ·have:=iA.out j (Or.inr (Or.inl h));omega
    ·omega
   ·have:=iA.out j (Or.inr (Or.inr h));omega)
 have pC:Below base w (wb.setCell ⟨sb,so+k*6+5,none⟩ (.slice da ((W.zOd k).dn+L.length) dc)):=((oC.mono pG).trans (rF.out.zOU (B:=base) (by omega) (fun j h=>by omega))).trans (mA.zOU (B:=base) (by omega) (fun j h=>by
  rcases h with h | h
  ·omega
  ·have:=cA.out j h;omega))
 clear mC mA sB vC iG;generalize (wb.setCell ⟨sb,so+k*6+5,none⟩ (.slice da ((W.zOd k).dn+L.length) dc))=wz at bC vB aG vI kF pC ⊢;obtain⟨⟨v0,-⟩,⟨v1,-⟩,⟨v2,-⟩,⟨v3,-⟩,⟨v4,-⟩,⟨v5,-⟩⟩:=aG.out;obtain⟨⟨r0,g0⟩,⟨r1,g1⟩,⟨r2,g2⟩,⟨r3,g3⟩,⟨r4,g4⟩,⟨r5,g5⟩,⟨r6,g6⟩,⟨r7,g7⟩,⟨r8,g8⟩⟩:=vB.out;go_wp2_with fail;have bA:=vB.out.put (.slice dA y.zOa.n eA) (.slice b9 (zW y.zOa Y).hn aD) (.int .i64 W.time) (.int .i64 W.next) (.slice (some ⟨sb,so,none⟩) W.sn pA) (.slice l3 W.pn jB) (.int .i64 0) (.int .i64 (Y.length:Int)) (.int .i64 0);have hT:=zE.put9 wz (w.heap.size+1+1) (.slice dA y.zOa.n eA) (.slice b9 (zW y.zOa Y).hn aD) (.int .i64 W.time) (.int .i64 W.next) (.slice (some ⟨sb,so,none⟩) W.sn pA) (.slice l3 W.pn jB) (.int .i64 0) (.int .i64 (Y.length:Int)) (.int .i64 0);clear r0 g0 r1 g1 r2 g2 r3 g3 r4 g4 r5 g5 r6 g6 r7 g7 r8 g8;refine bodyPost_ret (v:=.agg #[.slice dA y.zOa.n eA,.slice b9 (zW y.zOa Y).hn aD,.int .i64 W.time,.int .i64 W.next,.slice (some ⟨sb,so,none⟩) W.sn pA,.slice l3 W.pn jB,.int .i64 0,.int .i64 (Y.length:Int),.int .i64 0]) (by simp[results,Tryz.results48,go_sem,bA.1.1,bA.2.1.1,bA.2.2.1.1,bA.2.2.2.1.1,bA.2.2.2.2.1.1,bA.2.2.2.2.2.1.1,bA.2.2.2.2.2.2.1.1,bA.2.2.2.2.2.2.2.1.1,bA.2.2.2.2.2.2.2.2.1]) rfl ?_;have eO:zC7 W k y=⟨zNz W k y,0,((zHS W k y).length:Int),0⟩:=if_pos fG.out;rw[eO,eY];obtain⟨P1,Q1,R1,sE,tE⟩:=kF.out;have rI:=hT.size;exact⟨_,_,_,_,rfl,⟨P1,Q1,R1,sE.zOW hT (fun i hi e=>(tE i hi).2.2 e),fun i hi=>⟨(tE i hi).1,Nat.lt_of_lt_of_le (tE i hi).2.1 rI⟩⟩,pC.trans (hT.zOU (B:=base) (by omega) (fun i e=>by omega))⟩
end Go.Proofs.YtgabgheflgjgiaaGreatDoor
