/- A part of the proof. -/
import Derived.Test.YtgabgheflgjgiaaGreatDoorU15
import Derived.Test.YtgabgheflgjgiaaGreatDoorU26
set_option linter.unusedVariables false
set_option maxRecDepth 20000
set_option maxHeartbeats 8000000
namespace Go.Proofs.YtgabgheflgjgiaaGreatDoor
open Go.RowKit Go.Maps
theorem zv(v0 v1 v2 v3:Value)(lo hi:Nat)(W:zH)(w:World)(h:zr w lo hi v0 v1 v2 v3 W) :
  Calls Tryz.prog 42 #[qT v0 v1 v2 v3 W] w fun e w'=>zK (zBr W) e/\Below w.heap.size w w':=by
 have Hp:=zB h;obtain⟨m1,a,c,rfl,mc,-⟩:=id h.zOw;obtain⟨m2,a',c',rfl,iD,-⟩:=id h.zOy;obtain⟨m0,a0,c0,rfl,jD,-⟩:=id h.zOv.1;obtain⟨m3,a1,c1,rfl,kD,-⟩:=id h.zOv.2;unfold maxLen at m0 m1 m2 m3;clear h;have ha:=zC w (.cells #[.slice a0 W.zOv.n c0,.slice a1 W.zOv.hn c1,.int .i64 W.time,.int .i64 W.next,.slice a' W.sn c',.slice a W.pn c] 40);have HB:=zB (za.zOt w (.slice a0 W.zOv.n c0) (.slice a1 W.zOv.hn c1) (.int .i64 W.time) (.int .i64 W.next) (.slice a' W.sn c') (.slice a W.pn c) 40);obtain⟨⟨x0,-⟩,⟨x2,-⟩,⟨x4,-⟩,⟨x6,-⟩,⟨x8,-⟩,⟨iA,-⟩⟩:=HB.out;go_enter Tryz.func42,Tryz.ntmps42;go_wp2_with fail;clear x0 x2 x4 x6 x8 iA;generalize w.alloc (.cells #[.slice a0 W.zOv.n c0,.slice a1 W.zOv.hn c1,.int .i64 W.time,.int .i64 W.next,.slice a' W.sn c',.slice a W.pn c] 40)=W0 at ha HB ⊢;refine(yt _ _ lo hi W.zOv W0 (Hp.out.zOv.zOp ha)).mono ?_;rintro e w1 ⟨⟨t1,rfl,jB⟩,bC⟩;have pB:=zB (HB.out.zOp bC);have eB:=zA ha bC;clear ha HB bC;by_cases hR:zt W.zOv;rotate_left
 ·have HR:=zB hR;obtain rfl:t1=false:=zP jB hR;clear jB hR;go_wp2;go_ret;exact⟨zK.no fun h=>HR.out h.right,eB⟩
 have HR:=zB hR;obtain rfl:t1=true:=jB.2 hR;have gD:W.zOv.n<=200:=hR.1;clear jB hR;obtain⟨⟨x0,-⟩,⟨x2,-⟩,⟨x4,-⟩,⟨x6,-⟩,⟨x8,-⟩,⟨iA,-⟩⟩:=pB.out;go_wp2_with fail;clear x0 x2 x4 x6 x8 iA;refine(zIc _ _ _ _ lo hi W w1 (Hp.out.zOp eB)).mono ?_;rintro e w2 ⟨⟨t2,rfl,kB⟩,cC⟩;have rB:=zB (pB.out.zOp cC);have fB:=zA eB cC;clear pB eB cC;by_cases hN:zAi W;rotate_left
 ·have HN:=zB hN;obtain rfl:t2=false:=zP kB hN;clear kB hN;go_wp2;go_ret;exact⟨zK.no fun h=>HN.out h.zO3,fB⟩
 have HN:=zB hN;obtain rfl:t2=true:=kB.2 hN;have gC:W.sn<=8:=hN.2.2.1;have iC:W.pn<=20:=hN.2.2.2.1;clear kB hN;obtain⟨⟨x0,-⟩,⟨x2,-⟩,⟨x4,-⟩,⟨x6,-⟩,⟨x8,-⟩,⟨iA,-⟩⟩:=rB.out;go_wp2_with fail;clear x0 x2 x4 x6 x8 iA;refine(zHd _ _ _ _ lo hi W w2 (Hp.out.zOp fB) HN.out.prevOk gC iC).mono ?_;rintro e w3 ⟨⟨t3,rfl,lB⟩,dC⟩;have mC:=zB (rB.out.zOp dC);have vB:=zA fB dC;clear rB fB dC;by_cases hL:∀i,i<W.sn->zCB W (W.zOy i).name (W.zOy i).zO0 (W.zOy i).origin;rotate_left
 ·have HL:=zB hL;obtain rfl:t3=false:=zP lB hL;clear lB hL;go_wp2;go_ret;exact⟨zK.no fun h=>HL.out h.lines,vB⟩
 have HL:=zB hL;obtain rfl:t3=true:=lB.2 hL;clear lB hL;go_wp2
 go_loopw [3] (fun i wr=>∃k:Nat,k<=W.pn/\i = .int .i64 k/\(∀j,j<k->qQ W.zOv (W.zOw j).rs (W.zOw j).rb)/\za wr w.heap.size (.slice a0 W.zOv.n c0) (.slice a1 W.zOv.hn c1) (.int .i64 W.time) (.int .i64 W.next) (.slice a' W.sn c') (.slice a W.pn c)/\Below w.heap.size w wr) (fun i _=>W.pn - (intOf i).toNat)
 case atStart=>exact⟨0,Nat.zero_le _,rfl,fun j hj=>absurd hj (Nat.not_lt_zero _),mC.out,vB⟩
 case round=>
  clear mC vB;obtain⟨k,hk,rfl,fA,hX,hb⟩:=hrel;have cA:=zB fA;have HX:=zB hX;clear fA hX;obtain⟨⟨x0,-⟩,⟨x2,-⟩,⟨x4,-⟩,⟨x6,-⟩,⟨x8,-⟩,⟨iA,-⟩⟩:=HX.out;by_cases eA:k<W.pn
  ·have nA:(k:Int)<(W.pn:Int):=(by omega);obtain⟨b,off,vd,rfl,hs⟩:=(Hp.out.zOw.zOp hb).cells eA;have q5:=hs.c5;have q6:=hs.c6;clear hs;go_wp2_with fail;go_region_held3 (fun w'=>w'.cell? ⟨w.heap.size,0,none⟩=some (.slice a0 W.zOv.n c0)/\w'.cell? ⟨w.heap.size,1,none⟩=some (.slice a1 W.zOv.hn c1)/\w'.cell? ⟨w.heap.size,2,none⟩=some (.int .i64 W.time)/\w'.cell? ⟨w.heap.size,3,none⟩=some (.int .i64 W.next)/\w'.cell? ⟨w.heap.size,4,none⟩=some (.slice a' W.sn c')/\w'.cell? ⟨w.heap.size,5,none⟩=some (.slice (some ⟨b,off,none⟩) W.pn c)/\w'.cell? ⟨b,off+k*8+5,none⟩=some (.int .i64 (W.zOw k).rs)/\w'.cell? ⟨b,off+k*8+6,none⟩=some (.int .i64 (W.zOw k).rb)) (go_keep)
    (first | (go_at_call 102;refine(zBx _ _ lo hi W.zOv (W.zOw k).rs (W.zOw k).rb _ ?_ HR.out).mono ?_;(exact(Hp.out.zOv.zOp hb).zOp (Below.refl _ _).drew);rintro e w6 ⟨⟨t6,rfl,gA⟩,aA⟩;obtain⟨⟨y0,_⟩,⟨y1,_⟩,⟨y2,_⟩,⟨y3,_⟩,⟨y4,_⟩,⟨y5,_⟩⟩:=HX.out.zOp (zJ aA);have z5:=(aA.cell (p:=⟨b,off+k*8+5,none⟩) (zD q5)).trans q5;have z6:=(aA.cell (p:=⟨b,off+k*8+6,none⟩) (zD q6)).trans q6))
   have dA:=yw hb aA;have jA:=zB (HX.out.zOp (zJ aA));have Ht:=zB gA;clear gA aA z5 z6 y0 y1 y2 y3 y4 y5 q5 q6 HX x0 x2 x4 x6 x8 iA;cases t6
   ·have Hn:=zB (show ¬qQ W.zOv (W.zOw k).rs (W.zOw k).rb from fun hA=>absurd (Ht.out.2 hA) (by simp));clear Ht;go_wp2;go_ret;exact⟨zK.no fun hA=>Hn.out (hA.zOw k eA),dA⟩
   ·have Hn:=zB (Ht.out.1 rfl);clear Ht;go_wp2;go_roundw
    case rel=>exact⟨k+1,by omega,by go_num,qE eA cA.out Hn.out,jA.out,dA⟩
    case measure=>simp[intOf];omega
  obtain rfl:k=W.pn:=(by omega);have dB:=zB cA.out;clear cA;go_wp2;clear x0 x2 x4 x6 x8 iA
  go_loopw [4] (fun i wr=>∃k:Nat,k<=W.sn/\i = .int .i64 k/\(∀j,j<k->qQ W.zOv (W.zOy j).rs (W.zOy j).rb/\zB9 W (W.pn+j))/\za wr w.heap.size (.slice a0 W.zOv.n c0) (.slice a1 W.zOv.hn c1) (.int .i64 W.time) (.int .i64 W.next) (.slice a' W.sn c') (.slice a W.pn c)/\Below w.heap.size w wr) (fun i _=>W.sn - (intOf i).toNat)
  case atStart=>exact⟨0,Nat.zero_le _,rfl,fun j hj=>absurd hj (Nat.not_lt_zero _),HX.out,hb⟩
  case round=>
   clear HX hb eA hk;obtain⟨k,hk,rfl,fA,hX,hb⟩:=hrel;have cA:=zB fA;have HX:=zB hX;clear fA hX;obtain⟨⟨x0,-⟩,⟨x2,-⟩,⟨x4,-⟩,⟨x6,-⟩,⟨x8,-⟩,⟨iA,-⟩⟩:=HX.out;by_cases eA:k<W.sn
   ·have nA:(k:Int)<(W.sn:Int):=(by omega);obtain⟨b,off,vd,rfl,hs⟩:=(Hp.out.zOy.zOp hb).cells eA;have q3:=hs.c2;have q5:=hs.c3;have q6:=hs.c4;have q7:=hs.c5;have dD:=zB hs.zO5;clear hs;by_cases nB:qQ W.zOv (W.zOy k).rs (W.zOy k).rb;rotate_left
    ·have pA:=zB nB;clear nB;go_wp2_with fail;refine wp_region_held_drew (S:=(fun w'=>w'.cell? ⟨w.heap.size,0,none⟩=some (.slice a0 W.zOv.n c0)/\w'.cell? ⟨w.heap.size,1,none⟩=some (.slice a1 W.zOv.hn c1)/\w'.cell? ⟨w.heap.size,2,none⟩=some (.int .i64 W.time)/\w'.cell? ⟨w.heap.size,3,none⟩=some (.int .i64 W.next)/\w'.cell? ⟨w.heap.size,4,none⟩=some (.slice (some ⟨b,off,none⟩) W.sn c')/\w'.cell? ⟨w.heap.size,5,none⟩=some (.slice a W.pn c)/\w'.cell? ⟨b,off+k*6+3,none⟩=some (.int .i64 (W.zOy k).rs)/\w'.cell? ⟨b,off+k*6+4,none⟩=some (.int .i64 (W.zOy k).rb))) (by kernel_rfl) ?_ (fun hHeld=>?_)
     ·(try dsimp only)
      go_keep
     refine tk 0 (h:=tk 1 (h:=tk 2 (h:=tk 3 (h:=tk 4 (h:=tk 5 (h:=tk 6 (h:=tk 7 (h:=?_))))))));refine rd [8] (rc (fun K hK=>?_) .nil);go_simp;go_at_call 102;refine(zBx _ _ lo hi W.zOv (W.zOy k).rs (W.zOy k).rb _ ?_ HR.out).mono ?_
     ·first | exact Hp.out.zOv.zOp hb | exact Hp.out.zOv.zOp hb.drew
     rintro e w6 ⟨⟨t6,rfl,gA⟩,aA⟩;obtain rfl:t6=false:=zP gA pA.out;clear gA;have bA:Below wr.heap.size wr w6:=(by first | exact aA | exact zJ aA);obtain⟨⟨y0,_⟩,⟨y1,_⟩,⟨y2,_⟩,⟨y3,_⟩,⟨y4,_⟩,⟨y5,_⟩⟩:=HX.out.zOp bA;have z5:=(bA.cell (zD q5)).trans q5;have z6:=(bA.cell (zD q6)).trans q6
     (try go_wp2_with fail)
     refine hK.out _ _ (by(try dsimp only);go_keep) ?_;clear hK K hHeld;intro hHeld
     try simp only[Act.put,s1,s2,s3]
     refine tk 9 (h:=tk 10 (h:=ts 11 (h:=ts 12 (h:=ts 13 (h:=ts 14 (h:=ts 15 (h:=ts 16 (h:=ts 17 (h:=ts 18 (h:=ts 19 (h:=ts 20 (h:=ts 21 (h:=ts 22 (h:=ts 23 (h:=ts 24 (h:=ts 25 (h:=ts 26 (h:=ts 27 (h:=ts 28 (h:=ts 29 (h:=?_)))))))))))))))))))));refine rd [30] (rc (fun K hK=>?_) .nil);split
     ·rename_i jC
      exact absurd (show false=true from jC) Bool.false_ne_true
     refine hK.out _ _ (by assumption) (fun hHeld=>?_);clear hK K
     try simp only[Act.put,s1,s2,s3]
     refine ts 31 (h:=tk 32 (h:=?_));refine wpAnyH_done (by kernel_rfl) ?_ _;have dA:=zA hb bA;clear bA y0 y1 y2 y3 y4 y5 z5 z6;go_wp2;go_ret;exact⟨zK.no fun hA=>pA.out (hA.zOy k eA).1,dA⟩
    have pA:=zB nB;clear nB;have Hc:=zB (zMN (Hp.out.zOp hb) HR.out dB.out HN.out.prevOk.pos pA.out dD.out);go_wp2_with fail;go_region_held3 (fun w'=>w'.cell? ⟨w.heap.size,0,none⟩=some (.slice a0 W.zOv.n c0)/\w'.cell? ⟨w.heap.size,1,none⟩=some (.slice a1 W.zOv.hn c1)/\w'.cell? ⟨w.heap.size,2,none⟩=some (.int .i64 W.time)/\w'.cell? ⟨w.heap.size,3,none⟩=some (.int .i64 W.next)/\w'.cell? ⟨w.heap.size,4,none⟩=some (.slice (some ⟨b,off,none⟩) W.sn c')/\w'.cell? ⟨w.heap.size,5,none⟩=some (.slice a W.pn c)/\w'.cell? ⟨b,off+k*6+2,none⟩=some (.int .i64 (W.zOy k).zO0)/\w'.cell? ⟨b,off+k*6+3,none⟩=some (.int .i64 (W.zOy k).rs)/\w'.cell? ⟨b,off+k*6+4,none⟩=some (.int .i64 (W.zOy k).rb)/\w'.cell? ⟨b,off+k*6+5,none⟩=some vd) (go_keep)
     (first
      | (go_at_call 102;refine(zBx _ _ lo hi W.zOv (W.zOy k).rs (W.zOy k).rb _ ?_ HR.out).mono ?_;(exact(Hp.out.zOv.zOp hb).zOp (Below.refl _ _).drew);rintro e w6 ⟨⟨t6,rfl,gA⟩,aA⟩;obtain rfl:t6=true:=gA.2 pA.out;clear gA;obtain⟨⟨y0,_⟩,⟨y1,_⟩,⟨y2,_⟩,⟨y3,_⟩,⟨y4,_⟩,⟨y5,_⟩⟩:=HX.out.zOp (zJ aA);have z3:=(aA.cell (p:=⟨b,off+k*6+2,none⟩) (zD q3)).trans q3;have z5:=(aA.cell (p:=⟨b,off+k*6+3,none⟩) (zD q5)).trans q5;have z6:=(aA.cell (p:=⟨b,off+k*6+4,none⟩) (zD q6)).trans q6;have z7:=(aA.cell (p:=⟨b,off+k*6+5,none⟩) (zD q7)).trans q7)
      | (go_at_call 103;refine(Hc.out _ (zJ aA)).mono ?_;rintro e w7 ⟨⟨t7,rfl,sC⟩,dA⟩;obtain⟨⟨g0,_⟩,⟨g1,_⟩,⟨g2,_⟩,⟨g3,_⟩,⟨g4,_⟩,⟨g5,_⟩⟩:=(HX.out.zOp (zJ aA)).zOp dA;have j3:=(dA.cell (zD z3)).trans z3;have j5:=(dA.cell (zD z5)).trans z5;have j6:=(dA.cell (zD z6)).trans z6;have j7:=(dA.cell (zD z7)).trans z7))
    have rC:=zA (yw hb aA) dA;have cD:=zB ((HX.out.zOp (zJ aA)).zOp dA);have Ht:=zB sC;clear sC aA dA z3 z5 z6 z7 y0 y1 y2 y3 y4 y5 g0 g1 g2 g3 g4 g5 j3 j5 j6 j7 q3 q5 q6 q7 HX x0 x2 x4 x6 x8 iA Hc;cases t7
    ·have Hn:=zB (show ¬zB9 W (W.pn+k)from fun hA=>absurd (Ht.out.2 hA) (by simp));clear Ht;go_wp2;go_ret;exact⟨zK.no fun hA=>Hn.out (hA.zOy k eA).2,rC⟩
    ·have Hn:=zB (Ht.out.1 rfl);clear Ht;go_wp2;go_roundw
     case rel=>exact⟨k+1,by omega,by go_num,qE eA cA.out ⟨pA.out,Hn.out⟩,cD.out,rC⟩
     case measure=>simp[intOf];omega
   obtain rfl:k=W.sn:=(by omega);have lC:=zB cA.out;clear cA;go_wp2;clear x0 x2 x4 x6 x8 iA
   go_loopw [5] (fun i wr=>∃k:Nat,k<=W.pn/\i = .int .i64 k/\(∀j,j<k->zB9 W j)/\za wr w.heap.size (.slice a0 W.zOv.n c0) (.slice a1 W.zOv.hn c1) (.int .i64 W.time) (.int .i64 W.next) (.slice a' W.sn c') (.slice a W.pn c)/\Below w.heap.size w wr) (fun i _=>W.pn - (intOf i).toNat)
   case atStart=>exact⟨0,Nat.zero_le _,rfl,fun j hj=>absurd hj (Nat.not_lt_zero _),HX.out,hb⟩
   case round=>
    clear HX hb eA hk;obtain⟨k,hk,rfl,fA,hX,hb⟩:=hrel;have cA:=zB fA;have HX:=zB hX;clear fA hX;obtain⟨⟨x0,-⟩,⟨x2,-⟩,⟨x4,-⟩,⟨x6,-⟩,⟨x8,-⟩,⟨iA,-⟩⟩:=HX.out;by_cases eA:k<W.pn
    ·have nA:(k:Int)<(W.pn:Int):=(by omega);obtain⟨b,off,vd,rfl,hs⟩:=(Hp.out.zOw.zOp hb).cells eA;have q3:=hs.c3;have q5:=hs.c5;have q6:=hs.c6;have q7:=hs.c7;have Hc:=zB (zLI (Hp.out.zOp hb) HR.out dB.out HN.out.prevOk.pos eA hs.zO5);clear hs;go_wp2_with fail;go_region_held3 (fun w'=>w'.cell? ⟨w.heap.size,0,none⟩=some (.slice a0 W.zOv.n c0)/\w'.cell? ⟨w.heap.size,1,none⟩=some (.slice a1 W.zOv.hn c1)/\w'.cell? ⟨w.heap.size,2,none⟩=some (.int .i64 W.time)/\w'.cell? ⟨w.heap.size,3,none⟩=some (.int .i64 W.next)/\w'.cell? ⟨w.heap.size,4,none⟩=some (.slice a' W.sn c')/\w'.cell? ⟨w.heap.size,5,none⟩=some (.slice (some ⟨b,off,none⟩) W.pn c)/\w'.cell? ⟨b,off+k*8+3,none⟩=some (.int .i64 (W.zOw k).zO0)/\w'.cell? ⟨b,off+k*8+5,none⟩=some (.int .i64 (W.zOw k).rs)/\w'.cell? ⟨b,off+k*8+6,none⟩=some (.int .i64 (W.zOw k).rb)/\w'.cell? ⟨b,off+k*8+7,none⟩=some vd) (go_keep)
      (first | (go_at_call 103;refine(Hc.out _ ?_).mono ?_;(exact(Below.refl _ _).drew);rintro e w6 ⟨⟨t6,rfl,gA⟩,aA⟩;obtain⟨⟨y0,_⟩,⟨y1,_⟩,⟨y2,_⟩,⟨y3,_⟩,⟨y4,_⟩,⟨y5,_⟩⟩:=HX.out.zOp (zJ aA);have z3:=(aA.cell (p:=⟨b,off+k*8+3,none⟩) (zD q3)).trans q3;have z5:=(aA.cell (p:=⟨b,off+k*8+5,none⟩) (zD q5)).trans q5;have z6:=(aA.cell (p:=⟨b,off+k*8+6,none⟩) (zD q6)).trans q6;have z7:=(aA.cell (p:=⟨b,off+k*8+7,none⟩) (zD q7)).trans q7))
     have dA:=yw hb aA;have jA:=zB (HX.out.zOp (zJ aA));have Ht:=zB gA;clear gA aA z3 z5 z6 z7 y0 y1 y2 y3 y4 y5 q3 q5 q6 q7 HX x0 x2 x4 x6 x8 iA Hc;cases t6
     ·have Hn:=zB (show ¬zB9 W k from fun hA=>absurd (Ht.out.2 hA) (by simp));clear Ht;go_wp2;go_ret;exact⟨zK.no fun hA=>Hn.out (hA.zO5 k eA),dA⟩
     ·have Hn:=zB (Ht.out.1 rfl);clear Ht;go_wp2;go_roundw
      case rel=>exact⟨k+1,by omega,by go_num,qE eA cA.out Hn.out,jA.out,dA⟩
      case measure=>simp[intOf];omega
    obtain rfl:k=W.pn:=(by omega);have tC:=zB cA.out;have oB:=zB (zHP HR.out HN.out dB.out (fun i hi=>(lC.out i hi).1));clear cA;go_wp2_with fail;clear x0 x2 x4 x6 x8 iA;refine(zIe _ _ _ _ lo hi W _ (Hp.out.zOp hb) oB.out gC iC).mono ?_;rintro e w4 ⟨R,f,rfl,eD,aB,pC,eC⟩;have nC:=zB (HX.out.zOp eC);have lA:=zB aB;have aD:=zB pC;have oC:=zA hb eC;have fD:w.heap.size<=R:=(by have:=hb.size;omega);clear HX hb eC aB pC eA hk eD;go_wp2
    go_loopw [7] (fun i wr=>∃k:Nat,k<=W.zOv.n/\i = .int .i64 k/\(∀j,j<k->(zEO W j↔(¬qJ (W.zOv.s j)/\¬Has W.zOv.hn W.zOv.h j)))/\za wr w.heap.size (.slice a0 W.zOv.n c0) (.slice a1 W.zOv.hn c1) (.int .i64 W.time) (.int .i64 W.next) (.slice a' W.sn c') (.slice a W.pn c)/\yP wr R W.zOv.n f/\Below w.heap.size w wr) (fun i _=>W.zOv.n - (intOf i).toNat)
    case atStart=>exact⟨0,Nat.zero_le _,rfl,fun j hj=>absurd hj (Nat.not_lt_zero _),nC.out,lA.out,oC⟩
    case round=>
     clear nC lA oC;obtain⟨k,hk,rfl,fA,hX,aB,hb⟩:=hrel;have cA:=zB fA;have HX:=zB hX;have lA:=zB aB;clear fA hX aB;obtain⟨⟨x0,-⟩,⟨x2,-⟩,⟨x4,-⟩,⟨x6,-⟩,⟨x8,-⟩,⟨iA,-⟩⟩:=HX.out;by_cases eA:k<W.zOv.n
     ·have nA:(k:Int)<(W.zOv.n:Int):=(by omega);obtain⟨b,off,ka,kc,rfl,bB⟩:=(Hp.out.zOv.1.zOp hb).cells eA;have q0:=bB.c0;have q1:=bB.c1;have q2:=bB.c2;have tB:=zB bB.slot;have qr:=(lA.out k eA).1;clear bB;have kC:=zB (Hp.out.zOv.2.zOp hb);have oA:=zB (aD.out k);by_cases gB:qJ (W.zOv.s k)
      ·have kA:=zB gB;clear gB;go_wp2_with fail;refine wp_region_held_drew (S:=(fun w'=>w'.cell? ⟨w.heap.size,0,none⟩=some (.slice (some ⟨b,off,none⟩) W.zOv.n c0)/\w'.cell? ⟨w.heap.size,1,none⟩=some (.slice a1 W.zOv.hn c1)/\w'.cell? ⟨w.heap.size,2,none⟩=some (.int .i64 W.time)/\w'.cell? ⟨w.heap.size,3,none⟩=some (.int .i64 W.next)/\w'.cell? ⟨w.heap.size,4,none⟩=some (.slice a' W.sn c')/\w'.cell? ⟨w.heap.size,5,none⟩=some (.slice a W.pn c)/\w'.cell? ⟨R,k,none⟩=some (.bool (f k))/\w'.cell? ⟨b,off+k*3,none⟩=some (.int .i64 (W.zOv.s k).zO1)/\w'.cell? ⟨b,off+k*3+1,none⟩=some (.slice ka (W.zOv.s k).kn kc)/\w'.cell? ⟨b,off+k*3+2,none⟩=some (.string (W.zOv.s k).data))) (by kernel_rfl) ?_ (fun hHeld=>?_)
       ·(try dsimp only)
        go_keep
       refine tk 0 (h:=tk 1 (h:=tk 2 (h:=tk 3 (h:=tk 4 (h:=tk 5 (h:=tk 6 (h:=tk 7 (h:=tk 8 (h:=tk 9 (h:=?_))))))))));refine rd [10] (rc (fun K hK=>?_) .nil);go_simp;go_at_call 65;refine(qb _ _ _ lo hi (W.zOv.s k) _ ?_).mono ?_
       ·exact tB.out.zOp (zV (Below.refl _ _) 1)
       rintro e w6 ⟨⟨t6,rfl,gA⟩,aA⟩;obtain rfl:t6=true:=gA.2 kA.out;clear gA;have bA:Below wr.heap.size wr w6:=(by first | exact aA | exact zJ aA);obtain⟨⟨y0,_⟩,⟨y1,_⟩,⟨y2,_⟩,⟨y3,_⟩,⟨y4,_⟩,⟨y5,_⟩⟩:=HX.out.zOp bA;have z0:=(bA.cell (zD q0)).trans q0;have z1:=(bA.cell (zD q1)).trans q1;have z2:=(bA.cell (zD q2)).trans q2;have z3:=(bA.cell (zD qr)).trans qr
       (try go_wp2_with fail)
       refine hK.out _ _ (by(try dsimp only);go_keep) ?_;clear hK K hHeld;intro hHeld
       try simp only[Act.put,s1,s2,s3]
       refine tk 11 (h:=tk 12 (h:=ts 13 (h:=ts 14 (h:=ts 15 (h:=ts 16 (h:=?_))))));refine rd [17] (rc (fun K hK=>?_) .nil);split
       ·rename_i jC
        exact absurd (show false=true from jC) Bool.false_ne_true
       refine hK.out _ _ (by assumption) (fun hHeld=>?_);clear hK K
       try simp only[Act.put,s1,s2,s3]
       refine ts 18 (h:=tk 19 (h:=tk 20 (h:=?_)));refine wpAnyH_done (by kernel_rfl) ?_ _;have dA:=zA hb bA;have jA:=zB (HX.out.zOp bA);have sA:=zB (lA.out.zOp bA);clear bA y0 y1 y2 y3 y4 y5 z0 z1 z2 z3;cases hfk:f k
       ·have vA:=zB (show zEO W k↔(¬qJ (W.zOv.s k)/\¬Has W.zOv.hn W.zOv.h k)from⟨fun h=>absurd (oA.out.2 h) (by simp[hfk]),fun h=>absurd kA.out h.1⟩);rw[hfk]at *;go_wp2;go_roundw
        case rel=>exact⟨k+1,by omega,by go_num,qE eA cA.out vA.out,jA.out,sA.out,dA⟩
        case measure=>simp[intOf];omega
       ·have tA:=zB (show ¬zDx W from fun h=>((h k eA).1 (oA.out.1 hfk)).1 kA.out);rw[hfk]at *;go_wp2;go_ret;exact⟨zK.no fun hA=>tA.out hA.reach,dA⟩
      ·have kA:=zB gB;clear gB;by_cases iB:Has W.zOv.hn W.zOv.h k
       ·have mA:=zB iB;clear iB;go_wp2_with fail;go_region_held3 (fun w'=>w'.cell? ⟨w.heap.size,0,none⟩=some (.slice (some ⟨b,off,none⟩) W.zOv.n c0)/\w'.cell? ⟨w.heap.size,1,none⟩=some (.slice a1 W.zOv.hn c1)/\w'.cell? ⟨w.heap.size,2,none⟩=some (.int .i64 W.time)/\w'.cell? ⟨w.heap.size,3,none⟩=some (.int .i64 W.next)/\w'.cell? ⟨w.heap.size,4,none⟩=some (.slice a' W.sn c')/\w'.cell? ⟨w.heap.size,5,none⟩=some (.slice a W.pn c)/\w'.cell? ⟨R,k,none⟩=some (.bool (f k))/\w'.cell? ⟨b,off+k*3,none⟩=some (.int .i64 (W.zOv.s k).zO1)/\w'.cell? ⟨b,off+k*3+1,none⟩=some (.slice ka (W.zOv.s k).kn kc)/\w'.cell? ⟨b,off+k*3+2,none⟩=some (.string (W.zOv.s k).data)) (go_keep)
         (first
          | (go_at_call 65;refine(qb _ _ _ lo hi (W.zOv.s k) _ ?_).mono ?_;(exact tB.out.zOp (Below.refl _ _).drew);rintro e w6 ⟨⟨t6,rfl,gA⟩,aA⟩;obtain rfl:t6=false:=zP gA kA.out;clear gA;have bA:=zJ aA;obtain⟨⟨y0,_⟩,⟨y1,_⟩,⟨y2,_⟩,⟨y3,_⟩,⟨y4,_⟩,⟨y5,_⟩⟩:=HX.out.zOp bA;have z0:=(bA.cell (zD q0)).trans q0;have z1:=(bA.cell (zD q1)).trans q1;have z2:=(bA.cell (zD q2)).trans q2;have z3:=(bA.cell (zD qr)).trans qr)
          | (go_at_call 105;refine(zAU _ W.zOv.hn lo hi W.zOv.h k _ (kC.out.zOp bA)).mono ?_;rintro e w8 ⟨⟨t8,rfl,cB⟩,rfl⟩;obtain rfl:t8=true:=cB.2 mA.out;clear cB))
        have dA:=zA hb bA;have jA:=zB (HX.out.zOp bA);have sA:=zB (lA.out.zOp bA);clear bA y0 y1 y2 y3 y4 y5 z0 z1 z2 z3;cases hfk:f k
        ·have vA:=zB (show zEO W k↔(¬qJ (W.zOv.s k)/\¬Has W.zOv.hn W.zOv.h k)from⟨fun h=>absurd (oA.out.2 h) (by simp[hfk]),fun h=>absurd mA.out h.2⟩);rw[hfk]at *;go_wp2;go_roundw
         case rel=>exact⟨k+1,by omega,by go_num,qE eA cA.out vA.out,jA.out,sA.out,dA⟩
         case measure=>simp[intOf];omega
        ·have tA:=zB (show ¬zDx W from fun h=>((h k eA).1 (oA.out.1 hfk)).2 mA.out);rw[hfk]at *;go_wp2;go_ret;exact⟨zK.no fun hA=>tA.out hA.reach,dA⟩
       ·have mA:=zB iB;clear iB;go_wp2_with fail;go_region_held3 (fun w'=>w'.cell? ⟨w.heap.size,0,none⟩=some (.slice (some ⟨b,off,none⟩) W.zOv.n c0)/\w'.cell? ⟨w.heap.size,1,none⟩=some (.slice a1 W.zOv.hn c1)/\w'.cell? ⟨w.heap.size,2,none⟩=some (.int .i64 W.time)/\w'.cell? ⟨w.heap.size,3,none⟩=some (.int .i64 W.next)/\w'.cell? ⟨w.heap.size,4,none⟩=some (.slice a' W.sn c')/\w'.cell? ⟨w.heap.size,5,none⟩=some (.slice a W.pn c)/\w'.cell? ⟨R,k,none⟩=some (.bool (f k))/\w'.cell? ⟨b,off+k*3,none⟩=some (.int .i64 (W.zOv.s k).zO1)/\w'.cell? ⟨b,off+k*3+1,none⟩=some (.slice ka (W.zOv.s k).kn kc)/\w'.cell? ⟨b,off+k*3+2,none⟩=some (.string (W.zOv.s k).data)) (go_keep)
         (first
          | (go_at_call 65;refine(qb _ _ _ lo hi (W.zOv.s k) _ ?_).mono ?_;(exact tB.out.zOp (Below.refl _ _).drew);rintro e w6 ⟨⟨t6,rfl,gA⟩,aA⟩;obtain rfl:t6=false:=zP gA kA.out;clear gA;have bA:=zJ aA;obtain⟨⟨y0,_⟩,⟨y1,_⟩,⟨y2,_⟩,⟨y3,_⟩,⟨y4,_⟩,⟨y5,_⟩⟩:=HX.out.zOp bA;have z0:=(bA.cell (zD q0)).trans q0;have z1:=(bA.cell (zD q1)).trans q1;have z2:=(bA.cell (zD q2)).trans q2;have z3:=(bA.cell (zD qr)).trans qr)
          | (go_at_call 105;refine(zAU _ W.zOv.hn lo hi W.zOv.h k _ (kC.out.zOp bA)).mono ?_;rintro e w8 ⟨⟨t8,rfl,cB⟩,rfl⟩;obtain rfl:t8=false:=zP cB mA.out;clear cB))
        have dA:=zA hb bA;have jA:=zB (HX.out.zOp bA);have sA:=zB (lA.out.zOp bA);clear bA y0 y1 y2 y3 y4 y5 z0 z1 z2 z3;cases hfk:f k
        ·have tA:=zB (show ¬zDx W from fun h=>absurd (oA.out.2 ((h k eA).2 ⟨kA.out,mA.out⟩)) (by simp[hfk]));rw[hfk]at *;go_wp2;go_ret;exact⟨zK.no fun hA=>tA.out hA.reach,dA⟩
        ·have vA:=zB (show zEO W k↔(¬qJ (W.zOv.s k)/\¬Has W.zOv.hn W.zOv.h k)from⟨fun _=>⟨kA.out,mA.out⟩,fun _=>oA.out.1 hfk⟩);rw[hfk]at *;go_wp2;go_roundw
         case rel=>exact⟨k+1,by omega,by go_num,qE eA cA.out vA.out,jA.out,sA.out,dA⟩
         case measure=>simp[intOf];omega
     ·obtain rfl:k=W.zOv.n:=(by omega);have vC:=zB (show zDx W from cA.out);clear cA;go_wp2_with fail;clear x0 x2 x4 x6 x8 iA;refine(zJL _ _ _ _ lo hi W _ (Hp.out.zOp hb) oB.out HN.out.prevOk.pos).mono ?_;rintro e w5 ⟨⟨t5,rfl,mB⟩,fC⟩;have bD:=zB (HX.out.zOp fC);have aC:=zA hb fC;clear HX hb fC;by_cases rA:∀i,i<qf W->zB8 W i;rotate_left
      ·have sB:=zB rA;obtain rfl:t5=false:=zP mB rA;clear mB rA;go_wp2;go_ret;exact⟨zK.no fun hA=>sB.out hA.born,aC⟩
      have sB:=zB rA;obtain rfl:t5=true:=mB.2 rA;clear mB rA;obtain⟨⟨x0,-⟩,⟨x2,-⟩,⟨x4,-⟩,⟨x6,-⟩,⟨x8,-⟩,⟨iA,-⟩⟩:=bD.out;go_wp2_with fail;clear x0 x2 x4 x6 x8 iA;refine(zIb _ _ _ _ lo hi W _ (Hp.out.zOp aC) oB.out HN.out.prevOk.pos gC iC).mono ?_;rintro e w6 ⟨⟨t6,rfl,gA⟩,aA⟩;have Ht:=zB gA;clear gA;go_wp2;go_ret;exact⟨⟨t6,rfl,Ht.out.trans ⟨fun hA=>⟨HR.out,HN.out,HL.out,dB.out,lC.out,tC.out,vC.out,sB.out,hA⟩,fun hA=>hA.zO4⟩⟩,zA aC aA⟩
end Go.Proofs.YtgabgheflgjgiaaGreatDoor
