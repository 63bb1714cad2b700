/- A part of the proof. -/
import Derived.Test.YtmgeglgboadfiaaGreatDoorU15
import Derived.Test.YtmgeglgboadfiaaGreatDoorU14
import Derived.Test.YtmgeglgboadfiaaGreatDoorU13
import Derived.Deep.RegionLawGrows
set_option linter.unusedVariables false
set_option maxRecDepth 20000
set_option maxHeartbeats 8000000
namespace Go.Proofs.YtmgeglgboadfiaaGreatDoor
open Go.RowKit Go.Maps
theorem zEW(v0 v1 v2 v3:Value)(lo hi:Nat)(W:zE)(w:World)(h:zd w lo hi v0 v1 v2 v3 W) :
  Calls Tryz.prog 26 #[zt v0 v1 v2 v3 W] w fun e w'=>zG (zGN W) e/\Below w.heap.size w w':=by
 have Hp:=zB h;obtain⟨m1,a,c,rfl,mc,-⟩:=id h.zPD;obtain⟨m2,a',c',rfl,iD,-⟩:=id h.zPG;obtain⟨m0,a0,c0,rfl,jD,-⟩:=id h.zPE.1;obtain⟨m3,a1,c1,rfl,kD,-⟩:=id h.zPE.2;unfold maxLen at m0 m1 m2 m3;clear h;have ha:=zC w (.cells #[.slice a0 W.zPE.n c0,.slice a1 W.zPE.hn c1,.int .i64 W.time,.int .i64 W.next,.slice a' W.sn c',.slice a W.pn c] 37);have HB:=zB (zg.new w (.slice a0 W.zPE.n c0) (.slice a1 W.zPE.hn c1) (.int .i64 W.time) (.int .i64 W.next) (.slice a' W.sn c') (.slice a W.pn c) 37);obtain⟨⟨x0,-⟩,⟨x2,-⟩,⟨x4,-⟩,⟨x6,-⟩,⟨x8,-⟩,⟨iA,-⟩⟩:=HB.out;go_enter Tryz.func26,Tryz.ntmps26;go_wp2_with fail;clear x0 x2 x4 x6 x8 iA;generalize w.alloc (.cells #[.slice a0 W.zPE.n c0,.slice a1 W.zPE.hn c1,.int .i64 W.time,.int .i64 W.next,.slice a' W.sn c',.slice a W.pn c] 37)=W0 at ha HB ⊢;refine(zFD _ _ lo hi W.zPE W0 (Hp.out.zPE.zO9 ha)).mono ?_;rintro e w1 ⟨⟨t1,rfl,jB⟩,bC⟩;have pB:=zB (HB.out.zO9 bC);have eB:=zA ha bC;clear ha HB bC;by_cases hR:qB W.zPE;rotate_left
 ·have HR:=zB hR;obtain rfl:t1=false:=zW jB hR;clear jB hR;go_wp2;go_ret;exact⟨zG.no fun h=>HR.out h.right,eB⟩
 have HR:=zB hR;obtain rfl:t1=true:=jB.2 hR;have gD:W.zPE.n<=200:=hR.1;clear jB hR;obtain⟨⟨x0,-⟩,⟨x2,-⟩,⟨x4,-⟩,⟨x6,-⟩,⟨x8,-⟩,⟨iA,-⟩⟩:=pB.out;go_wp2_with fail;clear x0 x2 x4 x6 x8 iA;refine(zIz _ _ _ _ lo hi W w1 (Hp.out.zO9 eB)).mono ?_;rintro e w2 ⟨⟨t2,rfl,kB⟩,cC⟩;have rB:=zB (pB.out.zO9 cC);have fB:=zA eB cC;clear pB eB cC;by_cases hN:zAi W;rotate_left
 ·have HN:=zB hN;obtain rfl:t2=false:=zW kB hN;clear kB hN;go_wp2;go_ret;exact⟨zG.no fun h=>HN.out h.zPL,fB⟩
 have HN:=zB hN;obtain rfl:t2=true:=kB.2 hN;have gC:W.sn<=8:=hN.2.2.1;have iC:W.pn<=20:=hN.2.2.2.1;clear kB hN;obtain⟨⟨x0,-⟩,⟨x2,-⟩,⟨x4,-⟩,⟨x6,-⟩,⟨x8,-⟩,⟨iA,-⟩⟩:=rB.out;go_wp2_with fail;clear x0 x2 x4 x6 x8 iA;refine(zHf _ _ _ _ lo hi W w2 (Hp.out.zO9 fB) HN.out.prevOk gC iC).mono ?_;rintro e w3 ⟨⟨t3,rfl,lB⟩,dC⟩;have mC:=zB (rB.out.zO9 dC);have vB:=zA fB dC;clear rB fB dC;by_cases hL:∀i,i<W.sn->zAe W (W.zPG i).name (W.zPG i).zPH (W.zPG i).origin;rotate_left
 ·have HL:=zB hL;obtain rfl:t3=false:=zW lB hL;clear lB hL;go_wp2;go_ret;exact⟨zG.no fun h=>HL.out h.lines,vB⟩
 have HL:=zB hL;obtain rfl:t3=true:=lB.2 hL;clear lB hL;go_wp2
 go_loopw [3] (fun i wr=>∃k:Nat,k<=W.pn/\i = .int .i64 k/\(∀j,j<k->zz W.zPE (W.zPD j).rs (W.zPD j).rb)/\zg wr w.heap.size (.slice a0 W.zPE.n c0) (.slice a1 W.zPE.hn c1) (.int .i64 W.time) (.int .i64 W.next) (.slice a' W.sn c') (.slice a W.pn c)/\Below w.heap.size w wr) (fun i _=>W.pn - (intOf i).toNat)
 case atStart=>exact⟨0,Nat.zero_le _,rfl,fun j hj=>absurd hj (Nat.not_lt_zero _),mC.out,vB⟩
 case round=>
  clear mC vB;obtain⟨k,hk,rfl,fA,hX,hb⟩:=hrel;have cA:=zB fA;have HX:=zB hX;clear fA hX;obtain⟨⟨x0,-⟩,⟨x2,-⟩,⟨x4,-⟩,⟨x6,-⟩,⟨x8,-⟩,⟨iA,-⟩⟩:=HX.out;by_cases eA:k<W.pn
  ·have nA:(k:Int)<(W.pn:Int):=(by omega);obtain⟨b,off,vd,rfl,hs⟩:=(Hp.out.zPD.zO9 hb).cells eA;have q5:=hs.c5;have q6:=hs.c6;clear hs;go_wp2_with fail;go_region_held3 (fun w'=>w'.cell? ⟨w.heap.size,0,none⟩=some (.slice a0 W.zPE.n c0)/\w'.cell? ⟨w.heap.size,1,none⟩=some (.slice a1 W.zPE.hn c1)/\w'.cell? ⟨w.heap.size,2,none⟩=some (.int .i64 W.time)/\w'.cell? ⟨w.heap.size,3,none⟩=some (.int .i64 W.next)/\w'.cell? ⟨w.heap.size,4,none⟩=some (.slice a' W.sn c')/\w'.cell? ⟨w.heap.size,5,none⟩=some (.slice (some ⟨b,off,none⟩) W.pn c)/\w'.cell? ⟨b,off+k*8+5,none⟩=some (.int .i64 (W.zPD k).rs)/\w'.cell? ⟨b,off+k*8+6,none⟩=some (.int .i64 (W.zPD k).rb)) (go_keep)
    (first | (go_at_call 71;refine(zCz _ _ lo hi W.zPE (W.zPD k).rs (W.zPD k).rb _ ?_ HR.out).mono ?_;(exact(Hp.out.zPE.zO9 hb).zO9 (Below.refl _ _).drew);rintro e w6 ⟨⟨t6,rfl,gA⟩,aA⟩;obtain⟨⟨y0,_⟩,⟨y1,_⟩,⟨y2,_⟩,⟨y3,_⟩,⟨y4,_⟩,⟨y5,_⟩⟩:=HX.out.zO9 (zI aA);have z5:=(aA.cell (p:=⟨b,off+k*8+5,none⟩) (zD q5)).trans q5;have z6:=(aA.cell (p:=⟨b,off+k*8+6,none⟩) (zD q6)).trans q6))
   have dA:=qZ hb aA;have jA:=zB (HX.out.zO9 (zI aA));have Ht:=zB gA;clear gA aA z5 z6 y0 y1 y2 y3 y4 y5 q5 q6 HX x0 x2 x4 x6 x8 iA;cases t6
   ·have Hn:=zB (show ¬zz W.zPE (W.zPD k).rs (W.zPD k).rb from fun hA=>absurd (Ht.out.2 hA) (by simp));clear Ht;go_wp2;go_ret;exact⟨zG.no fun hA=>Hn.out (hA.zPD k eA),dA⟩
   ·have Hn:=zB (Ht.out.1 rfl);clear Ht;go_wp2;go_roundw
    case rel=>exact⟨k+1,by omega,by go_num,zr eA cA.out Hn.out,jA.out,dA⟩
    case measure=>simp[intOf];omega
  obtain rfl:k=W.pn:=(by omega);have dB:=zB cA.out;clear cA;go_wp2;clear x0 x2 x4 x6 x8 iA
  go_loopw [4] (fun i wr=>∃k:Nat,k<=W.sn/\i = .int .i64 k/\(∀j,j<k->zz W.zPE (W.zPG j).rs (W.zPG j).rb/\zBm W (W.pn+j))/\zg wr w.heap.size (.slice a0 W.zPE.n c0) (.slice a1 W.zPE.hn c1) (.int .i64 W.time) (.int .i64 W.next) (.slice a' W.sn c') (.slice a W.pn c)/\Below w.heap.size w wr) (fun i _=>W.sn - (intOf i).toNat)
  case atStart=>exact⟨0,Nat.zero_le _,rfl,fun j hj=>absurd hj (Nat.not_lt_zero _),HX.out,hb⟩
  case round=>
   clear HX hb eA hk;obtain⟨k,hk,rfl,fA,hX,hb⟩:=hrel;have cA:=zB fA;have HX:=zB hX;clear fA hX;obtain⟨⟨x0,-⟩,⟨x2,-⟩,⟨x4,-⟩,⟨x6,-⟩,⟨x8,-⟩,⟨iA,-⟩⟩:=HX.out;by_cases eA:k<W.sn
   ·have nA:(k:Int)<(W.sn:Int):=(by omega);obtain⟨b,off,vd,rfl,hs⟩:=(Hp.out.zPG.zO9 hb).cells eA;have q3:=hs.c2;have q5:=hs.c3;have q6:=hs.c4;have q7:=hs.c5;have dD:=zB hs.zPK;clear hs;by_cases nB:zz W.zPE (W.zPG k).rs (W.zPG k).rb;rotate_left
    ·have pA:=zB nB;clear nB;go_wp2_with fail;refine wp_region_held_drew (S:=(fun w'=>w'.cell? ⟨w.heap.size,0,none⟩=some (.slice a0 W.zPE.n c0)/\w'.cell? ⟨w.heap.size,1,none⟩=some (.slice a1 W.zPE.hn c1)/\w'.cell? ⟨w.heap.size,2,none⟩=some (.int .i64 W.time)/\w'.cell? ⟨w.heap.size,3,none⟩=some (.int .i64 W.next)/\w'.cell? ⟨w.heap.size,4,none⟩=some (.slice (some ⟨b,off,none⟩) W.sn c')/\w'.cell? ⟨w.heap.size,5,none⟩=some (.slice a W.pn c)/\w'.cell? ⟨b,off+k*6+3,none⟩=some (.int .i64 (W.zPG k).rs)/\w'.cell? ⟨b,off+k*6+4,none⟩=some (.int .i64 (W.zPG k).rb))) (by kernel_rfl) ?_ (fun hHeld=>?_)
     ·(try dsimp only)
      go_keep
     refine tk 0 (h:=tk 1 (h:=tk 2 (h:=tk 3 (h:=tk 4 (h:=tk 5 (h:=tk 6 (h:=tk 7 (h:=?_))))))));refine rd [8] (rc (fun K hK=>?_) .nil);go_simp;go_at_call 71;refine(zCz _ _ lo hi W.zPE (W.zPG k).rs (W.zPG k).rb _ ?_ HR.out).mono ?_
     ·first | exact Hp.out.zPE.zO9 hb | exact Hp.out.zPE.zO9 hb.drew
     rintro e w6 ⟨⟨t6,rfl,gA⟩,aA⟩;obtain rfl:t6=false:=zW gA pA.out;clear gA;have bA:Below wr.heap.size wr w6:=(by first | exact aA | exact zI aA);obtain⟨⟨y0,_⟩,⟨y1,_⟩,⟨y2,_⟩,⟨y3,_⟩,⟨y4,_⟩,⟨y5,_⟩⟩:=HX.out.zO9 bA;have z5:=(bA.cell (zD q5)).trans q5;have z6:=(bA.cell (zD q6)).trans q6
     (try go_wp2_with fail)
     refine hK.out _ _ (by(try dsimp only);go_keep) ?_;clear hK K hHeld;intro hHeld
     try simp only[Act.put,s1,s2,s3]
     refine tk 9 (h:=tk 10 (h:=ts 11 (h:=ts 12 (h:=ts 13 (h:=ts 14 (h:=ts 15 (h:=ts 16 (h:=ts 17 (h:=ts 18 (h:=ts 19 (h:=ts 20 (h:=ts 21 (h:=ts 22 (h:=ts 23 (h:=ts 24 (h:=ts 25 (h:=ts 26 (h:=ts 27 (h:=ts 28 (h:=ts 29 (h:=?_)))))))))))))))))))));refine rd [30] (rc (fun K hK=>?_) .nil);split
     ·rename_i jC
      exact absurd (show false=true from jC) Bool.false_ne_true
     refine hK.out _ _ (by assumption) (fun hHeld=>?_);clear hK K
     try simp only[Act.put,s1,s2,s3]
     refine ts 31 (h:=tk 32 (h:=?_));refine wpAnyH_done (by kernel_rfl) ?_ _;have dA:=zA hb bA;clear bA y0 y1 y2 y3 y4 y5 z5 z6;go_wp2;go_ret;exact⟨zG.no fun hA=>pA.out (hA.zPG k eA).1,dA⟩
    have pA:=zB nB;clear nB;have Hc:=zB (zNA (Hp.out.zO9 hb) HR.out dB.out HN.out.prevOk.pos pA.out dD.out);go_wp2_with fail;go_region_held3 (fun w'=>w'.cell? ⟨w.heap.size,0,none⟩=some (.slice a0 W.zPE.n c0)/\w'.cell? ⟨w.heap.size,1,none⟩=some (.slice a1 W.zPE.hn c1)/\w'.cell? ⟨w.heap.size,2,none⟩=some (.int .i64 W.time)/\w'.cell? ⟨w.heap.size,3,none⟩=some (.int .i64 W.next)/\w'.cell? ⟨w.heap.size,4,none⟩=some (.slice (some ⟨b,off,none⟩) W.sn c')/\w'.cell? ⟨w.heap.size,5,none⟩=some (.slice a W.pn c)/\w'.cell? ⟨b,off+k*6+2,none⟩=some (.int .i64 (W.zPG k).zPH)/\w'.cell? ⟨b,off+k*6+3,none⟩=some (.int .i64 (W.zPG k).rs)/\w'.cell? ⟨b,off+k*6+4,none⟩=some (.int .i64 (W.zPG k).rb)/\w'.cell? ⟨b,off+k*6+5,none⟩=some vd) (go_keep)
     (first
      | (go_at_call 71;refine(zCz _ _ lo hi W.zPE (W.zPG k).rs (W.zPG k).rb _ ?_ HR.out).mono ?_;(exact(Hp.out.zPE.zO9 hb).zO9 (Below.refl _ _).drew);rintro e w6 ⟨⟨t6,rfl,gA⟩,aA⟩;obtain rfl:t6=true:=gA.2 pA.out;clear gA;obtain⟨⟨y0,_⟩,⟨y1,_⟩,⟨y2,_⟩,⟨y3,_⟩,⟨y4,_⟩,⟨y5,_⟩⟩:=HX.out.zO9 (zI aA);have z3:=(aA.cell (p:=⟨b,off+k*6+2,none⟩) (zD q3)).trans q3;have z5:=(aA.cell (p:=⟨b,off+k*6+3,none⟩) (zD q5)).trans q5;have z6:=(aA.cell (p:=⟨b,off+k*6+4,none⟩) (zD q6)).trans q6;have z7:=(aA.cell (p:=⟨b,off+k*6+5,none⟩) (zD q7)).trans q7)
      | (go_at_call 72;refine(Hc.out _ (zI aA)).mono ?_;rintro e w7 ⟨⟨t7,rfl,sC⟩,dA⟩;obtain⟨⟨g0,_⟩,⟨g1,_⟩,⟨g2,_⟩,⟨g3,_⟩,⟨g4,_⟩,⟨g5,_⟩⟩:=(HX.out.zO9 (zI aA)).zO9 dA;have j3:=(dA.cell (zD z3)).trans z3;have j5:=(dA.cell (zD z5)).trans z5;have j6:=(dA.cell (zD z6)).trans z6;have j7:=(dA.cell (zD z7)).trans z7))
    have rC:=zA (qZ hb aA) dA;have cD:=zB ((HX.out.zO9 (zI aA)).zO9 dA);have Ht:=zB sC;clear sC aA dA z3 z5 z6 z7 y0 y1 y2 y3 y4 y5 g0 g1 g2 g3 g4 g5 j3 j5 j6 j7 q3 q5 q6 q7 HX x0 x2 x4 x6 x8 iA Hc;cases t7
    ·have Hn:=zB (show ¬zBm W (W.pn+k)from fun hA=>absurd (Ht.out.2 hA) (by simp));clear Ht;go_wp2;go_ret;exact⟨zG.no fun hA=>Hn.out (hA.zPG k eA).2,rC⟩
    ·have Hn:=zB (Ht.out.1 rfl);clear Ht;go_wp2;go_roundw
     case rel=>exact⟨k+1,by omega,by go_num,zr eA cA.out ⟨pA.out,Hn.out⟩,cD.out,rC⟩
     case measure=>simp[intOf];omega
   obtain rfl:k=W.sn:=(by omega);have lC:=zB cA.out;clear cA;go_wp2;clear x0 x2 x4 x6 x8 iA
   go_loopw [5] (fun i wr=>∃k:Nat,k<=W.pn/\i = .int .i64 k/\(∀j,j<k->zBm W j)/\zg wr w.heap.size (.slice a0 W.zPE.n c0) (.slice a1 W.zPE.hn c1) (.int .i64 W.time) (.int .i64 W.next) (.slice a' W.sn c') (.slice a W.pn c)/\Below w.heap.size w wr) (fun i _=>W.pn - (intOf i).toNat)
   case atStart=>exact⟨0,Nat.zero_le _,rfl,fun j hj=>absurd hj (Nat.not_lt_zero _),HX.out,hb⟩
   case round=>
    clear HX hb eA hk;obtain⟨k,hk,rfl,fA,hX,hb⟩:=hrel;have cA:=zB fA;have HX:=zB hX;clear fA hX;obtain⟨⟨x0,-⟩,⟨x2,-⟩,⟨x4,-⟩,⟨x6,-⟩,⟨x8,-⟩,⟨iA,-⟩⟩:=HX.out;by_cases eA:k<W.pn
    ·have nA:(k:Int)<(W.pn:Int):=(by omega);obtain⟨b,off,vd,rfl,hs⟩:=(Hp.out.zPD.zO9 hb).cells eA;have q3:=hs.c3;have q5:=hs.c5;have q6:=hs.c6;have q7:=hs.c7;have Hc:=zB (zMD (Hp.out.zO9 hb) HR.out dB.out HN.out.prevOk.pos eA hs.zPK);clear hs;go_wp2_with fail;go_region_held3 (fun w'=>w'.cell? ⟨w.heap.size,0,none⟩=some (.slice a0 W.zPE.n c0)/\w'.cell? ⟨w.heap.size,1,none⟩=some (.slice a1 W.zPE.hn c1)/\w'.cell? ⟨w.heap.size,2,none⟩=some (.int .i64 W.time)/\w'.cell? ⟨w.heap.size,3,none⟩=some (.int .i64 W.next)/\w'.cell? ⟨w.heap.size,4,none⟩=some (.slice a' W.sn c')/\w'.cell? ⟨w.heap.size,5,none⟩=some (.slice (some ⟨b,off,none⟩) W.pn c)/\w'.cell? ⟨b,off+k*8+3,none⟩=some (.int .i64 (W.zPD k).zPH)/\w'.cell? ⟨b,off+k*8+5,none⟩=some (.int .i64 (W.zPD k).rs)/\w'.cell? ⟨b,off+k*8+6,none⟩=some (.int .i64 (W.zPD k).rb)/\w'.cell? ⟨b,off+k*8+7,none⟩=some vd) (go_keep)
      (first | (go_at_call 72;refine(Hc.out _ ?_).mono ?_;(exact(Below.refl _ _).drew);rintro e w6 ⟨⟨t6,rfl,gA⟩,aA⟩;obtain⟨⟨y0,_⟩,⟨y1,_⟩,⟨y2,_⟩,⟨y3,_⟩,⟨y4,_⟩,⟨y5,_⟩⟩:=HX.out.zO9 (zI aA);have z3:=(aA.cell (p:=⟨b,off+k*8+3,none⟩) (zD q3)).trans q3;have z5:=(aA.cell (p:=⟨b,off+k*8+5,none⟩) (zD q5)).trans q5;have z6:=(aA.cell (p:=⟨b,off+k*8+6,none⟩) (zD q6)).trans q6;have z7:=(aA.cell (p:=⟨b,off+k*8+7,none⟩) (zD q7)).trans q7))
     have dA:=qZ hb aA;have jA:=zB (HX.out.zO9 (zI aA));have Ht:=zB gA;clear gA aA z3 z5 z6 z7 y0 y1 y2 y3 y4 y5 q3 q5 q6 q7 HX x0 x2 x4 x6 x8 iA Hc;cases t6
     ·have Hn:=zB (show ¬zBm W k from fun hA=>absurd (Ht.out.2 hA) (by simp));clear Ht;go_wp2;go_ret;exact⟨zG.no fun hA=>Hn.out (hA.zPK k eA),dA⟩
     ·have Hn:=zB (Ht.out.1 rfl);clear Ht;go_wp2;go_roundw
      case rel=>exact⟨k+1,by omega,by go_num,zr eA cA.out Hn.out,jA.out,dA⟩
      case measure=>simp[intOf];omega
    obtain rfl:k=W.pn:=(by omega);have tC:=zB cA.out;have oB:=zB (zHJ HR.out HN.out dB.out (fun i hi=>(lC.out i hi).1));clear cA;go_wp2_with fail;clear x0 x2 x4 x6 x8 iA;refine(zI1 _ _ _ _ lo hi W _ (Hp.out.zO9 hb) oB.out gC iC).mono ?_;rintro e w4 ⟨R,f,rfl,eD,aB,pC,eC⟩;have nC:=zB (HX.out.zO9 eC);have lA:=zB aB;have aD:=zB pC;have oC:=zA hb eC;have fD:w.heap.size<=R:=(by have:=hb.size;omega);clear HX hb eC aB pC eA hk eD;go_wp2
    go_loopw [7] (fun i wr=>∃k:Nat,k<=W.zPE.n/\i = .int .i64 k/\(∀j,j<k->(zEF W j↔(¬ql (W.zPE.s j)/\¬Has W.zPE.hn W.zPE.h j)))/\zg wr w.heap.size (.slice a0 W.zPE.n c0) (.slice a1 W.zPE.hn c1) (.int .i64 W.time) (.int .i64 W.next) (.slice a' W.sn c') (.slice a W.pn c)/\yQ wr R W.zPE.n f/\Below w.heap.size w wr) (fun i _=>W.zPE.n - (intOf i).toNat)
    case atStart=>exact⟨0,Nat.zero_le _,rfl,fun j hj=>absurd hj (Nat.not_lt_zero _),nC.out,lA.out,oC⟩
    case round=>
     clear nC lA oC;obtain⟨k,hk,rfl,fA,hX,aB,hb⟩:=hrel;have cA:=zB fA;have HX:=zB hX;have lA:=zB aB;clear fA hX aB;obtain⟨⟨x0,-⟩,⟨x2,-⟩,⟨x4,-⟩,⟨x6,-⟩,⟨x8,-⟩,⟨iA,-⟩⟩:=HX.out;by_cases eA:k<W.zPE.n
     ·have nA:(k:Int)<(W.zPE.n:Int):=(by omega);obtain⟨b,off,ka,kc,rfl,bB⟩:=(Hp.out.zPE.1.zO9 hb).cells eA;have q0:=bB.c0;have q1:=bB.c1;have q2:=bB.c2;have tB:=zB bB.slot;have qr:=(lA.out k eA).1;clear bB;have kC:=zB (Hp.out.zPE.2.zO9 hb);have oA:=zB (aD.out k);by_cases gB:ql (W.zPE.s k)
      ·have kA:=zB gB;clear gB;go_wp2_with fail;refine wp_region_held_drew (S:=(fun w'=>w'.cell? ⟨w.heap.size,0,none⟩=some (.slice (some ⟨b,off,none⟩) W.zPE.n c0)/\w'.cell? ⟨w.heap.size,1,none⟩=some (.slice a1 W.zPE.hn c1)/\w'.cell? ⟨w.heap.size,2,none⟩=some (.int .i64 W.time)/\w'.cell? ⟨w.heap.size,3,none⟩=some (.int .i64 W.next)/\w'.cell? ⟨w.heap.size,4,none⟩=some (.slice a' W.sn c')/\w'.cell? ⟨w.heap.size,5,none⟩=some (.slice a W.pn c)/\w'.cell? ⟨R,k,none⟩=some (.bool (f k))/\w'.cell? ⟨b,off+k*3,none⟩=some (.int .i64 (W.zPE.s k).zPI)/\w'.cell? ⟨b,off+k*3+1,none⟩=some (.slice ka (W.zPE.s k).kn kc)/\w'.cell? ⟨b,off+k*3+2,none⟩=some (.string (W.zPE.s k).data))) (by kernel_rfl) ?_ (fun hHeld=>?_)
       ·(try dsimp only)
        go_keep
       refine tk 0 (h:=tk 1 (h:=tk 2 (h:=tk 3 (h:=tk 4 (h:=tk 5 (h:=tk 6 (h:=tk 7 (h:=tk 8 (h:=tk 9 (h:=?_))))))))));refine rd [10] (rc (fun K hK=>?_) .nil);go_simp;go_at_call 74;refine(yv _ _ _ lo hi (W.zPE.s k) _ ?_).mono ?_
       ·exact tB.out.zO9 (zh (Below.refl _ _) 1)
       rintro e w6 ⟨⟨t6,rfl,gA⟩,aA⟩;obtain rfl:t6=true:=gA.2 kA.out;clear gA;have bA:Below wr.heap.size wr w6:=(by first | exact aA | exact zI aA);obtain⟨⟨y0,_⟩,⟨y1,_⟩,⟨y2,_⟩,⟨y3,_⟩,⟨y4,_⟩,⟨y5,_⟩⟩:=HX.out.zO9 bA;have z0:=(bA.cell (zD q0)).trans q0;have z1:=(bA.cell (zD q1)).trans q1;have z2:=(bA.cell (zD q2)).trans q2;have z3:=(bA.cell (zD qr)).trans qr
       (try go_wp2_with fail)
       refine hK.out _ _ (by(try dsimp only);go_keep) ?_;clear hK K hHeld;intro hHeld
       try simp only[Act.put,s1,s2,s3]
       refine tk 11 (h:=tk 12 (h:=ts 13 (h:=ts 14 (h:=ts 15 (h:=ts 16 (h:=?_))))));refine rd [17] (rc (fun K hK=>?_) .nil);split
       ·rename_i jC
        exact absurd (show false=true from jC) Bool.false_ne_true
       refine hK.out _ _ (by assumption) (fun hHeld=>?_);clear hK K
       try simp only[Act.put,s1,s2,s3]
       refine ts 18 (h:=tk 19 (h:=tk 20 (h:=?_)));refine wpAnyH_done (by kernel_rfl) ?_ _;have dA:=zA hb bA;have jA:=zB (HX.out.zO9 bA);have sA:=zB (lA.out.zO9 bA);clear bA y0 y1 y2 y3 y4 y5 z0 z1 z2 z3;cases hfk:f k
       ·have vA:=zB (show zEF W k↔(¬ql (W.zPE.s k)/\¬Has W.zPE.hn W.zPE.h k)from⟨fun h=>absurd (oA.out.2 h) (by simp[hfk]),fun h=>absurd kA.out h.1⟩);rw[hfk]at *;go_wp2;go_roundw
        case rel=>exact⟨k+1,by omega,by go_num,zr eA cA.out vA.out,jA.out,sA.out,dA⟩
        case measure=>simp[intOf];omega
       ·have tA:=zB (show ¬zDl W from fun h=>((h k eA).1 (oA.out.1 hfk)).1 kA.out);rw[hfk]at *;go_wp2;go_ret;exact⟨zG.no fun hA=>tA.out hA.reach,dA⟩
      ·have kA:=zB gB;clear gB;by_cases iB:Has W.zPE.hn W.zPE.h k
       ·have mA:=zB iB;clear iB;go_wp2_with fail;go_region_held3 (fun w'=>w'.cell? ⟨w.heap.size,0,none⟩=some (.slice (some ⟨b,off,none⟩) W.zPE.n c0)/\w'.cell? ⟨w.heap.size,1,none⟩=some (.slice a1 W.zPE.hn c1)/\w'.cell? ⟨w.heap.size,2,none⟩=some (.int .i64 W.time)/\w'.cell? ⟨w.heap.size,3,none⟩=some (.int .i64 W.next)/\w'.cell? ⟨w.heap.size,4,none⟩=some (.slice a' W.sn c')/\w'.cell? ⟨w.heap.size,5,none⟩=some (.slice a W.pn c)/\w'.cell? ⟨R,k,none⟩=some (.bool (f k))/\w'.cell? ⟨b,off+k*3,none⟩=some (.int .i64 (W.zPE.s k).zPI)/\w'.cell? ⟨b,off+k*3+1,none⟩=some (.slice ka (W.zPE.s k).kn kc)/\w'.cell? ⟨b,off+k*3+2,none⟩=some (.string (W.zPE.s k).data)) (go_keep)
         (first
          | (go_at_call 74;refine(yv _ _ _ lo hi (W.zPE.s k) _ ?_).mono ?_;(exact tB.out.zO9 (Below.refl _ _).drew);rintro e w6 ⟨⟨t6,rfl,gA⟩,aA⟩;obtain rfl:t6=false:=zW gA kA.out;clear gA;have bA:=zI aA;obtain⟨⟨y0,_⟩,⟨y1,_⟩,⟨y2,_⟩,⟨y3,_⟩,⟨y4,_⟩,⟨y5,_⟩⟩:=HX.out.zO9 bA;have z0:=(bA.cell (zD q0)).trans q0;have z1:=(bA.cell (zD q1)).trans q1;have z2:=(bA.cell (zD q2)).trans q2;have z3:=(bA.cell (zD qr)).trans qr)
          | (go_at_call 75;refine(zAA _ W.zPE.hn lo hi W.zPE.h k _ (kC.out.zO9 bA)).mono ?_;rintro e w8 ⟨⟨t8,rfl,cB⟩,rfl⟩;obtain rfl:t8=true:=cB.2 mA.out;clear cB))
        have dA:=zA hb bA;have jA:=zB (HX.out.zO9 bA);have sA:=zB (lA.out.zO9 bA);clear bA y0 y1 y2 y3 y4 y5 z0 z1 z2 z3;cases hfk:f k
        ·have vA:=zB (show zEF W k↔(¬ql (W.zPE.s k)/\¬Has W.zPE.hn W.zPE.h k)from⟨fun h=>absurd (oA.out.2 h) (by simp[hfk]),fun h=>absurd mA.out h.2⟩);rw[hfk]at *;go_wp2;go_roundw
         case rel=>exact⟨k+1,by omega,by go_num,zr eA cA.out vA.out,jA.out,sA.out,dA⟩
         case measure=>simp[intOf];omega
        ·have tA:=zB (show ¬zDl W from fun h=>((h k eA).1 (oA.out.1 hfk)).2 mA.out);rw[hfk]at *;go_wp2;go_ret;exact⟨zG.no fun hA=>tA.out hA.reach,dA⟩
       ·have mA:=zB iB;clear iB;go_wp2_with fail;go_region_held3 (fun w'=>w'.cell? ⟨w.heap.size,0,none⟩=some (.slice (some ⟨b,off,none⟩) W.zPE.n c0)/\w'.cell? ⟨w.heap.size,1,none⟩=some (.slice a1 W.zPE.hn c1)/\w'.cell? ⟨w.heap.size,2,none⟩=some (.int .i64 W.time)/\w'.cell? ⟨w.heap.size,3,none⟩=some (.int .i64 W.next)/\w'.cell? ⟨w.heap.size,4,none⟩=some (.slice a' W.sn c')/\w'.cell? ⟨w.heap.size,5,none⟩=some (.slice a W.pn c)/\w'.cell? ⟨R,k,none⟩=some (.bool (f k))/\w'.cell? ⟨b,off+k*3,none⟩=some (.int .i64 (W.zPE.s k).zPI)/\w'.cell? ⟨b,off+k*3+1,none⟩=some (.slice ka (W.zPE.s k).kn kc)/\w'.cell? ⟨b,off+k*3+2,none⟩=some (.string (W.zPE.s k).data)) (go_keep)
         (first
          | (go_at_call 74;refine(yv _ _ _ lo hi (W.zPE.s k) _ ?_).mono ?_;(exact tB.out.zO9 (Below.refl _ _).drew);rintro e w6 ⟨⟨t6,rfl,gA⟩,aA⟩;obtain rfl:t6=false:=zW gA kA.out;clear gA;have bA:=zI aA;obtain⟨⟨y0,_⟩,⟨y1,_⟩,⟨y2,_⟩,⟨y3,_⟩,⟨y4,_⟩,⟨y5,_⟩⟩:=HX.out.zO9 bA;have z0:=(bA.cell (zD q0)).trans q0;have z1:=(bA.cell (zD q1)).trans q1;have z2:=(bA.cell (zD q2)).trans q2;have z3:=(bA.cell (zD qr)).trans qr)
          | (go_at_call 75;refine(zAA _ W.zPE.hn lo hi W.zPE.h k _ (kC.out.zO9 bA)).mono ?_;rintro e w8 ⟨⟨t8,rfl,cB⟩,rfl⟩;obtain rfl:t8=false:=zW cB mA.out;clear cB))
        have dA:=zA hb bA;have jA:=zB (HX.out.zO9 bA);have sA:=zB (lA.out.zO9 bA);clear bA y0 y1 y2 y3 y4 y5 z0 z1 z2 z3;cases hfk:f k
        ·have tA:=zB (show ¬zDl W from fun h=>absurd (oA.out.2 ((h k eA).2 ⟨kA.out,mA.out⟩)) (by simp[hfk]));rw[hfk]at *;go_wp2;go_ret;exact⟨zG.no fun hA=>tA.out hA.reach,dA⟩
        ·have vA:=zB (show zEF W k↔(¬ql (W.zPE.s k)/\¬Has W.zPE.hn W.zPE.h k)from⟨fun _=>⟨kA.out,mA.out⟩,fun _=>oA.out.1 hfk⟩);rw[hfk]at *;go_wp2;go_roundw
         case rel=>exact⟨k+1,by omega,by go_num,zr eA cA.out vA.out,jA.out,sA.out,dA⟩
         case measure=>simp[intOf];omega
     ·obtain rfl:k=W.zPE.n:=(by omega);have vC:=zB (show zDl W from cA.out);clear cA;go_wp2_with fail;clear x0 x2 x4 x6 x8 iA;refine(zJ1 _ _ _ _ lo hi W _ (Hp.out.zO9 hb) oB.out HN.out.prevOk.pos).mono ?_;rintro e w5 ⟨⟨t5,rfl,mB⟩,fC⟩;have bD:=zB (HX.out.zO9 fC);have aC:=zA hb fC;clear HX hb fC;by_cases rA:∀i,i<zm W->zBl W i;rotate_left
      ·have sB:=zB rA;obtain rfl:t5=false:=zW mB rA;clear mB rA;go_wp2;go_ret;exact⟨zG.no fun hA=>sB.out hA.born,aC⟩
      have sB:=zB rA;obtain rfl:t5=true:=mB.2 rA;clear mB rA;obtain⟨⟨x0,-⟩,⟨x2,-⟩,⟨x4,-⟩,⟨x6,-⟩,⟨x8,-⟩,⟨iA,-⟩⟩:=bD.out;go_wp2_with fail;clear x0 x2 x4 x6 x8 iA;refine(zIx _ _ _ _ lo hi W _ (Hp.out.zO9 aC) oB.out HN.out.prevOk.pos gC iC).mono ?_;rintro e w6 ⟨⟨t6,rfl,gA⟩,aA⟩;have Ht:=zB gA;clear gA;go_wp2;go_ret;exact⟨⟨t6,rfl,Ht.out.trans ⟨fun hA=>⟨HR.out,HN.out,HL.out,dB.out,lC.out,tC.out,vC.out,sB.out,hA⟩,fun hA=>hA.zPJ⟩⟩,zA aC aA⟩
def zOW(W:zE)(x:Int)(r:Int):Prop:=(1<=x/\zGN W->r=yw W x)/\(¬(1<=x/\zGN W)->r=0)
theorem zF3(v0 v1 v2 v3:Value)(lo hi:Nat)(W:zE)(x:Int)(w:World)(h:zd w lo hi v0 v1 v2 v3 W)(kA:zAr W) :
  Calls Tryz.prog 124 #[zt v0 v1 v2 v3 W,.int .i64 x] w fun e w'=>(∃r:Int,e = .returned (.int .i64 r)/\zOW W x r)/\Below w.heap.size w w':=by
 have Hp:=zB h;have mA:=zB kA;clear h kA;have oA:∀(fn:Fn) (first cap:Array Value) (w:World),(Instr.makeFunc fn first cap).run Tryz.prog w = .ok (.func fn first cap) w:=fun _ _ _ _=>rfl
 have iA:=zC w (.cells #[v0,v1,.int .i64 W.time,.int .i64 W.next,v2,v3] 37);have dA:=zC (w.alloc (.cells #[v0,v1,.int .i64 W.time,.int .i64 W.next,v2,v3] 37)) (.cells #[.int .i64 x] 2);have ha:=zA iA dA;have HB:=zB ((zg.new w v0 v1 (.int .i64 W.time) (.int .i64 W.next) v2 v3 37).zO9 dA);have hT:((w.alloc (.cells #[v0,v1,.int .i64 W.time,.int .i64 W.next,v2,v3] 37)).alloc (.cells #[.int .i64 x] 2)).cell? ⟨w.heap.size+1,0,none⟩=some (.int .i64 x):=by
  have hb:((w.alloc (.cells #[v0,v1,.int .i64 W.time,.int .i64 W.next,v2,v3] 37)).alloc (.cells #[.int .i64 x] 2)).heap[(w.alloc (.cells #[v0,v1,.int .i64 W.time,.int .i64 W.next,v2,v3] 37)).heap.size]?=some (.cells #[.int .i64 x] 2):=heap_alloc_new _ _;rw[World.size_alloc]at hb;exact(zH (i:=0) hb rfl).1
 have HT:=zB hT;obtain⟨⟨x0,-⟩,⟨x1,-⟩,⟨x2,-⟩,⟨x3,-⟩,⟨x4,-⟩,⟨x5,-⟩⟩:=HB.out;clear iA dA;by_cases hx:x<1
 ·have Hx:=zB hx;go_enter Tryz.func124,Tryz.ntmps124;go_wp2;go_ret;exact⟨⟨0,rfl,fun h=>absurd h.1 (by have:=Hx.out;omega),fun _=>rfl⟩,ha⟩
 ·have Hx:=zB hx;go_enter Tryz.func124,Tryz.ntmps124;go_wp2_with fail;generalize (w.alloc (.cells #[v0,v1,.int .i64 W.time,.int .i64 W.next,v2,v3] 37)).alloc (.cells #[.int .i64 x] 2)=W0 at ha HB HT hT x0 x1 x2 x3 x4 x5 ⊢;refine(zBx v0 v1 v2 v3 lo hi W W0 (Hp.out.zO9 ha) mA.out).mono ?_;rintro e w1 ⟨⟨t,rfl,ht⟩,bA⟩;have Ht:=zB (ht.trans (zBK W));have aA:=zA ha bA;have fA:=zB (HB.out.zO9 bA);have cA:=zB ((bA.cell (p:=⟨w.heap.size+1,0,none⟩) (zD HT.out)).trans HT.out);clear ht bA x0 x1 x2 x3 x4 x5 HB ha HT hT;cases t
  ·go_wp2;go_ret;exact⟨⟨0,rfl,fun h=>absurd (Ht.out.2 h.2) (by simp),fun _=>rfl⟩,aA⟩
  ·have HW:=zB (Ht.out.1 rfl);obtain⟨⟨x0,-⟩,⟨x1,-⟩,⟨x2,-⟩,⟨x3,-⟩,⟨x4,-⟩,⟨x5,-⟩⟩:=fA.out;go_wp2_with fail;refine(zBQ v0 v1 v2 v3 lo hi W w1 (Hp.out.zO9 aA) HW.out.zPL.2.2.1 HW.out.zPL.2.2.2.1).mono ?_;rintro e w2 ⟨v,vd,rfl,hM,eA⟩;have gA:=zA aA eA;have lA:=zB ((eA.cell (p:=⟨w.heap.size+1,0,none⟩) (zD cA.out)).trans cA.out);have HM:=zB hM;obtain⟨am,cm,rfl,-⟩:=hM.zPO;clear eA aA x0 x1 x2 x3 x4 x5 hM cA fA;go_wp2_with fail;refine(zJG _ lo hi W vd x (w.heap.size+1) w2 HM.out HW.out.zPL.2.2.1 HW.out.zPL.2.2.2.1 lA.out).mono ?_;rintro e w3 ⟨ay,cy,vo,rfl,jA⟩;have nA:=zA gA jA;have HC:=zB (zMY W x);clear jA gA;go_wp2;go_ret;exact⟨⟨_,rfl,fun _=>by rw[HC.out],fun h=>absurd ⟨by have:=Hx.out;omega,HW.out⟩ h⟩,nA⟩
theorem zN0{W:zE}(hI:yk W){id:Int}(h:qD W id):1<=id:=by
 obtain⟨k,hk,rfl⟩:=h;exact(hI.zPL.range k hk).1
theorem zJC(v0 v1 v2 v3:Value)(lo hi:Nat)(W:zE)(B:Nat)(id:Int)(w:World)(h:zd w lo hi v0 v1 v2 v3 W)(hI:yk W)(bA:zAr W)(h1:1<=id)(hc:w.cell? ⟨B,0,none⟩=some (.int .i64 id)) :
  Calls Tryz.prog 123 #[zt v0 v1 v2 v3 W,.pointer (some ⟨B,0,none⟩)] w fun e w'=>zG (yw W id=1) e/\Below w.heap.size w w':=by
 have Hp:=zB h;have cA:=zB bA;have HS:=zB ((zBK W).1 hI);clear h hI bA;have ha:=zC w (.cells #[v0,v1,.int .i64 W.time,.int .i64 W.next,v2,v3] 37);have dA:=(ha.cell (zD hc)).trans hc;obtain⟨⟨x0,-⟩,⟨x1,-⟩,⟨x2,-⟩,⟨x3,-⟩,⟨x4,-⟩,⟨x5,-⟩⟩:=zg.new w (v0) (v1) (.int .i64 W.time) (.int .i64 W.next) (v2) (v3) 37;go_enter Tryz.func123,Tryz.ntmps123;go_wp2_with fail;clear x0 x1 x2 x3 x4 x5 hc dA;generalize w.alloc (.cells #[v0,v1,.int .i64 W.time,.int .i64 W.next,v2,v3] 37)=W0 at ha ⊢;refine(zF3 v0 v1 v2 v3 lo hi W id W0 (Hp.out.zO9 ha) cA.out).mono ?_;rintro e w1 ⟨⟨r,rfl,hr⟩,aA⟩;have Hr:=zB (hr.1 ⟨h1,HS.out⟩);clear hr;by_cases e1:r=1
 ·have a1:(r == 1)=true:=beq_iff_eq.2 e1;have H:=zB (show yw W id=1 from by have h2:=Hr.out;omega);clear e1;go_wp2;go_ret;exact⟨zG.yes H.out,zA ha aA⟩
 ·have a1:(r == 1)=false:=beq_eq_false_iff_ne.2 e1;have H:=zB (show ¬yw W id=1 from by have h2:=Hr.out;omega);clear e1;go_wp2;go_ret;exact⟨zG.no H.out,zA ha aA⟩
theorem zKB(p:Nat->Addr)(s0:Int)(w:World)(hE:zEd w p) :
  Calls Tryz.prog 56 #[.int .i64 s0] w fun e w'=>∃B0:Nat,e = .returned (.agg #[.func (.func 123) #[] #[.pointer (some ⟨B0,0,none⟩)],qC (p 5)])/\w'.cell? ⟨B0,0,none⟩=some (.int .i64 s0)/\Below w.heap.size w w':=by
 have bA:=zC w (.cells #[.int .i64 s0] 2);have fA:=zC (w.alloc (.cells #[.int .i64 s0] 2)) (.cells #[.nilFunc,.nilIface] 75);have hb:=zA (bA) fA;have c0:(w.alloc (.cells #[.int .i64 s0] 2)).cell? ⟨w.heap.size,0,none⟩=some (.int .i64 s0):=World.cell?_alloc_at _ _ _ _ rfl;have hg:((w.alloc (.cells #[.int .i64 s0] 2)).alloc (.cells #[.nilFunc,.nilIface] 75)).cell? ⟨1,0,none⟩=some (qC (p 5)):=(hE.zO9 hb).cell 5 (by omega);have cA:=zC (w.alloc (.cells #[.int .i64 s0] 2)) (.cells #[.func (.func 123) #[] #[.pointer (some ⟨w.heap.size,0,none⟩)],qC (p 5)] 75);have eA:=zA (bA) cA;have dA:=zB ((cA.cell (zD c0)).trans c0);clear c0;go_enter Tryz.func56,Tryz.ntmps56;have gA:=fun (ww:World) (a:Addr)=>run_store Tryz.prog ww a (.func (.func 123) #[] #[.pointer (some ⟨w.heap.size,0,none⟩)]) .plain rfl
 go_wp2_with fail;have aA:=zp.new (w.alloc (.cells #[.int .i64 s0] 2)) (.func (.func 123) #[] #[.pointer (some ⟨w.heap.size,0,none⟩)]) (qC (p 5)) 75;rw[World.size_alloc]at aA;refine bodyPost_ret (v:=.agg #[.func (.func 123) #[] #[.pointer (some ⟨w.heap.size,0,none⟩)],qC (p 5)]) (by simp[results,Tryz.results56,go_sem,aA.1.1,aA.2.1]) rfl ⟨_,rfl,dA.out,eA⟩
theorem zBw(p:Nat->Addr)(v0 v1 v2 v3:Value)(lo hi:Nat)(W:zE)(aA:Int)(o:zAk)(w:World)(hE:zEd w p)(h:zd w lo hi v0 v1 v2 v3 W)(tB:zAr W)(b1:yL W.zPE<=1048576)(b2:W.sn<=1048576)(b3:W.pn<=1048576)(b4:zDE W)(vA:(Lit.int .i64 aA).wf=true)
  (rB:∀B0 C w' z0 z1 z2 z3,w'.cell? ⟨B0,0,none⟩=some (.int .i64 aA)->B0<C->yk W->¬(∃i,i<0/\8000<((fun (_:Nat)=>(⟨#[]⟩:ByteArray)) i).size)->¬(∃i,i<0/\¬yE ((fun _=>⟨#[]⟩) i))->(∀j,j<2->(fun i=>match i with | 0=>qD W aA | _=>yw W aA=1) j)->C<w'.heap.size->Below w.heap.size w w'->qV w' (C+1) w'.heap.size z0 z1 z2 z3 W->yM w' C z0 z1 (.int .i64 W.time) (.int .i64 W.next) z2 z3 (.int .i64 0) (.int .i64 0) .nilIface->Calls Tryz.prog 57 #[.pointer (some ⟨C,0,none⟩),.pointer (some ⟨B0,0,none⟩)] w' (zLd p o C w')) :
  Calls Tryz.prog 19 #[zt v0 v1 v2 v3 W,.int .i64 aA] w fun e w'=>∃r,zFN W (∃i,i<0/\8000<((fun (_:Nat)=>(⟨#[]⟩:ByteArray)) i).size) (∃i,i<0/\¬yE ((fun _=>⟨#[]⟩) i)) 2 (fun i=>match i with | 0=>qD W aA | _=>yw W aA=1) (fun i=>match i with | 0=>2 | _=>5) r/\zBN (zLI r o) w e w':=by
 have Hp:=zf h;have HE:=zf hE;have cC:=zf rB;have mB:=zf tB;have gA:=zf vA;clear vA;clear h hE rB tB;have nB:=zC w (.cells #[v0,v1,.int .i64 W.time,.int .i64 W.next,v2,v3] 37);have iB:=zC (w.alloc (.cells #[v0,v1,.int .i64 W.time,.int .i64 W.next,v2,v3] 37)) (.cells #[.int .i64 aA] 2);have aB:=zC ((w.alloc (.cells #[v0,v1,.int .i64 W.time,.int .i64 W.next,v2,v3] 37)).alloc (.cells #[.int .i64 aA] 2)) (.cells #[.slice none 0 0,.slice none 0 0,.int .i64 0,.int .i64 0,.slice none 0 0,.slice none 0 0,.int .i64 0,.int .i64 0,.int .i64 0] 39);have hb:=zA (zA (nB) iB) aB;have HX:=zf (((zg.new w (v0) (v1) (.int .i64 W.time) (.int .i64 W.next) (v2) (v3) 37).zO9 iB).zO9 aB);have c0:((w.alloc (.cells #[v0,v1,.int .i64 W.time,.int .i64 W.next,v2,v3] 37)).alloc (.cells #[.int .i64 aA] 2)).cell? ⟨(w.alloc (.cells #[v0,v1,.int .i64 W.time,.int .i64 W.next,v2,v3] 37)).heap.size,0,none⟩=some (.int .i64 aA):=World.cell?_alloc_at _ _ _ _ rfl;rw[World.size_alloc]at c0;replace c0:=(aB.cell (zD c0)).trans c0;have kB:=zf c0;clear c0;have hr:=yM.new ((w.alloc (.cells #[v0,v1,.int .i64 W.time,.int .i64 W.next,v2,v3] 37)).alloc (.cells #[.int .i64 aA] 2)) (.slice none 0 0) (.slice none 0 0) (.int .i64 0) (.int .i64 0) (.slice none 0 0) (.slice none 0 0) (.int .i64 0) (.int .i64 0) (.int .i64 0) 39;rw[World.size_alloc,World.size_alloc]at hr;have HR:=zf hr;clear hr;have hz:(((w.alloc (.cells #[v0,v1,.int .i64 W.time,.int .i64 W.next,v2,v3] 37)).alloc (.cells #[.int .i64 aA] 2)).alloc (.cells #[.slice none 0 0,.slice none 0 0,.int .i64 0,.int .i64 0,.slice none 0 0,.slice none 0 0,.int .i64 0,.int .i64 0,.int .i64 0] 39)).heap.size=w.heap.size+3:=by rw[World.size_alloc,World.size_alloc,World.size_alloc]
 go_enter Tryz.func19,Tryz.ntmps19;go_upto_region 1 with fail;generalize (((w.alloc (.cells #[v0,v1,.int .i64 W.time,.int .i64 W.next,v2,v3] 37)).alloc (.cells #[.int .i64 aA] 2)).alloc (.cells #[.slice none 0 0,.slice none 0 0,.int .i64 0,.int .i64 0,.slice none 0 0,.slice none 0 0,.int .i64 0,.int .i64 0,.int .i64 0] 39))=W1 at hb HX HR hz kB ⊢;clear nB iB aB;obtain⟨⟨x0,-⟩,⟨x1,-⟩,⟨x2,-⟩,⟨x3,-⟩,⟨x4,-⟩,⟨x5,-⟩⟩:=HX.out;have k0:=kB.out;have bA:=zf (show ∀w',Below (w.heap.size+1+1) W1 w'->(fun w'=>w'.cell? ⟨w.heap.size,0,none⟩=some (v0)/\w'.cell? ⟨w.heap.size,1,none⟩=some (v1)/\w'.cell? ⟨w.heap.size,2,none⟩=some (.int .i64 W.time)/\w'.cell? ⟨w.heap.size,3,none⟩=some (.int .i64 W.next)/\w'.cell? ⟨w.heap.size,4,none⟩=some (v2)/\w'.cell? ⟨w.heap.size,5,none⟩=some (v3)/\w'.cell? ⟨w.heap.size+1,0,none⟩=some (.int .i64 aA)/\Below (w.heap.size+1+1) W1 w') w' from fun w' cA=>⟨(cA.cell (p:=⟨w.heap.size,0,none⟩) (by show w.heap.size<_;omega)).trans x0,(cA.cell (p:=⟨w.heap.size,1,none⟩) (by show w.heap.size<_;omega)).trans x1,(cA.cell (p:=⟨w.heap.size,2,none⟩) (by show w.heap.size<_;omega)).trans x2,(cA.cell (p:=⟨w.heap.size,3,none⟩) (by show w.heap.size<_;omega)).trans x3,(cA.cell (p:=⟨w.heap.size,4,none⟩) (by show w.heap.size<_;omega)).trans x4,(cA.cell (p:=⟨w.heap.size,5,none⟩) (by show w.heap.size<_;omega)).trans x5,(cA.cell (p:=⟨w.heap.size+1,0,none⟩) (by show w.heap.size+1<_;omega)).trans k0,cA⟩);have jA:w.heap.size+1+1<=W1.heap.size:=by omega
 clear x0 x1 x2 x3 x4 x5 k0;refine wp_region_held_drew (S:=(fun w'=>w'.cell? ⟨w.heap.size,0,none⟩=some (v0)/\w'.cell? ⟨w.heap.size,1,none⟩=some (v1)/\w'.cell? ⟨w.heap.size,2,none⟩=some (.int .i64 W.time)/\w'.cell? ⟨w.heap.size,3,none⟩=some (.int .i64 W.next)/\w'.cell? ⟨w.heap.size,4,none⟩=some (v2)/\w'.cell? ⟨w.heap.size,5,none⟩=some (v3)/\w'.cell? ⟨w.heap.size+1,0,none⟩=some (.int .i64 aA)/\Below (w.heap.size+1+1) W1 w')) (by kernel_rfl) (bA.out _ ((Below.refl _ _).drew.mono jA)) (fun hHeld=>?_);have jC:Below W1.heap.size W1 W1.drew:=(Below.refl _ _).drew;refine tk 0 (h:=?_);refine tk 2 (h:=?_);refine tk 5 (h:=?_);refine tk 7 (h:=?_);refine zMX [1,3,4] (fun i=>if i=4 then [1,3] else []) (fun i=>i+5) (fun i v w'=>(i=1->QAt w' p 121 2 [.int .i64 aA] v)/\(i=3->QAt w' p 123 5 [.int .i64 aA] v)/\(i=4->zFK w' p 2 (fun i=>match i with | 0=>121 | _=>123) (fun i=>match i with | 0=>2 | _=>5) (fun i=>match i with | 0=>[.int .i64 aA] | _=>[.int .i64 aA]) v)) 3 (G:=fun w'=>Below W1.heap.size W1 w') (by kernel_rfl) (by decide) (by decide) (by decide) ?_ (fun _ _ h t=>zA h t) (by assumption) jC ?_ ?_
 ·intro i v w' rC hf t;exact⟨fun e=>(hf.1 e).zO9 t,fun e=>(hf.2.1 e).zO9 t,fun e=>(hf.2.2 e).zO9 t⟩
 ·intro i hi x w2 hS hG hD K hK;simp only[List.mem_cons,List.not_mem_nil,or_false]at hi;rcases hi with rfl | rfl | rfl
  ·refine wpOp_step (zCi rfl) (fun K' oA=>?_);simp only[yO,Act.put,Nat.reduceAdd,s1,s2,s3];go_simp;go_at_call 55;refine(zHr p aA w2 (HE.out.zO9 (zA hb hG))).mono ?_;rintro e w3 ⟨B0,rfl,dA,iA⟩;refine oA _ _ (hK.out _ _ w3 ?_ (bA.out _ ((zA hG iA).mono jA)) ⟨fun _=>⟨_,rfl,zA5.one dA⟩,fun e=>absurd e (by decide),fun e=>absurd e (by decide)⟩ iA);simp only[yO,Act.put,Nat.reduceAdd,s1,s2,s3]
  ·refine wpOp_step (zCi rfl) (fun K' oA=>?_);simp only[yO,Act.put,Nat.reduceAdd,s1,s2,s3];go_simp;go_at_call 56;refine(zKB p aA w2 (HE.out.zO9 (zA hb hG))).mono ?_;rintro e w3 ⟨B0,rfl,dA,iA⟩;refine oA _ _ (hK.out _ _ w3 ?_ (bA.out _ ((zA hG iA).mono jA)) ⟨fun e=>absurd e (by decide),fun _=>⟨_,rfl,zA5.one dA⟩,fun e=>absurd e (by decide)⟩ iA);simp only[yO,Act.put,Nat.reduceAdd,s1,s2,s3]
  ·refine wpOp_step (zCi rfl) (fun K' oA=>?_);simp only[yO,Act.put,Nat.reduceAdd,s1,s2,s3];obtain⟨vB,e0,rA⟩:=(hD 1 (by decide)).1 rfl;obtain⟨aC,e1,sA⟩:=(hD 3 (by decide)).2.1 rfl;simp only[e0,e1];have oB:=zC w2 (.cells #[.func (.func 121) #[] vB,qC (p 2),.func (.func 123) #[] aC,qC (p 5)] 75);have hA:zFK (w2.alloc (.cells #[.func (.func 121) #[] vB,qC (p 2),.func (.func 123) #[] aC,qC (p 5)] 75)) p 2 (fun i=>match i with | 0=>121 | _=>123) (fun i=>match i with | 0=>2 | _=>5) (fun i=>match i with | 0=>[.int .i64 aA] | _=>[.int .i64 aA]) (.slice (some ⟨w2.heap.size,0,none⟩) 2 2):=zOZ (g:=(fun i=>match i with | 0=>121 | _=>123)) (ei:=(fun i=>match i with | 0=>2 | _=>5)) (caps:=(fun i=>match i with | 0=>[.int .i64 aA] | _=>[.int .i64 aA])) rA sA;go_simp;refine oA _ _ (hK.out _ _ _ ?_ (bA.out _ ((zA hG oB).mono jA)) ⟨fun e=>absurd e (by decide),fun e=>absurd e (by decide),fun _=>hA⟩ oB);simp only[yO,Act.put,Nat.reduceAdd,s1,s2,s3,e0,e1]
 ·intro x w2 hS hG hF;have hT:yz w2 (.slice none 0 0) 0 (fun (_:Nat)=>(⟨#[]⟩:ByteArray)):=⟨by omega,_,_,rfl,fun i hi=>absurd hi (Nat.not_lt_zero _),fun h=>absurd h (Nat.lt_irrefl _)⟩;have hN:yz w2 (.slice none 0 0) 0 (fun _=>⟨#[]⟩):=⟨by omega,_,_,rfl,fun i hi=>absurd hi (Nat.not_lt_zero _),fun h=>absurd h (Nat.lt_irrefl _)⟩;obtain⟨lb,hA,pA⟩:=(hF 4 (by decide)).2.2 rfl;obtain⟨-,qa,qc,eq,-⟩:=id hA;simp only[yO,zAb,if_true,Act.put,Nat.reduceAdd,s1,s2,s3,eq];rw[eq]at hA;have cA:=zA hb hG;have eC:=zf hT;have dC:=zf hN;have bC:=zf hA;have mA:=zf pA;clear hT hN hA pA hF;refine tk 6 (h:=?_);refine rd [8] (rc (fun K hK=>?_) .nil);go_simp;go_at_call 38;refine(zOh p _ _ _ 57 #[.pointer (some ⟨w.heap.size+1,0,none⟩)] 0 0 2 (fun (_:Nat)=>(⟨#[]⟩:ByteArray)) (fun _=>⟨#[]⟩) (fun i=>match i with | 0=>121 | _=>123) lb (fun i=>match i with | 0=>2 | _=>5) (fun i=>match i with | 0=>qD W aA | _=>yw W aA=1) o _ _ _ _ lo hi W w2 (HE.out.zO9 cA) (Hp.out.zO9 cA) mB.out b1 b2 b3 b4 eC.out dC.out bC.out ?_ ?_ (enters_of Tryz.func57 (by kernel_rfl) rfl) ?_ ?_).mono ?_
  ·intro i hi;rcases(by omega:i=0\/i=1)with rfl | rfl
   all_goals decide
  ·intro i hi;rcases(by omega:i=0\/i=1)with rfl | rfl
   ·exact enters_of Tryz.func121 (by kernel_rfl) rfl
   ·exact enters_of Tryz.func123 (by kernel_rfl) rfl
  ·intro i oC w' lA hI kC;have hW:=(Hp.out.zO9 cA).zO9 lA;have h8:=hI.zPL.zPG.1;have gC:=hI.zPL.zPD.1;rcases(by omega:i=0\/i=1)with rfl | rfl
   ·obtain⟨B0,gB,dA⟩:=(mA.out 0 (by decide)).is1;replace dA:=(lA.cell (zD dA)).trans dA;rw[gB];exact zHA v0 v1 v2 v3 lo hi W B0 aA w' hW gC hI.zPL.idsWf hI.zPL.dist gA.out dA
   ·obtain⟨B0,gB,dA⟩:=(mA.out 1 (by decide)).is1;replace dA:=(lA.cell (zD dA)).trans dA;rw[gB];exact zJC v0 v1 v2 v3 lo hi W B0 aA w' hW hI mB.out (zN0 hI (kC 0 (by omega))) dA
  ·intro C w' z0 z1 z2 z3 hC lA iC hI hl mC hq eA jB;exact cC.out (w.heap.size+1) C w' z0 z1 z2 z3 ((lA.cell (zD hS.2.2.2.2.2.2.1)).trans hS.2.2.2.2.2.2.1) (by have:=hG.size;omega) hI hl mC hq iC (zA cA lA) eA jB
  rintro e w3 ⟨r,tA,z0,z1,z2,z3,rfl,eA,iA⟩;obtain⟨n0,bB,n1,cB,n2,dB,n3,eB,rfl,rfl,rfl,rfl⟩:=eA.zPO;have kA:=zA hG iA;have lB:=zf (HR.out.zO9 kA);have nA:=zf eA;have fB:=zf tA;clear eA tA;generalize sB:zLI r o=oo at nA ⊢;have fC:=zf sB;clear sB
  (try go_wp2_with fail)
  refine hK.out _ _ (bA.out _ (kA.mono jA)) ?_;clear hK K hHeld;intro hHeld
  try simp only[Act.put,s1,s2,s3]
  refine rd [9] (rc (fun K hK=>?_) .nil);obtain⟨⟨r0,g0⟩,⟨r1,g1⟩,⟨r2,g2⟩,⟨r3,g3⟩,⟨r4,g4⟩,⟨r5,g5⟩,⟨r6,g6⟩,⟨r7,g7⟩,⟨r8,g8⟩⟩:=lB.out;go_simp
  (try go_wp2_with fail)
  have hT:=zF.put9 w3 (w.heap.size+1+1) (.slice n0 oo.world.zPE.n bB) (.slice n1 oo.world.zPE.hn cB) (.int .i64 oo.world.time) (.int .i64 oo.world.next) (.slice n2 oo.world.sn dB) (.slice n3 oo.world.pn eB) (.int .i64 oo.id) (.int .i64 oo.zPP) (.int .i64 oo.zPQ);have lC:Below (w.heap.size+1+1) W1 (((((((((w3.setCell ⟨w.heap.size+1+1,0,none⟩ (.slice n0 oo.world.zPE.n bB)).setCell ⟨w.heap.size+1+1,1,none⟩ (.slice n1 oo.world.zPE.hn cB)).setCell ⟨w.heap.size+1+1,2,none⟩ (.int .i64 oo.world.time)).setCell ⟨w.heap.size+1+1,3,none⟩ (.int .i64 oo.world.next)).setCell ⟨w.heap.size+1+1,4,none⟩ (.slice n2 oo.world.sn dB)).setCell ⟨w.heap.size+1+1,5,none⟩ (.slice n3 oo.world.pn eB)).setCell ⟨w.heap.size+1+1,6,none⟩ (.int .i64 oo.id)).setCell ⟨w.heap.size+1+1,7,none⟩ (.int .i64 oo.zPP)).setCell ⟨w.heap.size+1+1,8,none⟩ (.int .i64 oo.zPQ)):=(kA.mono jA).trans (hT.zO9 (B:=w.heap.size+1+1) (by have:=kA.size;omega) (fun k e=>by omega));refine hK.out _ _ (bA.out _ lC) ?_;clear hK K hHeld r0 r1 r2 r3 r4 r5 r6 r7 r8 g0 g1 g2 g3 g4 g5 g6 g7 g8;intro hHeld
  try simp only[Act.put,s1,s2,s3]
  refine wpAnyH_done (by kernel_rfl) ?_ _;go_wp2_with fail;have fA:=lB.out.put (.slice n0 oo.world.zPE.n bB) (.slice n1 oo.world.zPE.hn cB) (.int .i64 oo.world.time) (.int .i64 oo.world.next) (.slice n2 oo.world.sn dB) (.slice n3 oo.world.pn eB) (.int .i64 oo.id) (.int .i64 oo.zPP) (.int .i64 oo.zPQ);have pB:=zA hb kA;have nC:=hT.size;have pC:=kA.size;refine bodyPost_ret (v:=.agg #[.slice n0 oo.world.zPE.n bB,.slice n1 oo.world.zPE.hn cB,.int .i64 oo.world.time,.int .i64 oo.world.next,.slice n2 oo.world.sn dB,.slice n3 oo.world.pn eB,.int .i64 oo.id,.int .i64 oo.zPP,.int .i64 oo.zPQ]) (by simp[results,Tryz.results19,go_sem,fA.1.1,fA.2.1.1,fA.2.2.1.1,fA.2.2.2.1.1,fA.2.2.2.2.1.1,fA.2.2.2.2.2.1.1,fA.2.2.2.2.2.2.1.1,fA.2.2.2.2.2.2.2.1.1,fA.2.2.2.2.2.2.2.2.1]) rfl ⟨r,fB.out,?_⟩;rw[fC.out];refine⟨_,_,_,_,rfl,?_,?_⟩
  ·exact(nA.out.zPF hT (fun k e=>by have:=hG.size;omega)).wide (by have:=hG.size;omega) nC
  ·exact pB.trans (hT.zO9 (B:=w.heap.size) pB.size (fun k e=>by omega))
def yr(p:zN)(xs:Int):zN:={n:=p.n,s:=p.s,hn:=p.hn+1,h:=fun i=>if i=p.hn then xs else p.h i}
open Classical in
noncomputable def zGa(p:zN)(xs xb:Int):zOr:=if qB p then(if zx p xs xb/\¬Has p.hn p.h xs then⟨yr p xs,0,0,0⟩else⟨zI8 0,0,0,4⟩)else⟨zI8 0,0,0,1⟩
theorem zML{p:zN}{xs xb:Int}(h:¬qB p):zGa p xs xb=⟨zI8 0,0,0,1⟩:=if_neg h
theorem zH5{p:zN}{xs xb:Int}(h:qB p)(h':¬(zx p xs xb/\¬Has p.hn p.h xs)):zGa p xs xb=⟨zI8 0,0,0,4⟩:=(if_pos h).trans (if_neg h')
theorem zLm{p:zN}{xs xb:Int}(h:qB p)(h':zx p xs xb)(aA:¬Has p.hn p.h xs):zGa p xs xb=⟨yr p xs,0,0,0⟩:=(if_pos h).trans (if_pos ⟨h',aA⟩)
theorem zNG{f g:Nat->Int}{n:Nat}(h:∀i,i<n->f i=g i):ic f n=ic g n:=by
 induction n with
 | zero=>rfl
 | succ n ih=>
  unfold ic;rw[ih (fun i hi=>h i (by omega)),h n (by omega)]
theorem zLn(p:zN)(xs:Int):ic (yr p xs).h (p.hn+1)=ic p.h p.hn ++ [.int .i64 xs]:=by
 show ic (yr p xs).h p.hn ++ [.int .i64 ((yr p xs).h p.hn)]=_;rw[zNG (f:=(yr p xs).h) (g:=p.h) (fun i hi=>if_neg (by omega)),show(yr p xs).h p.hn=xs from if_pos rfl]
theorem zOo(w:World)(a0 a1 x0 x1:Value)(t1 t2 t3:TypeId) :
  zp (((w.alloc (.cells #[a0,a1] t1)).alloc (.cells #[x0,x1] t2)).alloc (.cells #[.slice none 0 0,.slice none 0 0,.int .i64 0,.int .i64 0,.int .i64 0] t3)) w.heap.size a0 a1/\
  zp (((w.alloc (.cells #[a0,a1] t1)).alloc (.cells #[x0,x1] t2)).alloc (.cells #[.slice none 0 0,.slice none 0 0,.int .i64 0,.int .i64 0,.int .i64 0] t3)) (w.heap.size+1) x0 x1/\
  zHO (((w.alloc (.cells #[a0,a1] t1)).alloc (.cells #[x0,x1] t2)).alloc (.cells #[.slice none 0 0,.slice none 0 0,.int .i64 0,.int .i64 0,.int .i64 0] t3)) (w.heap.size+1+1) (.slice none 0 0) (.slice none 0 0) (.int .i64 0) (.int .i64 0) (.int .i64 0)/\
  Below w.heap.size w (((w.alloc (.cells #[a0,a1] t1)).alloc (.cells #[x0,x1] t2)).alloc (.cells #[.slice none 0 0,.slice none 0 0,.int .i64 0,.int .i64 0,.int .i64 0] t3))/\
  (((w.alloc (.cells #[a0,a1] t1)).alloc (.cells #[x0,x1] t2)).alloc (.cells #[.slice none 0 0,.slice none 0 0,.int .i64 0,.int .i64 0,.int .i64 0] t3)).heap.size=w.heap.size+3:=by
 refine⟨((zp.new w a0 a1 t1).zO9 (zC _ _)).zO9 (zC _ _),?_,?_,zA (zA (zC _ _) (zC _ _)) (zC _ _),by simp⟩
 ·have:=(zp.new (w.alloc (.cells #[a0,a1] t1)) x0 x1 t2).zO9 (zC _ (.cells #[.slice none 0 0,.slice none 0 0,.int .i64 0,.int .i64 0,.int .i64 0] t3));rw[World.size_alloc]at this;exact this
 ·have:=zHO.new ((w.alloc (.cells #[a0,a1] t1)).alloc (.cells #[x0,x1] t2)) (.slice none 0 0) (.slice none 0 0) (.int .i64 0) (.int .i64 0) (.int .i64 0) t3;rw[World.size_alloc,World.size_alloc]at this;exact this
theorem zOC{w wr:World}{lo hi R:Nat}{s0 s1 u2 u3 u4:Value}{p:zN}(ho:qF wr lo hi s0 s1 p)(aA:R<lo)(cA:w.heap.size<=R)(bA:hi<=wr.heap.size)(hb:Below w.heap.size w wr) :
  qF (put5 wr R s0 s1 u2 u3 u4) w.heap.size (put5 wr R s0 s1 u2 u3 u4).heap.size s0 s1 p/\Below w.heap.size w (put5 wr R s0 s1 u2 u3 u4):=by
 have t:=zF.put5 wr R s0 s1 u2 u3 u4;have hz:=t.size;exact⟨(ho.zPF t (fun k hk=>by omega)).wide (by omega) (by omega),hb.trans (t.zO9 (by have:=hb.size;omega) (fun k hk=>by omega))⟩
theorem zGn{w wr:World}{R:Nat}{u2 u3 u4:Value}(aA:w.heap.size<=R)(hb:Below w.heap.size w wr) :
  qF (put5 wr R (.slice none 0 0) (.slice none 0 0) u2 u3 u4) w.heap.size (put5 wr R (.slice none 0 0) (.slice none 0 0) u2 u3 u4).heap.size (.slice none 0 0) (.slice none 0 0) (zI8 0)/\Below w.heap.size w (put5 wr R (.slice none 0 0) (.slice none 0 0) u2 u3 u4):=by
 have t:=zF.put5 wr R (.slice none 0 0) (.slice none 0 0) u2 u3 u4;exact⟨zKA,hb.trans (t.zO9 (by have:=hb.size;omega) (fun k hk=>by omega))⟩
theorem zF2{b:Nat}{w w':World}(t:zF (fun k=>k=b) w w'):w.grownBy w' (some b):=⟨t.os,t.tape,t.output,t.size,fun k hk aA=>t.block k hk (fun e=>aA (by rw[e]))⟩
theorem zOx(w:World)(x:Value)(t:TypeId):∀j u,[x][j]?=some u->(w.alloc (.cells #[x] t)).cell? ((⟨w.heap.size,0,none⟩:Addr).add j)=some u:=by
 intro j u hj
 match j,hj with
 | 0,hj=>simp at hj;subst hj;simp[Addr.add]
 | (j+1),hj=>simp at hj
theorem zOB(x:Int):∀u∈[Value.int .i64 x],u.oneCell'=true:=by
 intro u hu;simp only[List.mem_cons,List.not_mem_nil,or_false]at hu;rw[hu];rfl
theorem zLz{w:World}{lo hi:Nat}{f:Nat->Int}{n c:Nat}{a:Option Addr}(h:qs w lo hi (.slice a n c) n f){w':World}(hb:Below w.heap.size w w'):∀b,a=some b->∀j u,(ic f n)[j]?=some u->w'.cell? (b.add j)=some u:=by
 intro b aA j u hj;have bA:j<n:=by
  have:=(List.getElem?_eq_some_iff.1 hj).1;rw[zBD]at this;omega
 obtain⟨b0,off,ha,hc⟩:=zI9 h rfl hb (by omega);rw[ha]at aA;simp only[Option.some.injEq]at aA;subst aA;rw[add_lit];exact hc j u hj
theorem zJ9{w:World}{lo hi:Nat}{f:Nat->Int}{n c:Nat}{a:Option Addr}(h:qs w lo hi (.slice a n c) n f):a=none->n=0/\n=0:=fun e=>by
 obtain⟨_,a2,c2,hv,_,hx⟩:=h;simp only[Value.slice.injEq,true_and]at hv;obtain⟨rfl,rfl⟩:=hv;by_cases h0:0<n
 ·obtain⟨b,off,ha,_⟩:=hx h0;rw[ha]at e;cases e
 ·omega
theorem zDL{w w':World}(h:w.grownBy w' none):Below w.heap.size w w':=⟨h.os,h.tape,h.output,h.size,fun k hk=>h.block k hk (by simp)⟩
theorem zE6{w:World}{b:Nat}{x:Value}(h:w.cell? ⟨b,0,none⟩=some x):∀j u,[x][j]?=some u->w.cell? ((⟨b,0,none⟩:Addr).add j)=some u:=by
 intro j u hj
 match j,hj with
 | 0,hj=>simp at hj;subst hj;rw[add_lit];exact h
 | (j+1),hj=>simp at hj
theorem zJq{p:zN}{xs y:Int}{j:Nat}(hj:j<=p.hn):Has j (yr p xs).h y↔Has j p.h y:=by
 constructor
 ·rintro⟨k,hk,e⟩;exact⟨k,hk,by rw[<-e];exact(if_neg (by omega:¬k=p.hn)).symm⟩
 ·rintro⟨k,hk,e⟩;exact⟨k,hk,by rw[<-e];exact if_neg (by omega:¬k=p.hn)⟩
theorem zLK{p:zN}{xs xb:Int}(hR:qB p)(hP:zx p xs xb)(hH:¬Has p.hn p.h xs):qB (yr p xs):=by
 refine⟨hR.1,fun j hj=>hR.2.1 j hj,fun j hj=>?_⟩;by_cases e:j=p.hn
 ·subst e;have hx:(yr p xs).h p.hn=xs:=if_pos rfl;refine⟨?_,?_,?_,?_⟩
  ·rw[hx];exact hP.2.1
  ·rw[hx];exact hP.2.2.1
  ·rw[hx];intro hf;have h4:=hP.2.2.2;have h5:(p.s xs.toNat).zPI=0:=hf.1;have:=hP.1;omega
  ·rw[hx,zJq (Nat.le_refl _)];exact hH
 ·have aA:j<p.hn:=(by have:j<p.hn+1:=hj;omega);have hx:(yr p xs).h j=p.h j:=if_neg e;obtain⟨h1,h2,h3,h4⟩:=hR.2.2 j aA;refine⟨?_,?_,?_,?_⟩
  ·rw[hx];exact h1
  ·rw[hx];exact h2
  ·rw[hx];exact h3
  ·rw[hx,zJq (by omega)];exact h4
def zCI(t:Nat)(left:Int)(e:Ending):Prop:=∃r:Int,e = .returned (.int .i64 r)/\(0<=r->r+t=left)/\r<=left/\-1<=r
theorem zEZ(v:Value)(n lo hi:Nat)(f g:Nat->Int)(left:Int)(w:World)(h1:zR w lo hi v n f g)(aA:0<=left)(bA:left<=1048576) :
  Calls Tryz.prog 135 #[v,.int .i64 left] w fun e w'=>zCI n left e/\Below w.heap.size w w':=by
 obtain⟨m1,a,c,rfl,mc,g1⟩:=h1;unfold maxLen at m1;clear g1;by_cases h:left - (n:Int)<0
 ·go_enter Tryz.func135,Tryz.ntmps135;go_wp2;go_ret;exact⟨⟨-1,rfl,by omega,by omega,by omega⟩,Below.refl _ _⟩
 ·go_enter Tryz.func135,Tryz.ntmps135;go_wp2;go_ret;exact⟨⟨_,rfl,by omega,by omega,by omega⟩,Below.refl _ _⟩
theorem zJQ(v:Value)(n lo hi:Nat)(f:Nat->Int)(left:Int)(w:World)(h1:qs w lo hi v n f)(aA:0<=left)(bA:left<=1048576) :
  Calls Tryz.prog 65 #[v,.int .i64 left] w fun e w'=>zCI n left e/\Below w.heap.size w w':=by
 obtain⟨m1,a,c,rfl,mc,g1⟩:=h1;unfold maxLen at m1;clear g1;by_cases h:left - (n:Int)<0
 ·go_enter Tryz.func65,Tryz.ntmps65;go_wp2;go_ret;exact⟨⟨-1,rfl,by omega,by omega,by omega⟩,Below.refl _ _⟩
 ·go_enter Tryz.func65,Tryz.ntmps65;go_wp2;go_ret;exact⟨⟨_,rfl,by omega,by omega,by omega⟩,Below.refl _ _⟩
theorem zLT(v0 v1 v2:Value)(lo hi:Nat)(s:zO)(left:Int)(w:World)(h1:qT w lo hi v0 v1 v2 s)(eA:0<=left)(fA:left<=1048576) :
  Calls Tryz.prog 134 #[.agg #[v0,v1,v2],.int .i64 left] w fun e w'=>zCI (zCE s) left e/\Below w.heap.size w w':=by
 obtain⟨rfl,p1,rfl,m1⟩:=h1;have q1:=p1;obtain⟨_,a,c,rfl,_⟩:=p1;unfold maxLen at m1;go_enter Tryz.func134,Tryz.ntmps134;go_wp2_with fail;have cA:=(Below.refl w.heap.size w).alloc (Nat.le_refl _) (.cells #[.int .i64 s.zPI,.slice a s.kn c,.string s.data] 183);refine(zEZ _ s.kn lo hi _ _ _ _ (q1.zO9 cA) eA fA).mono ?_;rintro e w1 ⟨⟨r,rfl,dA,gA,iA⟩,aA⟩;have bA:=zA cA aA;have e1:=aA.cell (p:=⟨w.heap.size,2,none⟩) (by simp);simp at e1;have Hr:Hid (0<=r->r+s.kn=left):=dA;clear dA aA cA;by_cases h:r<0
 ·go_wp2;go_ret;exact⟨⟨-1,rfl,by omega,by omega,by omega⟩,bA⟩
 ·by_cases h2:r - (s.data.size:Int)<0
  ·go_wp2;go_ret;exact⟨⟨-1,rfl,by omega,by omega,by omega⟩,bA⟩
  ·go_wp2;go_ret;refine⟨⟨_,rfl,fun _=>?_,by omega,by omega⟩,bA⟩;have:=Hr.out (by omega);unfold zCE;omega
theorem zKW(v:Value)(n lo hi:Nat)(f:Nat->zO)(left:Int)(w:World)(h1:qG w lo hi v n f)(mA:0<=left)(nA:left<=1048576) :
  Calls Tryz.prog 64 #[v,.int .i64 left] w fun e w'=>zCI (n+zAP f n) left e/\Below w.heap.size w w':=by
 obtain⟨m1,a,c,rfl,mc,g1⟩:=h1;unfold maxLen at m1;have G1:Hid (0<n->∃b off,a=some ⟨b,off,none⟩/\lo<=b/\b<hi/\∀i,i<n->∃v0 v1 v2,w.cell? ⟨b,off+i*3,none⟩=some v0/\w.cell? ⟨b,off+i*3+1,none⟩=some v1/\w.cell? ⟨b,off+i*3+2,none⟩=some v2/\qT w lo hi v0 v1 v2 (f i)):=g1;clear g1;by_cases h:left - (n:Int)<0
 ·go_enter Tryz.func64,Tryz.ntmps64;go_wp2;go_ret;exact⟨⟨-1,rfl,by omega,by omega,by omega⟩,Below.refl _ _⟩
 ·go_enter Tryz.func64,Tryz.ntmps64;go_wp2
  go_loopw [1,5] (fun m i wr=>∃(k:Nat) (r:Int),k<=n/\i = .int .i64 k/\m = .int .i64 r/\0<=r/\r+n+zAP f k=left/\Below w.heap.size w wr) (fun _ i _=>n - (intOf i).toNat)
  case atStart=>exact⟨0,_,Nat.zero_le _,rfl,rfl,by omega,by simp[zAP],Below.refl _ _⟩
  case round=>
   obtain⟨k,r,hk,rfl,rfl,kA,hr,hb⟩:=hrel;have lA:r<=left:=(by omega);have Hr:Hid (r+n+zAP f k=left):=hr;clear hr;by_cases iA:k<n
   ·have jA:(k:Int)<(n:Int):=(by omega);obtain⟨b,off,rfl,_,_,k1⟩:=G1.out (by omega);obtain⟨x0,x1,x2,c0,c1,c2,hs⟩:=k1 k iA;have eA:=(hb.cell (zD c0)).trans c0;have fA:=(hb.cell (zD c1)).trans c1;have gA:=(hb.cell (zD c2)).trans c2;have dA:=hs.zO9 hb;have Hs:Hid (qT wr lo hi x0 x1 x2 (f k)):=dA;clear k1 G1 c0 c1 c2 hs;obtain⟨rfl,⟨_,ka,kc,rfl,_⟩,rfl,_⟩:=dA;go_wp2_with fail;refine(zLT _ _ _ lo hi (f k) _ _ Hs.out kA (by omega)).mono ?_;rintro e w1 ⟨⟨r',rfl,cA,oA,pA⟩,aA⟩;have bA:=zA hb aA;have Hq:Hid (0<=r'->r'+zCE (f k)=r):=cA;clear cA aA eA fA gA;by_cases h3:r'<0
    ·go_wp2;go_ret;exact⟨⟨-1,rfl,by omega,by omega,by omega⟩,bA⟩
    ·go_wp2;go_roundw
     case rel=>
      refine⟨k+1,r',by omega,by go_num,rfl,by omega,?_,bA⟩;have e1:=Hq.out (by omega);have e2:=Hr.out;show r'+(n:Int)+((zAP f k+zCE (f k):Nat):Int)=left;omega
     case measure=>simp[intOf];omega
   ·obtain rfl:k=n:=(by omega);go_wp2;go_ret;exact⟨⟨r,rfl,fun _=>by have:=Hr.out;omega,lA,by omega⟩,hb⟩
theorem zLR(v0 v1:Value)(lo hi:Nat)(p:zN)(left:Int)(w:World)(h1:qS w lo hi v0 v1 p)(iA:0<=left)(jA:left<=1048576) :
  Calls Tryz.prog 22 #[.agg #[v0,v1],.int .i64 left] w fun e w'=>zCI (yL p) left e/\Below w.heap.size w w':=by
 have q1:=h1;obtain⟨⟨_,a,c,rfl,_⟩,⟨_,a',c',rfl,_⟩⟩:=h1;go_enter Tryz.func22,Tryz.ntmps22;go_wp2_with fail;have cA:=(Below.refl w.heap.size w).alloc (Nat.le_refl _) (.cells #[.slice a p.n c,.slice a' p.hn c'] 25);refine(zKW _ p.n lo hi _ _ _ (q1.1.zO9 cA) iA jA).mono ?_;rintro e w1 ⟨⟨r,rfl,gA,mA,nA⟩,aA⟩;have bA:=zA cA aA;have e1:=aA.cell (p:=⟨w.heap.size,1,none⟩) (by simp);simp at e1;have Hr:Hid (0<=r->r+(p.n+zAP p.s p.n:Nat)=left):=gA;clear gA aA cA;by_cases h:r<0
 ·go_wp2;go_ret;exact⟨⟨-1,rfl,by omega,by omega,by omega⟩,bA⟩
 ·go_wp2_with fail;refine(zJQ _ p.hn lo hi _ _ _ (q1.2.zO9 bA) (by omega) (by omega)).mono ?_;rintro e w2 ⟨⟨r',rfl,fA,kA,lA⟩,dA⟩;have eA:=zA bA dA;have Hq:Hid (0<=r'->r'+p.hn=r):=fA;clear fA dA;by_cases h3:r'<0
  ·go_wp2;go_ret;exact⟨⟨-1,rfl,by omega,by omega,by omega⟩,eA⟩
  ·go_wp2;go_ret;refine⟨⟨r',rfl,fun _=>?_,by omega,by omega⟩,eA⟩;have e1:=Hq.out (by omega);have e2:=Hr.out (by omega);unfold yL;omega
theorem zFx{p:zN}(h:∀i,i<p.n->ql (p.s i)\/zDF p (p.s i)):∀k,k<=p.n->zAP p.s k<=24*k
 | 0,_=>Nat.le_refl _
 | k+1,hk=>by
  have ih:=zFx h k (by omega);have hs:zCE (p.s k)<=24:=by
   unfold zCE;rcases h k (by omega)with hf | hf
   ·have h1:=hf.2.1;have h2:(p.s k).data.size=0:=by
     have:=hf.2.2;rw[Go.ByteArray.toList_eq]at this;have e:(p.s k).data.data=#[]:=(by simpa using this);show(p.s k).data.data.size=0;rw[e];rfl
    omega
   ·rcases hf.2 with h2 | h2
    ·omega
    ·have h3:(p.s k).data.size=0:=by
      have:=h2.2.1;rw[Go.ByteArray.toList_eq]at this;have e:(p.s k).data.data=#[]:=(by simpa using this);show(p.s k).data.data.size=0;rw[e];rfl
     omega
  show zAP p.s k+zCE (p.s k)<=_;omega
theorem zKE{p:zN}(h:qB p):yL p<=10000:=by
 have h1:=zFx h.2.1 p.n (Nat.le_refl _);have h2:=((zBj p).2 h).2.1;have h3:=h.1;unfold yL;omega
def zq(p:zN):List (Int×Int)->zN
 | []=>p
 | x :: l=>zq (yr p x.1) l
def yN(p:zN)(l:List (Int×Int)):Prop:=qB p/\(∀x,x∈l->zx p x.1 x.2/\¬Has p.hn p.h x.1)/\(l.map Prod.fst).Nodup
theorem zMK{p:zN}{xs y:Int}(h:Has (p.hn+1) (yr p xs).h y):Has p.hn p.h y\/y=xs:=by
 obtain⟨j,hj,e⟩:=h;by_cases ej:j=p.hn
 ·right;rw[<-e,ej];exact if_pos rfl
 ·left;exact⟨j,by omega,by rw[<-e];exact(if_neg ej).symm⟩
theorem yN.head{p:zN}{x:Int×Int}{l:List (Int×Int)}(h:yN p (x :: l)):zGa p x.1 x.2=⟨yr p x.1,0,0,0⟩/\yN (yr p x.1) l:=by
 obtain⟨h1,h2,h3⟩:=h;obtain⟨g1,g2⟩:=h2 x List.mem_cons_self;rw[List.map_cons,List.nodup_cons]at h3;refine⟨zLm h1 g1 g2,zLK h1 g1 g2,fun y hy=>?_,h3.2⟩;obtain⟨k1,k2⟩:=h2 y (List.mem_cons_of_mem _ hy);refine⟨k1,fun hh=>?_⟩;rcases zMK hh with e | e
 ·exact k2 e
 ·exact h3.1 (e▸List.mem_map_of_mem hy)
theorem yN.cut{l':List (Int×Int)}:∀{l:List (Int×Int)} {p:zN},yN p (l ++ l')->yN (zq p l) l'
 | [],_,h=>h
 | x :: l,p,h=>yN.cut (l:=l) (p:=yr p x.1) (yN.head (p:=p) (x:=x) (l:=l ++ l') h).2
theorem zCu(x:Int×Int):∀(l:List (Int×Int)) (p:zN),zq p (l ++ [x])=yr (zq p l) x.1
 | [],_=>rfl
 | y :: l,p=>zCu x l (yr p y.1)
theorem zH4:∀(l:List (Int×Int)) (p:zN),(zq p l).n=p.n/\(zq p l).s=p.s/\(zq p l).hn=p.hn+l.length
 | [],_=>⟨rfl,rfl,rfl⟩
 | y :: l,p=>by
  obtain⟨h1,h2,h3⟩:=zH4 l (yr p y.1);refine⟨h1,h2,?_⟩;show(zq (yr p y.1) l).hn=_;rw[h3,List.length_cons];show p.hn+1+l.length=_;omega
theorem yN.next{p:zN}{l:List (Int×Int)}(h:yN p l){i:Nat}(hi:i<l.length):zGa (zq p (l.take i)) l[i].1 l[i].2=⟨zq p (l.take (i+1)),0,0,0⟩/\qB (zq p (l.take i)):=by
 have e:l=l.take i ++ l[i] :: l.drop (i+1):=by
  rw[List.getElem_cons_drop,List.take_append_drop]
 have h1:yN (zq p (l.take i)) (l[i] :: l.drop (i+1)):=yN.cut (l:=l.take i) (by rw[<-e];exact h);refine⟨?_,h1.1⟩;rw[h1.head.1,List.take_succ_eq_append_getElem hi,zCu]
theorem zFh(f g:Nat->Int)(t:Int):∀k,(zy f g t k).Sublist ((List.range k).map fun i=>(f i,g i))
 | 0=>List.Sublist.refl _
 | k+1=>by
  rw[List.range_succ,List.map_append,List.map_singleton];unfold zy;split
  ·exact(zFh f g t k).append (List.Sublist.refl _)
  ·exact(zFh f g t k).trans (List.sublist_append_left _ _)
theorem yN.sub{p:zN}{l l':List (Int×Int)}(h:yN p l)(hs:l'.Sublist l):yN p l':=⟨h.1,fun x hx=>h.2.1 x (hs.subset hx),List.Nodup.sublist (hs.map _) h.2.2⟩
def qu(n:Nat)(f g:Nat->Int):List (Int×Int):=(List.range n).map fun i=>(f i,g i)
theorem qq(n:Nat)(f g:Nat->Int):(qu n f g).length=n:=by
 unfold qu;rw[List.length_map,List.length_range]
theorem zDd{n:Nat}(f g:Nat->Int){i:Nat}(hi:i<n):zk (qu n f g) i=f i/\zn (qu n f g) i=g i:=by
 unfold zk zn qu;rw[List.getD_eq_getElem?_getD,List.getElem?_map,List.getElem?_range hi];exact⟨rfl,rfl⟩
theorem zGo(f g:Nat->Int)(t:Int):∀n,(zAJ f g t n).length<=n
 | 0=>Nat.le_refl _
 | n+1=>by
  have:=zGo f g t n;unfold zAJ;split
  ·omega
  ·rw[List.length_append,List.length_singleton];omega
theorem zHc(g:Nat)(lb:Array Value)(eg:Enters Tryz.prog g)(P:Nat->Prop)(v:Value)(n lo hi:Nat)(f:Nat->zY)(w:World)(h:qf w lo hi v n f)(hn:n<=1000)
  (hP:∀i,i<n->∀a c w',Below w.heap.size w w'->zR w' lo hi (.slice a (f i).dn c) (f i).dn (f i).ds (f i).db->Calls Tryz.prog g (#[.agg #[.int .i64 (f i).id,.string (f i).name,.string (f i).set,.int .i64 (f i).zPH,.int .i64 (f i).time,.int .i64 (f i).rs,.int .i64 (f i).rb,.slice a (f i).dn c]] ++ lb) w' fun e gA=>zG (P i) e/\Below w'.heap.size w' gA) :
  Calls Tryz.prog 183 #[v,.func (.func g) #[] lb] w fun e w'=>((∃i:Nat,i<n/\P i/\(∀j,j<i->¬P j)/\e = .returned (.int .i64 (i:Int)))\/((∀j,j<n->¬P j)/\e = .returned (.int .i64 (-1))))/\Below w.heap.size w w':=by
 have Hp:=zB h;obtain⟨-,a,c,rfl,-,-⟩:=h;have HP:=zB hP;clear hP;have e0:∀(args:Array Value) (w:World),(callFunc g args).run Tryz.prog w = .ok (.enter g args) w:=eg;clear eg;go_enter Tryz.func183,Tryz.ntmps183;go_wp2
 go_loopw [8] (fun i wr=>∃k:Nat,k<=n/\i = .int .i64 k/\(∀j,j<k->¬P j)/\Below w.heap.size w wr) (fun i _=>n - (intOf i).toNat)
 case atStart=>exact⟨0,Nat.zero_le _,rfl,fun j hj=>absurd hj (Nat.not_lt_zero _),Below.refl _ _⟩
 case round=>
  obtain⟨k,hk,rfl,bA,hb⟩:=hrel;have aA:=zB bA;clear bA;by_cases cA:k<n
  ·have fA:(k:Int)<(n:Int):=(by omega);obtain⟨b,off,vd,rfl,hs⟩:=(Hp.out.zO9 hb).cells cA;obtain⟨-,ad,cd,rfl,-,-⟩:=id hs.zPK;have Hs:=zB hs.zPK;obtain⟨q0,q1,q2,q3,q4,q5,q6,q7,-,-⟩:=hs;go_wp2_with fail;clear q0 q1 q2 q3 q4 q5 q6 q7;refine(HP.out k cA ad cd wr hb Hs.out).mono ?_;rintro e w1 ⟨⟨t,rfl,ht⟩,dA⟩;have eA:=zA hb dA;clear dA Hs;by_cases hf:P k
   ·obtain rfl:t=true:=ht.2 hf;have HF:=zB hf;clear ht hf;go_wp2;go_ret;exact⟨Or.inl ⟨k,cA,HF.out,aA.out,rfl⟩,eA⟩
   ·obtain rfl:t=false:=zW ht hf;have HF:=zB hf;clear ht hf;go_wp2;go_roundw
    case rel=>
     refine⟨k+1,by omega,by go_num,fun j hj=>?_,eA⟩;by_cases e:j=k
     ·subst e;exact HF.out
     ·exact aA.out j (by omega)
    case measure=>simp[intOf];omega
  ·obtain rfl:k=n:=(by omega);go_wp2;go_ret;exact⟨Or.inr ⟨aA.out,rfl⟩,hb⟩
theorem zFF{w w':World}{row:Option Nat}(h:w.grownBy w' row):zF (fun k=>row=some k) w w':=⟨h.os,h.tape,h.output,h.size,fun k hk hn=>h.block k hk (fun e=>hn e.symm)⟩
theorem ze{P:Program}{w w1:World}{bA:Array Oper}{o:Oper}{a:Act}{K:Act->World->Prop}{Q:Exit->Act->World->Prop}{E:Prop}(cA:o.guard=none)(s x:Operand)(t:TypeId)
  (ho:o.op = .call {callee:=.builtin .append,args:=#[s,x],argTypes:=#[t,t]}) (vs vx v':Value) (hs:a.eval s=vs) (hx:a.eval x=vx) (aA:(Builtin.append_ #[t,t] o.type #[vs,vx]).run P w = .ok v' w1)
  (h:K (a.put o.dst v') w1):if Region.wanted o (yielded bA a.tmps)=true then Oper.wp P o a w K Q else E:=by
 have hw:Region.wanted o (yielded bA a.tmps)=true:=by simp[Region.wanted,cA]
 rw[if_pos hw];unfold Oper.wp;simp[execOp,ho,resolve,invoke,builtin,hs,hx,aA,Result.andThen];exact h
def zKG(G:Nat->Value)(i n:Nat):List Value:=(List.range n).map (fun j=>G (i+j))
theorem zDc(G:Nat->Value)(i n:Nat):(zKG G i n).length=n:=by simp[zKG]
theorem zJM{G:Nat->Value}{i n j:Nat}(h:j<n):(zKG G i n)[j]?=some (G (i+j)):=by simp[zKG,h]
theorem zOT:Tryz.prog.underlying 35=some (.slice 99):=by kernel_rfl
theorem zIN(w:World)(base:Nat)(v:Value)(n:Nat)(xs:List Value)(aA:w.ownsRow base 99 8 v n xs)(hb:base<=w.heap.size)(ad:Option Addr)(b off i m c:Nat)(G:Nat->Value)(fA:0<m->ad=some ⟨b,off+i,none⟩)(hG:∀j,j<m*8->w.cell? ⟨b,off+(i+j),none⟩=some (G (i+j))/\(G (i+j)).oneCell'=true)(hn:n+m<=1000)(ty:TypeId) :
  ∃v' w',(Builtin.append_ #[35,35] ty #[v,.slice ad m c]).run Tryz.prog w = .ok v' w'/\w'.ownsRow base 99 8 v' (n+m) (xs ++ zKG G i (m*8))/\w.grownBy w' v.ownBlock:=by
 obtain⟨i0,cA,eA⟩:=Option.map_eq_some_iff.1 zDq;simp only[Prod.mk.injEq]at eA;obtain⟨hz,hs,gA⟩:=eA;by_cases h0:0<m
 ·obtain rfl:=fA h0;have bA:∀j,(⟨b,off+i,none⟩:Addr).add j=⟨b,off+(i+j),none⟩:=fun j=>by
   unfold Addr.add;split
   ·simp_all
   ·simp[Nat.add_assoc]
  obtain⟨v',w1,hr,r1,r2,_⟩:=run_append_own (P:=Tryz.prog) w base 35 ty 99 i0 _ 8 96 zOT cA hz hs gA rfl (by decide) v n xs aA ⟨b,off+i,none⟩ m c (zKG G i (m*8)) (zDc _ _ _) (fun j u hj=>by
    have dA:j<m*8:=by
     have:=(List.getElem?_eq_some_iff.1 hj).1
     rwa [zDc]at this
    rw[zJM dA]at hj;cases hj;rw[bA];exact(hG j dA).1) (fun u hu=>by
    unfold zKG at hu;obtain⟨j,hj,rfl⟩:=List.mem_map.1 hu;exact(hG j (List.mem_range.1 hj)).2) (by unfold maxLen;omega) (by omega) hb
  exact⟨v',w1,hr,r1,r2⟩
 ·obtain rfl:m=0:=(by omega);exact⟨v,w,zAE (P:=Tryz.prog) (w:=w) base 35 ty 99 i0 8 c ad zOT cA v n xs aA,by simpa[zKG]using aA,World.grownBy.refl _ _⟩
theorem qm.nth{w:World}{bs n:Nat}{kb:Nat->Nat}{kv:Nat->Value}{v:Value}{f:Nat->zv}(h:qm w bs kb kv v n f){k:Nat}(hk:k<n):∃off c,v = .slice (some ⟨bs,off,none⟩) n c/\yR w bs (off+k*6) (kb k) (kv k) (f k):=by
 obtain⟨_,a,c,hv,_,hx⟩:=h;obtain⟨off,ha,h⟩:=hx (by omega);exact⟨off,c,by rw[hv,ha],h k hk⟩
theorem zNe{w:World}{b:Nat}{v:Value}{n:Nat}{fs fb:Nat->Int}(h:zj w b v n fs fb):v.oneCell'=true:=by
 obtain⟨_,a,c,rfl,_⟩:=h;rfl
end Go.Proofs.YtmgeglgboadfiaaGreatDoor
