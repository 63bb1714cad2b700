/- A part of the proof. -/
import Derived.Test.YtgabgheflgjgiaaGreatDoorV15
import Derived.Test.YtgabgheflgjgiaaGreatDoorV26
set_option linter.unusedVariables false
set_option maxRecDepth 20000
set_option maxHeartbeats 8000000
namespace Go.Proofs.YtgabgheflgjgiaaGreatDoor
open Go.RowKit Go.Maps
theorem zv(v0 v1 v2 v3:Value)(lo hi:Nat)(W:zH)(w:World)(h:zr w lo hi v0 v1 v2 v3 W) :
  Calls Tryz.prog 42 #[qT v0 v1 v2 v3 W] w fun e w'=>zK (zBp W) e/\Below w.heap.size w w':=by
 have Hp:=zB h;obtain⟨m1,a,c,rfl,mc,-⟩:=id h.zOb;obtain⟨m2,a',c',rfl,aD,-⟩:=id h.zOd;obtain⟨m0,a0,c0,rfl,bD,-⟩:=id h.zOa.1;obtain⟨m3,a1,c1,rfl,cD,-⟩:=id h.zOa.2;unfold maxLen at m0 m1 m2 m3;clear h;have ha:=zC w (.cells #[.slice a0 W.zOa.n c0,.slice a1 W.zOa.hn c1,.int .i64 W.time,.int .i64 W.next,.slice a' W.sn c',.slice a W.pn c] 40);have HB:=zB (za.zOY w (.slice a0 W.zOa.n c0) (.slice a1 W.zOa.hn c1) (.int .i64 W.time) (.int .i64 W.next) (.slice a' W.sn c') (.slice a W.pn c) 40);obtain⟨⟨x0,-⟩,⟨x2,-⟩,⟨x4,-⟩,⟨x6,-⟩,⟨x8,-⟩,⟨eA,-⟩⟩:=HB.out;go_enter Tryz.func42,Tryz.ntmps42;go_wp2_with fail;clear x0 x2 x4 x6 x8 eA;generalize w.alloc (.cells #[.slice a0 W.zOa.n c0,.slice a1 W.zOa.hn c1,.int .i64 W.time,.int .i64 W.next,.slice a' W.sn c',.slice a W.pn c] 40)=W0 at ha HB ⊢;refine(yt _ _ lo hi W.zOa W0 (Hp.out.zOa.zOU ha)).mono ?_;rintro e w1 ⟨⟨t1,rfl,ht1⟩,oB⟩;have iB:=zB (HB.out.zOU oB);have bB:=zA ha oB;clear ha HB oB;by_cases hR:zt W.zOa;rotate_left
 ·have HR:=zB hR;obtain rfl:t1=false:=zP ht1 hR;clear ht1 hR;go_wp2;go_ret;exact⟨zK.no fun h=>HR.out h.right,bB⟩
 have HR:=zB hR;obtain rfl:t1=true:=ht1.2 hR;have vC:W.zOa.n<=200:=hR.1;clear ht1 hR;obtain⟨⟨x0,-⟩,⟨x2,-⟩,⟨x4,-⟩,⟨x6,-⟩,⟨x8,-⟩,⟨eA,-⟩⟩:=iB.out;go_wp2_with fail;clear x0 x2 x4 x6 x8 eA;refine(zIP _ _ _ _ lo hi W w1 (Hp.out.zOU bB)).mono ?_;rintro e w2 ⟨⟨t2,rfl,ht2⟩,pB⟩;have jB:=zB (iB.out.zOU pB);have cB:=zA bB pB;clear iB bB pB;by_cases hN:zAh W;rotate_left
 ·have HN:=zB hN;obtain rfl:t2=false:=zP ht2 hN;clear ht2 hN;go_wp2;go_ret;exact⟨zK.no fun h=>HN.out h.zOj,cB⟩
 have HN:=zB hN;obtain rfl:t2=true:=ht2.2 hN;have vB:W.sn<=8:=hN.2.2.1;have aC:W.pn<=20:=hN.2.2.2.1;clear ht2 hN;obtain⟨⟨x0,-⟩,⟨x2,-⟩,⟨x4,-⟩,⟨x6,-⟩,⟨x8,-⟩,⟨eA,-⟩⟩:=jB.out;go_wp2_with fail;clear x0 x2 x4 x6 x8 eA;refine(zHR _ _ _ _ lo hi W w2 (Hp.out.zOU cB) HN.out.prevOk vB aC).mono ?_;rintro e w3 ⟨⟨t3,rfl,ht3⟩,rB⟩;have eC:=zB (jB.out.zOU rB);have mB:=zA cB rB;clear jB cB rB;by_cases hL:∀i,i<W.sn->zB9 W (W.zOd i).name (W.zOd i).zOg (W.zOd i).zOf;rotate_left
 ·have HL:=zB hL;obtain rfl:t3=false:=zP ht3 hL;clear ht3 hL;go_wp2;go_ret;exact⟨zK.no fun h=>HL.out h.lines,mB⟩
 have HL:=zB hL;obtain rfl:t3=true:=ht3.2 hL;clear ht3 hL;go_wp2
 go_loopw [3] (fun i wr=>∃k:Nat,k<=W.pn/\i = .int .i64 k/\(∀j,j<k->qQ W.zOa (W.zOb j).rs (W.zOb j).rb)/\za wr w.heap.size (.slice a0 W.zOa.n c0) (.slice a1 W.zOa.hn c1) (.int .i64 W.time) (.int .i64 W.next) (.slice a' W.sn c') (.slice a W.pn c)/\Below w.heap.size w wr) (fun i _=>W.pn - (intOf i).toNat)
 case atStart=>exact⟨0,Nat.zero_le _,rfl,fun j hj=>absurd hj (Nat.not_lt_zero _),eC.out,mB⟩
 case round=>
  clear eC mB;obtain⟨k,hk,rfl,hall,hX,hb⟩:=hrel;have cA:=zB hall;have HX:=zB hX;clear hall hX;obtain⟨⟨x0,-⟩,⟨x2,-⟩,⟨x4,-⟩,⟨x6,-⟩,⟨x8,-⟩,⟨eA,-⟩⟩:=HX.out;by_cases hlt:k<W.pn
  ·have kA:(k:Int)<(W.pn:Int):=(by omega);obtain⟨b,off,vd,rfl,hs⟩:=(Hp.out.zOb.zOU hb).cells hlt;have q5:=hs.c5;have q6:=hs.c6;clear hs;go_wp2_with fail;go_region_held3 (fun w'=>w'.cell? ⟨w.heap.size,0,none⟩=some (.slice a0 W.zOa.n c0)/\w'.cell? ⟨w.heap.size,1,none⟩=some (.slice a1 W.zOa.hn c1)/\w'.cell? ⟨w.heap.size,2,none⟩=some (.int .i64 W.time)/\w'.cell? ⟨w.heap.size,3,none⟩=some (.int .i64 W.next)/\w'.cell? ⟨w.heap.size,4,none⟩=some (.slice a' W.sn c')/\w'.cell? ⟨w.heap.size,5,none⟩=some (.slice (some ⟨b,off,none⟩) W.pn c)/\w'.cell? ⟨b,off+k*8+5,none⟩=some (.int .i64 (W.zOb k).rs)/\w'.cell? ⟨b,off+k*8+6,none⟩=some (.int .i64 (W.zOb k).rb)) (go_keep)
    (first | (go_at_call 102;refine(zBv _ _ lo hi W.zOa (W.zOb k).rs (W.zOb k).rb _ ?_ HR.out).mono ?_;(exact(Hp.out.zOa.zOU hb).zOU (Below.refl _ _).drew);rintro e w6 ⟨⟨t6,rfl,ht6⟩,aA⟩;obtain⟨⟨y0,_⟩,⟨y1,_⟩,⟨y2,_⟩,⟨y3,_⟩,⟨y4,_⟩,⟨y5,_⟩⟩:=HX.out.zOU (zJ aA);have z5:=(aA.cell (p:=⟨b,off+k*8+5,none⟩) (zD q5)).trans q5;have z6:=(aA.cell (p:=⟨b,off+k*8+6,none⟩) (zD q6)).trans q6))
   have dA:=yw hb aA;have fA:=zB (HX.out.zOU (zJ aA));have Ht:=zB ht6;clear ht6 aA z5 z6 y0 y1 y2 y3 y4 y5 q5 q6 HX x0 x2 x4 x6 x8 eA;cases t6
   ·have Hn:=zB (show ¬qQ W.zOa (W.zOb k).rs (W.zOb k).rb from fun hA=>absurd (Ht.out.2 hA) (by simp));clear Ht;go_wp2;go_ret;exact⟨zK.no fun hA=>Hn.out (hA.zOb k hlt),dA⟩
   ·have Hn:=zB (Ht.out.1 rfl);clear Ht;go_wp2;go_roundw
    case rel=>exact⟨k+1,by omega,by go_num,qE hlt cA.out Hn.out,fA.out,dA⟩
    case measure=>simp[intOf];omega
  obtain rfl:k=W.pn:=(by omega);have aB:=zB cA.out;clear cA;go_wp2;clear x0 x2 x4 x6 x8 eA
  go_loopw [4] (fun i wr=>∃k:Nat,k<=W.sn/\i = .int .i64 k/\(∀j,j<k->qQ W.zOa (W.zOd j).rs (W.zOd j).rb/\zB7 W (W.pn+j))/\za wr w.heap.size (.slice a0 W.zOa.n c0) (.slice a1 W.zOa.hn c1) (.int .i64 W.time) (.int .i64 W.next) (.slice a' W.sn c') (.slice a W.pn c)/\Below w.heap.size w wr) (fun i _=>W.sn - (intOf i).toNat)
  case atStart=>exact⟨0,Nat.zero_le _,rfl,fun j hj=>absurd hj (Nat.not_lt_zero _),HX.out,hb⟩
  case round=>
   clear HX hb hlt hk;obtain⟨k,hk,rfl,hall,hX,hb⟩:=hrel;have cA:=zB hall;have HX:=zB hX;clear hall hX;obtain⟨⟨x0,-⟩,⟨x2,-⟩,⟨x4,-⟩,⟨x6,-⟩,⟨x8,-⟩,⟨eA,-⟩⟩:=HX.out;by_cases hlt:k<W.sn
   ·have kA:(k:Int)<(W.sn:Int):=(by omega);obtain⟨b,off,vd,rfl,hs⟩:=(Hp.out.zOd.zOU hb).cells hlt;have q3:=hs.c2;have q5:=hs.c3;have q6:=hs.c4;have q7:=hs.c5;have rC:=zB hs.zOl;clear hs;by_cases fB:qQ W.zOa (W.zOd k).rs (W.zOd k).rb;rotate_left
    ·have mA:=zB fB;clear fB;go_wp2_with fail;refine wp_region_held_drew (S:=(fun w'=>w'.cell? ⟨w.heap.size,0,none⟩=some (.slice a0 W.zOa.n c0)/\w'.cell? ⟨w.heap.size,1,none⟩=some (.slice a1 W.zOa.hn c1)/\w'.cell? ⟨w.heap.size,2,none⟩=some (.int .i64 W.time)/\w'.cell? ⟨w.heap.size,3,none⟩=some (.int .i64 W.next)/\w'.cell? ⟨w.heap.size,4,none⟩=some (.slice (some ⟨b,off,none⟩) W.sn c')/\w'.cell? ⟨w.heap.size,5,none⟩=some (.slice a W.pn c)/\w'.cell? ⟨b,off+k*6+3,none⟩=some (.int .i64 (W.zOd k).rs)/\w'.cell? ⟨b,off+k*6+4,none⟩=some (.int .i64 (W.zOd k).rb))) (by kernel_rfl) ?_ (fun hHeld=>?_)
     ·(try dsimp only)
      go_keep
     refine tk 0 (h:=tk 1 (h:=tk 2 (h:=tk 3 (h:=tk 4 (h:=tk 5 (h:=tk 6 (h:=tk 7 (h:=?_))))))));refine rd [8] (rc (fun K hK=>?_) .nil);go_simp;go_at_call 102;refine(zBv _ _ lo hi W.zOa (W.zOd k).rs (W.zOd k).rb _ ?_ HR.out).mono ?_
     ·first | exact Hp.out.zOa.zOU hb | exact Hp.out.zOa.zOU hb.drew
     rintro e w6 ⟨⟨t6,rfl,ht6⟩,aA⟩;obtain rfl:t6=false:=zP ht6 mA.out;clear ht6;have bA:Below wr.heap.size wr w6:=(by first | exact aA | exact zJ aA);obtain⟨⟨y0,_⟩,⟨y1,_⟩,⟨y2,_⟩,⟨y3,_⟩,⟨y4,_⟩,⟨y5,_⟩⟩:=HX.out.zOU bA;have z5:=(bA.cell (zD q5)).trans q5;have z6:=(bA.cell (zD q6)).trans q6
     (try go_wp2_with fail)
     refine hK.out _ _ (by(try dsimp only);go_keep) ?_;clear hK K hHeld;intro hHeld
     try simp only[Act.put,s1,s2,s3]
     refine tk 9 (h:=tk 10 (h:=ts 11 (h:=ts 12 (h:=ts 13 (h:=ts 14 (h:=ts 15 (h:=ts 16 (h:=ts 17 (h:=ts 18 (h:=ts 19 (h:=ts 20 (h:=ts 21 (h:=ts 22 (h:=ts 23 (h:=ts 24 (h:=ts 25 (h:=ts 26 (h:=ts 27 (h:=ts 28 (h:=ts 29 (h:=?_)))))))))))))))))))));refine rd [30] (rc (fun K hK=>?_) .nil);split
     ·rename_i bC
      exact absurd (show false=true from bC) Bool.false_ne_true
     refine hK.out _ _ (by assumption) (fun hHeld=>?_);clear hK K
     try simp only[Act.put,s1,s2,s3]
     refine ts 31 (h:=tk 32 (h:=?_));refine wpAnyH_done (by kernel_rfl) ?_ _;have dA:=zA hb bA;clear bA y0 y1 y2 y3 y4 y5 z5 z6;go_wp2;go_ret;exact⟨zK.no fun hA=>mA.out (hA.zOd k hlt).1,dA⟩
    have mA:=zB fB;clear fB;have Hc:=zB (zL6 (Hp.out.zOU hb) HR.out aB.out HN.out.prevOk.pos mA.out rC.out);go_wp2_with fail;go_region_held3 (fun w'=>w'.cell? ⟨w.heap.size,0,none⟩=some (.slice a0 W.zOa.n c0)/\w'.cell? ⟨w.heap.size,1,none⟩=some (.slice a1 W.zOa.hn c1)/\w'.cell? ⟨w.heap.size,2,none⟩=some (.int .i64 W.time)/\w'.cell? ⟨w.heap.size,3,none⟩=some (.int .i64 W.next)/\w'.cell? ⟨w.heap.size,4,none⟩=some (.slice (some ⟨b,off,none⟩) W.sn c')/\w'.cell? ⟨w.heap.size,5,none⟩=some (.slice a W.pn c)/\w'.cell? ⟨b,off+k*6+2,none⟩=some (.int .i64 (W.zOd k).zOg)/\w'.cell? ⟨b,off+k*6+3,none⟩=some (.int .i64 (W.zOd k).rs)/\w'.cell? ⟨b,off+k*6+4,none⟩=some (.int .i64 (W.zOd k).rb)/\w'.cell? ⟨b,off+k*6+5,none⟩=some vd) (go_keep)
     (first
      | (go_at_call 102;refine(zBv _ _ lo hi W.zOa (W.zOd k).rs (W.zOd k).rb _ ?_ HR.out).mono ?_;(exact(Hp.out.zOa.zOU hb).zOU (Below.refl _ _).drew);rintro e w6 ⟨⟨t6,rfl,ht6⟩,aA⟩;obtain rfl:t6=true:=ht6.2 mA.out;clear ht6;obtain⟨⟨y0,_⟩,⟨y1,_⟩,⟨y2,_⟩,⟨y3,_⟩,⟨y4,_⟩,⟨y5,_⟩⟩:=HX.out.zOU (zJ aA);have z3:=(aA.cell (p:=⟨b,off+k*6+2,none⟩) (zD q3)).trans q3;have z5:=(aA.cell (p:=⟨b,off+k*6+3,none⟩) (zD q5)).trans q5;have z6:=(aA.cell (p:=⟨b,off+k*6+4,none⟩) (zD q6)).trans q6;have z7:=(aA.cell (p:=⟨b,off+k*6+5,none⟩) (zD q7)).trans q7)
      | (go_at_call 103;refine(Hc.out _ (zJ aA)).mono ?_;rintro e w7 ⟨⟨t7,rfl,kC⟩,dA⟩;obtain⟨⟨g0,_⟩,⟨g1,_⟩,⟨g2,_⟩,⟨g3,_⟩,⟨g4,_⟩,⟨g5,_⟩⟩:=(HX.out.zOU (zJ aA)).zOU dA;have j3:=(dA.cell (zD z3)).trans z3;have j5:=(dA.cell (zD z5)).trans z5;have j6:=(dA.cell (zD z6)).trans z6;have j7:=(dA.cell (zD z7)).trans z7))
    have jC:=zA (yw hb aA) dA;have pC:=zB ((HX.out.zOU (zJ aA)).zOU dA);have Ht:=zB kC;clear kC aA dA z3 z5 z6 z7 y0 y1 y2 y3 y4 y5 g0 g1 g2 g3 g4 g5 j3 j5 j6 j7 q3 q5 q6 q7 HX x0 x2 x4 x6 x8 eA Hc;cases t7
    ·have Hn:=zB (show ¬zB7 W (W.pn+k)from fun hA=>absurd (Ht.out.2 hA) (by simp));clear Ht;go_wp2;go_ret;exact⟨zK.no fun hA=>Hn.out (hA.zOd k hlt).2,jC⟩
    ·have Hn:=zB (Ht.out.1 rfl);clear Ht;go_wp2;go_roundw
     case rel=>exact⟨k+1,by omega,by go_num,qE hlt cA.out ⟨mA.out,Hn.out⟩,pC.out,jC⟩
     case measure=>simp[intOf];omega
   obtain rfl:k=W.sn:=(by omega);have dC:=zB cA.out;clear cA;go_wp2;clear x0 x2 x4 x6 x8 eA
   go_loopw [5] (fun i wr=>∃k:Nat,k<=W.pn/\i = .int .i64 k/\(∀j,j<k->zB7 W j)/\za wr w.heap.size (.slice a0 W.zOa.n c0) (.slice a1 W.zOa.hn c1) (.int .i64 W.time) (.int .i64 W.next) (.slice a' W.sn c') (.slice a W.pn c)/\Below w.heap.size w wr) (fun i _=>W.pn - (intOf i).toNat)
   case atStart=>exact⟨0,Nat.zero_le _,rfl,fun j hj=>absurd hj (Nat.not_lt_zero _),HX.out,hb⟩
   case round=>
    clear HX hb hlt hk;obtain⟨k,hk,rfl,hall,hX,hb⟩:=hrel;have cA:=zB hall;have HX:=zB hX;clear hall hX;obtain⟨⟨x0,-⟩,⟨x2,-⟩,⟨x4,-⟩,⟨x6,-⟩,⟨x8,-⟩,⟨eA,-⟩⟩:=HX.out;by_cases hlt:k<W.pn
    ·have kA:(k:Int)<(W.pn:Int):=(by omega);obtain⟨b,off,vd,rfl,hs⟩:=(Hp.out.zOb.zOU hb).cells hlt;have q3:=hs.c3;have q5:=hs.c5;have q6:=hs.c6;have q7:=hs.c7;have Hc:=zB (zK2 (Hp.out.zOU hb) HR.out aB.out HN.out.prevOk.pos hlt hs.zOl);clear hs;go_wp2_with fail;go_region_held3 (fun w'=>w'.cell? ⟨w.heap.size,0,none⟩=some (.slice a0 W.zOa.n c0)/\w'.cell? ⟨w.heap.size,1,none⟩=some (.slice a1 W.zOa.hn c1)/\w'.cell? ⟨w.heap.size,2,none⟩=some (.int .i64 W.time)/\w'.cell? ⟨w.heap.size,3,none⟩=some (.int .i64 W.next)/\w'.cell? ⟨w.heap.size,4,none⟩=some (.slice a' W.sn c')/\w'.cell? ⟨w.heap.size,5,none⟩=some (.slice (some ⟨b,off,none⟩) W.pn c)/\w'.cell? ⟨b,off+k*8+3,none⟩=some (.int .i64 (W.zOb k).zOg)/\w'.cell? ⟨b,off+k*8+5,none⟩=some (.int .i64 (W.zOb k).rs)/\w'.cell? ⟨b,off+k*8+6,none⟩=some (.int .i64 (W.zOb k).rb)/\w'.cell? ⟨b,off+k*8+7,none⟩=some vd) (go_keep)
      (first | (go_at_call 103;refine(Hc.out _ ?_).mono ?_;(exact(Below.refl _ _).drew);rintro e w6 ⟨⟨t6,rfl,ht6⟩,aA⟩;obtain⟨⟨y0,_⟩,⟨y1,_⟩,⟨y2,_⟩,⟨y3,_⟩,⟨y4,_⟩,⟨y5,_⟩⟩:=HX.out.zOU (zJ aA);have z3:=(aA.cell (p:=⟨b,off+k*8+3,none⟩) (zD q3)).trans q3;have z5:=(aA.cell (p:=⟨b,off+k*8+5,none⟩) (zD q5)).trans q5;have z6:=(aA.cell (p:=⟨b,off+k*8+6,none⟩) (zD q6)).trans q6;have z7:=(aA.cell (p:=⟨b,off+k*8+7,none⟩) (zD q7)).trans q7))
     have dA:=yw hb aA;have fA:=zB (HX.out.zOU (zJ aA));have Ht:=zB ht6;clear ht6 aA z3 z5 z6 z7 y0 y1 y2 y3 y4 y5 q3 q5 q6 q7 HX x0 x2 x4 x6 x8 eA Hc;cases t6
     ·have Hn:=zB (show ¬zB7 W k from fun hA=>absurd (Ht.out.2 hA) (by simp));clear Ht;go_wp2;go_ret;exact⟨zK.no fun hA=>Hn.out (hA.zOl k hlt),dA⟩
     ·have Hn:=zB (Ht.out.1 rfl);clear Ht;go_wp2;go_roundw
      case rel=>exact⟨k+1,by omega,by go_num,qE hlt cA.out Hn.out,fA.out,dA⟩
      case measure=>simp[intOf];omega
    obtain rfl:k=W.pn:=(by omega);have lC:=zB cA.out;have gB:=zB (zHD HR.out HN.out aB.out (fun i hi=>(dC.out i hi).1));clear cA;go_wp2_with fail;clear x0 x2 x4 x6 x8 eA;refine(zIR _ _ _ _ lo hi W _ (Hp.out.zOU hb) gB.out vB aC).mono ?_;rintro e w4 ⟨R,f,rfl,sC,sA,iC,sB⟩;have fC:=zB (HX.out.zOU sB);have iA:=zB sA;have nC:=zB iC;have gC:=zA hb sB;have tC:w.heap.size<=R:=(by have:=hb.size;omega);clear HX hb sB sA iC hlt hk sC;go_wp2
    go_loopw [7] (fun i wr=>∃k:Nat,k<=W.zOa.n/\i = .int .i64 k/\(∀j,j<k->(zEI W j↔(¬qJ (W.zOa.s j)/\¬Has W.zOa.hn W.zOa.h j)))/\za wr w.heap.size (.slice a0 W.zOa.n c0) (.slice a1 W.zOa.hn c1) (.int .i64 W.time) (.int .i64 W.next) (.slice a' W.sn c') (.slice a W.pn c)/\yP wr R W.zOa.n f/\Below w.heap.size w wr) (fun i _=>W.zOa.n - (intOf i).toNat)
    case atStart=>exact⟨0,Nat.zero_le _,rfl,fun j hj=>absurd hj (Nat.not_lt_zero _),fC.out,iA.out,gC⟩
    case round=>
     clear fC iA gC;obtain⟨k,hk,rfl,hall,hX,sA,hb⟩:=hrel;have cA:=zB hall;have HX:=zB hX;have iA:=zB sA;clear hall hX sA;obtain⟨⟨x0,-⟩,⟨x2,-⟩,⟨x4,-⟩,⟨x6,-⟩,⟨x8,-⟩,⟨eA,-⟩⟩:=HX.out;by_cases hlt:k<W.zOa.n
     ·have kA:(k:Int)<(W.zOa.n:Int):=(by omega);obtain⟨b,off,ka,kc,rfl,tA⟩:=(Hp.out.zOa.1.zOU hb).cells hlt;have q0:=tA.c0;have q1:=tA.c1;have q2:=tA.c2;have lB:=zB tA.slot;have qr:=(iA.out k hlt).1;clear tA;have cC:=zB (Hp.out.zOa.2.zOU hb);have lA:=zB (nC.out k);by_cases dB:qJ (W.zOa.s k)
      ·have gA:=zB dB;clear dB;go_wp2_with fail;refine wp_region_held_drew (S:=(fun w'=>w'.cell? ⟨w.heap.size,0,none⟩=some (.slice (some ⟨b,off,none⟩) W.zOa.n c0)/\w'.cell? ⟨w.heap.size,1,none⟩=some (.slice a1 W.zOa.hn c1)/\w'.cell? ⟨w.heap.size,2,none⟩=some (.int .i64 W.time)/\w'.cell? ⟨w.heap.size,3,none⟩=some (.int .i64 W.next)/\w'.cell? ⟨w.heap.size,4,none⟩=some (.slice a' W.sn c')/\w'.cell? ⟨w.heap.size,5,none⟩=some (.slice a W.pn c)/\w'.cell? ⟨R,k,none⟩=some (.bool (f k))/\w'.cell? ⟨b,off+k*3,none⟩=some (.int .i64 (W.zOa.s k).zOh)/\w'.cell? ⟨b,off+k*3+1,none⟩=some (.slice ka (W.zOa.s k).kn kc)/\w'.cell? ⟨b,off+k*3+2,none⟩=some (.string (W.zOa.s k).data))) (by kernel_rfl) ?_ (fun hHeld=>?_)
       ·(try dsimp only)
        go_keep
       refine tk 0 (h:=tk 1 (h:=tk 2 (h:=tk 3 (h:=tk 4 (h:=tk 5 (h:=tk 6 (h:=tk 7 (h:=tk 8 (h:=tk 9 (h:=?_))))))))));refine rd [10] (rc (fun K hK=>?_) .nil);go_simp;go_at_call 65;refine(qb _ _ _ lo hi (W.zOa.s k) _ ?_).mono ?_
       ·exact lB.out.zOU (zV (Below.refl _ _) 1)
       rintro e w6 ⟨⟨t6,rfl,ht6⟩,aA⟩;obtain rfl:t6=true:=ht6.2 gA.out;clear ht6;have bA:Below wr.heap.size wr w6:=(by first | exact aA | exact zJ aA);obtain⟨⟨y0,_⟩,⟨y1,_⟩,⟨y2,_⟩,⟨y3,_⟩,⟨y4,_⟩,⟨y5,_⟩⟩:=HX.out.zOU bA;have z0:=(bA.cell (zD q0)).trans q0;have z1:=(bA.cell (zD q1)).trans q1;have z2:=(bA.cell (zD q2)).trans q2;have z3:=(bA.cell (zD qr)).trans qr
       (try go_wp2_with fail)
       refine hK.out _ _ (by(try dsimp only);go_keep) ?_;clear hK K hHeld;intro hHeld
       try simp only[Act.put,s1,s2,s3]
       refine tk 11 (h:=tk 12 (h:=ts 13 (h:=ts 14 (h:=ts 15 (h:=ts 16 (h:=?_))))));refine rd [17] (rc (fun K hK=>?_) .nil);split
       ·rename_i bC
        exact absurd (show false=true from bC) Bool.false_ne_true
       refine hK.out _ _ (by assumption) (fun hHeld=>?_);clear hK K
       try simp only[Act.put,s1,s2,s3]
       refine ts 18 (h:=tk 19 (h:=tk 20 (h:=?_)));refine wpAnyH_done (by kernel_rfl) ?_ _;have dA:=zA hb bA;have fA:=zB (HX.out.zOU bA);have oA:=zB (iA.out.zOU bA);clear bA y0 y1 y2 y3 y4 y5 z0 z1 z2 z3;cases hfk:f k
       ·have rA:=zB (show zEI W k↔(¬qJ (W.zOa.s k)/\¬Has W.zOa.hn W.zOa.h k)from⟨fun h=>absurd (lA.out.2 h) (by simp[hfk]),fun h=>absurd gA.out h.1⟩);rw[hfk]at *;go_wp2;go_roundw
        case rel=>exact⟨k+1,by omega,by go_num,qE hlt cA.out rA.out,fA.out,oA.out,dA⟩
        case measure=>simp[intOf];omega
       ·have pA:=zB (show ¬zDr W from fun h=>((h k hlt).1 (lA.out.1 hfk)).1 gA.out);rw[hfk]at *;go_wp2;go_ret;exact⟨zK.no fun hA=>pA.out hA.reach,dA⟩
      ·have gA:=zB dB;clear dB;by_cases eB:Has W.zOa.hn W.zOa.h k
       ·have jA:=zB eB;clear eB;go_wp2_with fail;go_region_held3 (fun w'=>w'.cell? ⟨w.heap.size,0,none⟩=some (.slice (some ⟨b,off,none⟩) W.zOa.n c0)/\w'.cell? ⟨w.heap.size,1,none⟩=some (.slice a1 W.zOa.hn c1)/\w'.cell? ⟨w.heap.size,2,none⟩=some (.int .i64 W.time)/\w'.cell? ⟨w.heap.size,3,none⟩=some (.int .i64 W.next)/\w'.cell? ⟨w.heap.size,4,none⟩=some (.slice a' W.sn c')/\w'.cell? ⟨w.heap.size,5,none⟩=some (.slice a W.pn c)/\w'.cell? ⟨R,k,none⟩=some (.bool (f k))/\w'.cell? ⟨b,off+k*3,none⟩=some (.int .i64 (W.zOa.s k).zOh)/\w'.cell? ⟨b,off+k*3+1,none⟩=some (.slice ka (W.zOa.s k).kn kc)/\w'.cell? ⟨b,off+k*3+2,none⟩=some (.string (W.zOa.s k).data)) (go_keep)
         (first
          | (go_at_call 65;refine(qb _ _ _ lo hi (W.zOa.s k) _ ?_).mono ?_;(exact lB.out.zOU (Below.refl _ _).drew);rintro e w6 ⟨⟨t6,rfl,ht6⟩,aA⟩;obtain rfl:t6=false:=zP ht6 gA.out;clear ht6;have bA:=zJ aA;obtain⟨⟨y0,_⟩,⟨y1,_⟩,⟨y2,_⟩,⟨y3,_⟩,⟨y4,_⟩,⟨y5,_⟩⟩:=HX.out.zOU bA;have z0:=(bA.cell (zD q0)).trans q0;have z1:=(bA.cell (zD q1)).trans q1;have z2:=(bA.cell (zD q2)).trans q2;have z3:=(bA.cell (zD qr)).trans qr)
          | (go_at_call 105;refine(zAT _ W.zOa.hn lo hi W.zOa.h k _ (cC.out.zOU bA)).mono ?_;rintro e w8 ⟨⟨t8,rfl,vA⟩,rfl⟩;obtain rfl:t8=true:=vA.2 jA.out;clear vA))
        have dA:=zA hb bA;have fA:=zB (HX.out.zOU bA);have oA:=zB (iA.out.zOU bA);clear bA y0 y1 y2 y3 y4 y5 z0 z1 z2 z3;cases hfk:f k
        ·have rA:=zB (show zEI W k↔(¬qJ (W.zOa.s k)/\¬Has W.zOa.hn W.zOa.h k)from⟨fun h=>absurd (lA.out.2 h) (by simp[hfk]),fun h=>absurd jA.out h.2⟩);rw[hfk]at *;go_wp2;go_roundw
         case rel=>exact⟨k+1,by omega,by go_num,qE hlt cA.out rA.out,fA.out,oA.out,dA⟩
         case measure=>simp[intOf];omega
        ·have pA:=zB (show ¬zDr W from fun h=>((h k hlt).1 (lA.out.1 hfk)).2 jA.out);rw[hfk]at *;go_wp2;go_ret;exact⟨zK.no fun hA=>pA.out hA.reach,dA⟩
       ·have jA:=zB eB;clear eB;go_wp2_with fail;go_region_held3 (fun w'=>w'.cell? ⟨w.heap.size,0,none⟩=some (.slice (some ⟨b,off,none⟩) W.zOa.n c0)/\w'.cell? ⟨w.heap.size,1,none⟩=some (.slice a1 W.zOa.hn c1)/\w'.cell? ⟨w.heap.size,2,none⟩=some (.int .i64 W.time)/\w'.cell? ⟨w.heap.size,3,none⟩=some (.int .i64 W.next)/\w'.cell? ⟨w.heap.size,4,none⟩=some (.slice a' W.sn c')/\w'.cell? ⟨w.heap.size,5,none⟩=some (.slice a W.pn c)/\w'.cell? ⟨R,k,none⟩=some (.bool (f k))/\w'.cell? ⟨b,off+k*3,none⟩=some (.int .i64 (W.zOa.s k).zOh)/\w'.cell? ⟨b,off+k*3+1,none⟩=some (.slice ka (W.zOa.s k).kn kc)/\w'.cell? ⟨b,off+k*3+2,none⟩=some (.string (W.zOa.s k).data)) (go_keep)
         (first
          | (go_at_call 65;refine(qb _ _ _ lo hi (W.zOa.s k) _ ?_).mono ?_;(exact lB.out.zOU (Below.refl _ _).drew);rintro e w6 ⟨⟨t6,rfl,ht6⟩,aA⟩;obtain rfl:t6=false:=zP ht6 gA.out;clear ht6;have bA:=zJ aA;obtain⟨⟨y0,_⟩,⟨y1,_⟩,⟨y2,_⟩,⟨y3,_⟩,⟨y4,_⟩,⟨y5,_⟩⟩:=HX.out.zOU bA;have z0:=(bA.cell (zD q0)).trans q0;have z1:=(bA.cell (zD q1)).trans q1;have z2:=(bA.cell (zD q2)).trans q2;have z3:=(bA.cell (zD qr)).trans qr)
          | (go_at_call 105;refine(zAT _ W.zOa.hn lo hi W.zOa.h k _ (cC.out.zOU bA)).mono ?_;rintro e w8 ⟨⟨t8,rfl,vA⟩,rfl⟩;obtain rfl:t8=false:=zP vA jA.out;clear vA))
        have dA:=zA hb bA;have fA:=zB (HX.out.zOU bA);have oA:=zB (iA.out.zOU bA);clear bA y0 y1 y2 y3 y4 y5 z0 z1 z2 z3;cases hfk:f k
        ·have pA:=zB (show ¬zDr W from fun h=>absurd (lA.out.2 ((h k hlt).2 ⟨gA.out,jA.out⟩)) (by simp[hfk]));rw[hfk]at *;go_wp2;go_ret;exact⟨zK.no fun hA=>pA.out hA.reach,dA⟩
        ·have rA:=zB (show zEI W k↔(¬qJ (W.zOa.s k)/\¬Has W.zOa.hn W.zOa.h k)from⟨fun _=>⟨gA.out,jA.out⟩,fun _=>lA.out.1 hfk⟩);rw[hfk]at *;go_wp2;go_roundw
         case rel=>exact⟨k+1,by omega,by go_num,qE hlt cA.out rA.out,fA.out,oA.out,dA⟩
         case measure=>simp[intOf];omega
     ·obtain rfl:k=W.zOa.n:=(by omega);have mC:=zB (show zDr W from cA.out);clear cA;go_wp2_with fail;clear x0 x2 x4 x6 x8 eA;refine(zI8 _ _ _ _ lo hi W _ (Hp.out.zOU hb) gB.out HN.out.prevOk.pos).mono ?_;rintro e w5 ⟨⟨t5,rfl,ht5⟩,tB⟩;have oC:=zB (HX.out.zOU tB);have nB:=zA hb tB;clear HX hb tB;by_cases nA:∀i,i<qf W->zB6 W i;rotate_left
      ·have kB:=zB nA;obtain rfl:t5=false:=zP ht5 nA;clear ht5 nA;go_wp2;go_ret;exact⟨zK.no fun hA=>kB.out hA.born,nB⟩
      have kB:=zB nA;obtain rfl:t5=true:=ht5.2 nA;clear ht5 nA;obtain⟨⟨x0,-⟩,⟨x2,-⟩,⟨x4,-⟩,⟨x6,-⟩,⟨x8,-⟩,⟨eA,-⟩⟩:=oC.out;go_wp2_with fail;clear x0 x2 x4 x6 x8 eA;refine(zIO _ _ _ _ lo hi W _ (Hp.out.zOU nB) gB.out HN.out.prevOk.pos vB aC).mono ?_;rintro e w6 ⟨⟨t6,rfl,ht6⟩,aA⟩;have Ht:=zB ht6;clear ht6;go_wp2;go_ret;exact⟨⟨t6,rfl,Ht.out.trans ⟨fun hA=>⟨HR.out,HN.out,HL.out,aB.out,dC.out,lC.out,mC.out,kB.out,hA⟩,fun hA=>hA.zOk⟩⟩,zA nB aA⟩
end Go.Proofs.YtgabgheflgjgiaaGreatDoor
