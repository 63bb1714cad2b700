/- A part of the proof. -/
import Derived.Test.YtgabgheflgjgiaaGreatDoorV12
import Derived.IntWalk
set_option linter.unusedVariables false
set_option maxRecDepth 20000
set_option maxHeartbeats 8000000
namespace Go.Proofs.YtgabgheflgjgiaaGreatDoor
open Go.RowKit Go.Maps
theorem zIP(v0 v1 v2 v3:Value)(lo hi:Nat)(W:zH)(w:World)(h:zr w lo hi v0 v1 v2 v3 W) :
  Calls Tryz.prog 100 #[qT v0 v1 v2 v3 W] w fun e w'=>zK (zAh W) e/\Below w.heap.size w w':=by
 have Hp:=zB h;obtain⟨m1,a,c,rfl,mc,-⟩:=id h.zOb;obtain⟨m2,a',c',rfl,iD,-⟩:=id h.zOd;unfold maxLen at m1 m2;clear h;have ha:=zC w (.cells #[v0,v1,.int .i64 W.time,.int .i64 W.next,.slice a' W.sn c',.slice a W.pn c] 40);have HB:=zB (za.zOY w v0 v1 (.int .i64 W.time) (.int .i64 W.next) (.slice a' W.sn c') (.slice a W.pn c) 40);obtain⟨⟨x0,x1⟩,⟨x2,x3⟩,⟨x4,x5⟩,⟨x6,x7⟩,⟨x8,x9⟩,⟨tA,eB⟩⟩:=HB.out;by_cases hT:zCP W.time 1 900000;rotate_left
 ·have HT:=zB hT;clear hT;go_enter Tryz.func100,Tryz.ntmps100;go_wp2_with fail;refine(zA0 _ _ _ _).mono ?_;rintro e w1 ⟨⟨t,rfl,ht⟩,rfl⟩;obtain rfl:t=false:=zP ht HT.out;clear ht;go_wp2;go_ret;exact⟨zK.no fun h=>HT.out h.1,ha⟩
 have HT:=zB hT;clear hT;by_cases hN:zCP W.next 1 900000;rotate_left
 ·have HN:=zB hN;clear hN;go_enter Tryz.func100,Tryz.ntmps100;go_wp2_with fail;refine(zA0 _ _ _ _).mono ?_;rintro e w1 ⟨⟨t,rfl,ht⟩,rfl⟩;obtain rfl:t=true:=ht.2 HT.out;clear ht;go_wp2_with fail;refine(zA0 _ _ _ _).mono ?_;rintro e w1 ⟨⟨t,rfl,ht⟩,rfl⟩;obtain rfl:t=false:=zP ht HN.out;clear ht;go_wp2;go_ret;exact⟨zK.no fun h=>HN.out h.2.1,ha⟩
 have HN:=zB hN;clear hN;go_enter Tryz.func100,Tryz.ntmps100;go_wp2_with fail;refine(zA0 _ _ _ _).mono ?_;rintro e w1 ⟨⟨t,rfl,ht⟩,rfl⟩;obtain rfl:t=true:=ht.2 HT.out;clear ht;go_wp2_with fail;refine(zA0 _ _ _ _).mono ?_;rintro e w1 ⟨⟨t,rfl,ht⟩,rfl⟩;obtain rfl:t=true:=ht.2 HN.out;clear ht;by_cases hs:W.sn<=8;rotate_left
 ·have cD:(8:Int)<(W.sn:Int):=(by omega);go_wp2;go_ret;exact⟨zK.no fun h=>hs h.2.2.1,ha⟩
 have cD:¬(8:Int)<(W.sn:Int):=by omega
 by_cases hp:W.pn<=20;rotate_left
 ·have bD:(20:Int)<(W.pn:Int):=(by omega);go_wp2;go_ret;exact⟨zK.no fun h=>hp h.2.2.2.1,ha⟩
 have bD:¬(20:Int)<(W.pn:Int):=by omega
 go_wp2;clear x0 x1 x2 x3 x4 x5 x6 x7 x8 x9 tA eB
 go_loopw [3] (fun i wr=>∃k:Nat,k<=W.sn/\i = .int .i64 k/\(∀j,j<k->zD6 W j)/\za wr w.heap.size v0 v1 (.int .i64 W.time) (.int .i64 W.next) (.slice a' W.sn c') (.slice a W.pn c)/\Below w.heap.size w wr) (fun i _=>W.sn - (intOf i).toNat)
 case atStart=>exact⟨0,Nat.zero_le _,rfl,fun j hj=>absurd hj (Nat.not_lt_zero _),HB.out,ha⟩
 case round=>
  obtain⟨k,hk,rfl,hall,hX,hb⟩:=hrel;have mA:=zB hall;have HX:=zB hX;clear hall hX ha HB;by_cases hlt:k<W.sn
  ·have vB:(k:Int)<(W.sn:Int):=(by omega);have rC:=zB ((Hp.out.zOd.zOU hb));obtain⟨b,off,vd,rfl,hs2⟩:=(Hp.out.zOd.zOU hb).cells hlt;obtain⟨-,ad,cd,rfl,-,-⟩:=id hs2.zOl;have bB:=zC wr (.cells #[.string (W.zOd k).name,.int .i64 (W.zOd k).zOf,.int .i64 (W.zOd k).zOg,.int .i64 (W.zOd k).rs,.int .i64 (W.zOd k).rb,.slice ad (W.zOd k).dn cd] 102);have iA:=zB (HX.out.zOU bB);have lA:=zB (za.zOY wr (.string (W.zOd k).name) (.int .i64 (W.zOd k).zOf) (.int .i64 (W.zOd k).zOg) (.int .i64 (W.zOd k).rs) (.int .i64 (W.zOd k).rb) (.slice ad (W.zOd k).dn cd) 102);have eA:=zA hb bB;have q0:=hs2.c0;have q1:=hs2.c1;have q2:=hs2.c2;have q3:=hs2.c3;have q4:=hs2.c4;have q5:=hs2.c5;have rB:=hs2.zOm;have qn:(wr.alloc (.cells #[.string (W.zOd k).name,.int .i64 (W.zOd k).zOf,.int .i64 (W.zOd k).zOg,.int .i64 (W.zOd k).rs,.int .i64 (W.zOd k).rb,.slice ad (W.zOd k).dn cd] 102)).cell? ⟨b,off+(k - 1)*6,none⟩=some (.string (W.zOd (k - 1)).name):=by
    obtain⟨b',bC,eD,e,hs3⟩:=((Hp.out.zOd.zOU hb).zOU bB).cells (show k - 1<W.sn by omega);cases e;exact hs3.c0
   obtain⟨⟨x0,x1⟩,⟨x2,x3⟩,⟨x4,x5⟩,⟨x6,x7⟩,⟨x8,x9⟩,⟨tA,eB⟩⟩:=HX.out;go_wp2_with fail;clear x0 x1 x2 x3 x4 x5 x6 x7 x8 x9 tA eB q0 q1 q2 q3 q4 q5 hs2;generalize wr.alloc (.cells #[.string (W.zOd k).name,.int .i64 (W.zOd k).zOf,.int .i64 (W.zOd k).zOg,.int .i64 (W.zOd k).rs,.int .i64 (W.zOd k).rb,.slice ad (W.zOd k).dn cd] 102)=W5 at iA lA eA bB qn ⊢;obtain⟨⟨x0,-⟩,⟨x2,-⟩,⟨x4,-⟩,⟨x6,-⟩,⟨x8,-⟩,⟨tA,-⟩⟩:=iA.out;obtain⟨⟨y0,-⟩,⟨y1,-⟩,⟨y2,-⟩,-⟩:=lA.out
   as_aux_lemma=>
   refine wp_region_held_drew (S:=(fun w'=>w'.cell? ⟨w.heap.size,0,none⟩=some v0/\w'.cell? ⟨w.heap.size,1,none⟩=some v1/\w'.cell? ⟨w.heap.size,2,none⟩=some (.int .i64 W.time)/\w'.cell? ⟨w.heap.size,3,none⟩=some (.int .i64 W.next)/\w'.cell? ⟨w.heap.size,4,none⟩=some (.slice (some ⟨b,off,none⟩) W.sn c')/\w'.cell? ⟨w.heap.size,5,none⟩=some (.slice a W.pn c)/\w'.cell? ⟨wr.heap.size,0,none⟩=some (.string (W.zOd k).name)/\w'.cell? ⟨wr.heap.size,1,none⟩=some (.int .i64 (W.zOd k).zOf)/\w'.cell? ⟨wr.heap.size,2,none⟩=some (.int .i64 (W.zOd k).zOg)/\w'.cell? ⟨b,off+(k - 1)*6,none⟩=some (.string (W.zOd (k - 1)).name))) (by kernel_rfl) ?_ (fun hHeld=>?_)
   ·(try dsimp only)
    go_keep
   refine tk 0 (h:=tk 1 (h:=?_));by_cases hA:qV (W.zOd k).name;rotate_left
   ·as_aux_lemma=>
    have Hn:=zB (show ¬zD6 W k from fun h=>hA h.1);have HA:=zB hA;clear hA;refine rd [2] (rc (fun K hK=>?_) .nil);go_simp;go_at_call 43;refine(zAk (W.zOd k).name _ rB).mono ?_;rintro e wn ⟨⟨tn,rfl,vA⟩,rfl⟩;obtain rfl:tn=false:=zP vA HA.out;clear vA
    (try go_wp2_with fail)
    refine hK.out _ _ (by(try dsimp only);go_keep) ?_;clear hK K hHeld;intro hHeld
    try simp only[Act.put,s1,s2,s3]
    have fA:Below W5.heap.size W5 W5.drew:=(Below.refl _ _).drew;refine tk 3 (h:=tk 4 (h:=ts 5 (h:=ts 6 (h:=ts 7 (h:=ts 8 (h:=ts 9 (h:=ts 10 (h:=ts 11 (h:=ts 12 (h:=ts 13 (h:=ts 14 (h:=ts 15 (h:=ts 16 (h:=ts 17 (h:=ts 18 (h:=tk 19 (h:=tk 20 (h:=ts 21 (h:=ts 22 (h:=ts 23 (h:=ts 24 (h:=ts 25 (h:=ts 26 (h:=ts 27 (h:=?_)))))))))))))))))))))))));refine rd [28] (rc (fun K hK=>?_) .nil);split
    ·rename_i gA
     exact absurd (show false=true from gA) Bool.false_ne_true
    refine hK.out _ _ (by assumption) (fun hHeld=>?_);clear hK K
    try simp only[Act.put,s1,s2,s3]
    refine ts 29 (h:=ts 30 (h:=tk 31 (h:=tk 32 (h:=ts 33 (h:=ts 34 (h:=ts 35 (h:=ts 36 (h:=ts 37 (h:=ts 38 (h:=ts 39 (h:=?_)))))))))));refine rd [40] (rc (fun K hK=>?_) .nil);split
    ·rename_i gA
     exact absurd (show false=true from gA) Bool.false_ne_true
    refine hK.out _ _ (by assumption) (fun hHeld=>?_);clear hK K
    try simp only[Act.put,s1,s2,s3]
    refine ts 41 (h:=ts 42 (h:=tk 43 (h:=?_)));refine wpAnyH_done (by kernel_rfl) ?_ _;go_wp2;go_ret;exact⟨zK.no fun hA=>Hn.out (hA.2.2.2.2.1 k hlt),zA eA fA⟩
   as_aux_lemma=>
   have HA:=zB hA;clear hA;refine rd [2] (rc (fun K hK=>?_) .nil);go_simp;go_at_call 43;refine(zAk (W.zOd k).name _ rB).mono ?_;rintro e wn ⟨⟨tn,rfl,vA⟩,rfl⟩;obtain rfl:tn=true:=vA.2 HA.out;clear vA
   (try go_wp2_with fail)
   refine hK.out _ _ (by(try dsimp only);go_keep) ?_;clear hK K hHeld;intro hHeld
   try simp only[Act.put,s1,s2,s3]
   have fA:Below W5.heap.size W5 W5.drew:=(Below.refl _ _).drew;refine tk 3 (h:=tk 4 (h:=tk 5 (h:=?_)));by_cases lB:0<k;rotate_left
   ·as_aux_lemma=>
    have tB:decide ((0:Int)<(k:Int))=false:=(by simp;omega);have aB:=zB (show 0<k->zAM (W.zOd (k - 1)).name (W.zOd k).name from fun h=>absurd h lB);refine tk 6 (h:=tk 7 (h:=ts 8 (h:=ts 9 (h:=ts 10 (h:=ts 11 (h:=ts 12 (h:=ts 13 (h:=ts 14 (h:=ts 15 (h:=ts 16 (h:=ts 17 (h:=tk 18 (h:=tk 19 (h:=tk 20 (h:=tk 21 (h:=tk 22 (h:=?_)))))))))))))))));by_cases hz:(W.zOd k).zOg=0
    ·as_aux_lemma=>
     have nA:((W.zOd k).zOg == 0)=true:=(by simp[hz]);have oA:decide ((W.zOd k).zOg=0)=true:=(by simp[hz]);have pA:((W.zOd k).zOg != 0)=false:=(by simp[hz]);have sA:=zB (show(W.zOd k).zOg≠0->qL W (W.zOd k).zOg from fun h=>absurd hz h);clear hz;refine tk 23 (h:=tk 24 (h:=ts 25 (h:=ts 26 (h:=ts 27 (h:=?_)))));refine rd [28] (rc (fun K hK=>?_) .nil);split
     ·rename_i gA
      exact absurd (show false=true from gA) Bool.false_ne_true
     refine hK.out _ _ (by assumption) (fun hHeld=>?_);clear hK K
     try simp only[Act.put,s1,s2,s3]
     refine ts 29 (h:=tk 30 (h:=tk 31 (h:=?_)));clear nA oA pA;refine tk 32 (h:=tk 33 (h:=tk 34 (h:=?_)));by_cases hz:(W.zOd k).zOf=0
     ·as_aux_lemma=>
      have nA:((W.zOd k).zOf == 0)=true:=(by simp[hz]);have oA:decide ((W.zOd k).zOf=0)=true:=(by simp[hz]);have pA:((W.zOd k).zOf != 0)=false:=(by simp[hz]);have rA:=zB (show(W.zOd k).zOf≠0->qL W (W.zOd k).zOf from fun h=>absurd hz h);clear hz;refine tk 35 (h:=tk 36 (h:=ts 37 (h:=ts 38 (h:=ts 39 (h:=?_)))));refine rd [40] (rc (fun K hK=>?_) .nil);split
      ·rename_i gA
       exact absurd (show false=true from gA) Bool.false_ne_true
      refine hK.out _ _ (by assumption) (fun hHeld=>?_);clear hK K
      try simp only[Act.put,s1,s2,s3]
      refine ts 41 (h:=tk 42 (h:=tk 43 (h:=?_)));refine wpAnyH_done (by kernel_rfl) ?_ _;go_wp2;go_roundw
      case rel=>exact⟨k+1,by omega,by go_num,qE hlt mA.out ⟨HA.out,aB.out,sA.out,rA.out⟩,iA.out.zOU fA,(zA eA fA)⟩
      case measure=>simp[intOf];omega
     as_aux_lemma=>
     have nA:((W.zOd k).zOf == 0)=false:=(by simp[hz]);have oA:decide ((W.zOd k).zOf=0)=false:=(by simp[hz]);have pA:((W.zOd k).zOf != 0)=true:=(by simp[hz]);have Hz:=zB hz;clear hz;refine tk 35 (h:=tk 36 (h:=tk 37 (h:=tk 38 (h:=tk 39 (h:=?_)))));by_cases dA:qL W (W.zOd k).zOf;rotate_left
     ·as_aux_lemma=>
      have bA:=zB dA;have Hn:=zB (show ¬zD6 W k from fun h=>dA (h.2.2.2 Hz.out));clear dA;refine rd [40] (rc (fun K hK=>?_) .nil);go_simp;go_at_call 52;refine(zm v0 v1 _ _ lo hi W (W.zOd k).zOf _ ?_).mono ?_
      ·exact Hp.out.zOU (zA eA fA)
      rintro e wo ⟨r,rfl,hF,kA⟩;have hf:=qY hF;replace hf:=hf.resolve_left (fun h=>bA.out h.1);have hr:decide (r<0)=true:=(by rw[hf.2];rfl);clear hF;have cA:Below W5.heap.size W5 wo:=zA fA kA;obtain⟨⟨k0,_⟩,⟨k1,_⟩,⟨k2,_⟩,⟨k3,_⟩,⟨k4,_⟩,⟨k5,_⟩⟩:=iA.out.zOU cA;obtain⟨⟨l0,_⟩,⟨l1,_⟩,⟨l2,_⟩,_⟩:=lA.out.zOU cA;have n0:=(cA.cell (zD qn)).trans qn
      (try go_wp2_with fail)
      refine hK.out _ _ (by(try dsimp only);go_keep) ?_;clear hK K hHeld;intro hHeld
      try simp only[Act.put,s1,s2,s3]
      refine tk 41 (h:=tk 42 (h:=tk 43 (h:=?_)));refine wpAnyH_done (by kernel_rfl) ?_ _;go_wp2;go_ret;exact⟨zK.no fun hA=>Hn.out (hA.2.2.2.2.1 k hlt),zA eA cA⟩
     as_aux_lemma=>
     have bA:=zB dA;have rA:=zB (show(W.zOd k).zOf≠0->qL W (W.zOd k).zOf from fun _=>dA);clear dA;refine rd [40] (rc (fun K hK=>?_) .nil);go_simp;go_at_call 52;refine(zm v0 v1 _ _ lo hi W (W.zOd k).zOf _ ?_).mono ?_
     ·exact Hp.out.zOU (zA eA fA)
     rintro e wo ⟨r,rfl,hF,kA⟩;have hf:=qY hF;replace hf:=hf.resolve_right (fun h=>h.1 bA.out);have hr:decide (r<0)=false:=(by have:=hf.2.1;simp;omega);clear hF;have cA:Below W5.heap.size W5 wo:=zA fA kA;obtain⟨⟨k0,_⟩,⟨k1,_⟩,⟨k2,_⟩,⟨k3,_⟩,⟨k4,_⟩,⟨k5,_⟩⟩:=iA.out.zOU cA;obtain⟨⟨l0,_⟩,⟨l1,_⟩,⟨l2,_⟩,_⟩:=lA.out.zOU cA;have n0:=(cA.cell (zD qn)).trans qn
     (try go_wp2_with fail)
     refine hK.out _ _ (by(try dsimp only);go_keep) ?_;clear hK K hHeld;intro hHeld
     try simp only[Act.put,s1,s2,s3]
     refine tk 41 (h:=tk 42 (h:=tk 43 (h:=?_)));refine wpAnyH_done (by kernel_rfl) ?_ _;go_wp2;go_roundw
     case rel=>exact⟨k+1,by omega,by go_num,qE hlt mA.out ⟨HA.out,aB.out,sA.out,rA.out⟩,iA.out.zOU cA,zA eA cA⟩
     case measure=>simp[intOf];omega
    as_aux_lemma=>
    have nA:((W.zOd k).zOg == 0)=false:=(by simp[hz]);have oA:decide ((W.zOd k).zOg=0)=false:=(by simp[hz]);have pA:((W.zOd k).zOg != 0)=true:=(by simp[hz]);have Hz:=zB hz;clear hz;refine tk 23 (h:=tk 24 (h:=tk 25 (h:=tk 26 (h:=tk 27 (h:=?_)))));by_cases dA:qL W (W.zOd k).zOg;rotate_left
    ·as_aux_lemma=>
     have jA:=zB dA;have Hn:=zB (show ¬zD6 W k from fun h=>dA (h.2.2.1 Hz.out));clear dA;refine rd [28] (rc (fun K hK=>?_) .nil);go_simp;go_at_call 52;refine(zm v0 v1 _ _ lo hi W (W.zOd k).zOg _ ?_).mono ?_
     ·exact Hp.out.zOU (zA eA fA)
     rintro e wp ⟨r,rfl,hF,kA⟩;have hf:=qY hF;replace hf:=hf.resolve_left (fun h=>jA.out h.1);have hr:decide (r<0)=true:=(by rw[hf.2];rfl);clear hF;have aA:Below W5.heap.size W5 wp:=zA fA kA;obtain⟨⟨k0,_⟩,⟨k1,_⟩,⟨k2,_⟩,⟨k3,_⟩,⟨k4,_⟩,⟨k5,_⟩⟩:=iA.out.zOU aA;obtain⟨⟨l0,_⟩,⟨l1,_⟩,⟨l2,_⟩,_⟩:=lA.out.zOU aA;have n0:=(aA.cell (zD qn)).trans qn
     (try go_wp2_with fail)
     refine hK.out _ _ (by(try dsimp only);go_keep) ?_;clear hK K hHeld;intro hHeld
     try simp only[Act.put,s1,s2,s3]
     refine tk 29 (h:=tk 30 (h:=tk 31 (h:=tk 32 (h:=ts 33 (h:=ts 34 (h:=ts 35 (h:=ts 36 (h:=ts 37 (h:=ts 38 (h:=ts 39 (h:=?_)))))))))));refine rd [40] (rc (fun K hK=>?_) .nil);split
     ·rename_i gA
      exact absurd (show false=true from gA) Bool.false_ne_true
     refine hK.out _ _ (by assumption) (fun hHeld=>?_);clear hK K
     try simp only[Act.put,s1,s2,s3]
     refine ts 41 (h:=ts 42 (h:=tk 43 (h:=?_)));refine wpAnyH_done (by kernel_rfl) ?_ _;go_wp2;go_ret;exact⟨zK.no fun hA=>Hn.out (hA.2.2.2.2.1 k hlt),zA eA aA⟩
    as_aux_lemma=>
    have jA:=zB dA;have sA:=zB (show(W.zOd k).zOg≠0->qL W (W.zOd k).zOg from fun _=>dA);clear dA;refine rd [28] (rc (fun K hK=>?_) .nil);go_simp;go_at_call 52;refine(zm v0 v1 _ _ lo hi W (W.zOd k).zOg _ ?_).mono ?_
    ·exact Hp.out.zOU (zA eA fA)
    rintro e wp ⟨r,rfl,hF,kA⟩;have hf:=qY hF;replace hf:=hf.resolve_right (fun h=>h.1 jA.out);have hr:decide (r<0)=false:=(by have:=hf.2.1;simp;omega);clear hF;have aA:Below W5.heap.size W5 wp:=zA fA kA;obtain⟨⟨k0,_⟩,⟨k1,_⟩,⟨k2,_⟩,⟨k3,_⟩,⟨k4,_⟩,⟨k5,_⟩⟩:=iA.out.zOU aA;obtain⟨⟨l0,_⟩,⟨l1,_⟩,⟨l2,_⟩,_⟩:=lA.out.zOU aA;have n0:=(aA.cell (zD qn)).trans qn
    (try go_wp2_with fail)
    refine hK.out _ _ (by(try dsimp only);go_keep) ?_;clear hK K hHeld;intro hHeld
    try simp only[Act.put,s1,s2,s3]
    refine tk 29 (h:=tk 30 (h:=tk 31 (h:=?_)));clear hr nA oA pA;refine tk 32 (h:=tk 33 (h:=tk 34 (h:=?_)));by_cases hz:(W.zOd k).zOf=0
    ·as_aux_lemma=>
     have nA:((W.zOd k).zOf == 0)=true:=(by simp[hz]);have oA:decide ((W.zOd k).zOf=0)=true:=(by simp[hz]);have pA:((W.zOd k).zOf != 0)=false:=(by simp[hz]);have rA:=zB (show(W.zOd k).zOf≠0->qL W (W.zOd k).zOf from fun h=>absurd hz h);clear hz;refine tk 35 (h:=tk 36 (h:=ts 37 (h:=ts 38 (h:=ts 39 (h:=?_)))));refine rd [40] (rc (fun K hK=>?_) .nil);split
     ·rename_i gA
      exact absurd (show false=true from gA) Bool.false_ne_true
     refine hK.out _ _ (by assumption) (fun hHeld=>?_);clear hK K
     try simp only[Act.put,s1,s2,s3]
     refine ts 41 (h:=tk 42 (h:=tk 43 (h:=?_)));refine wpAnyH_done (by kernel_rfl) ?_ _;go_wp2;go_roundw
     case rel=>exact⟨k+1,by omega,by go_num,qE hlt mA.out ⟨HA.out,aB.out,sA.out,rA.out⟩,iA.out.zOU aA,(zA eA aA)⟩
     case measure=>simp[intOf];omega
    as_aux_lemma=>
    have nA:((W.zOd k).zOf == 0)=false:=(by simp[hz]);have oA:decide ((W.zOd k).zOf=0)=false:=(by simp[hz]);have pA:((W.zOd k).zOf != 0)=true:=(by simp[hz]);have Hz:=zB hz;clear hz;refine tk 35 (h:=tk 36 (h:=tk 37 (h:=tk 38 (h:=tk 39 (h:=?_)))));by_cases dA:qL W (W.zOd k).zOf;rotate_left
    ·as_aux_lemma=>
     have bA:=zB dA;have Hn:=zB (show ¬zD6 W k from fun h=>dA (h.2.2.2 Hz.out));clear dA;refine rd [40] (rc (fun K hK=>?_) .nil);go_simp;go_at_call 52;refine(zm v0 v1 _ _ lo hi W (W.zOd k).zOf _ ?_).mono ?_
     ·exact Hp.out.zOU (zA eA aA)
     rintro e wo ⟨r,rfl,hF,kA⟩;have hf:=qY hF;replace hf:=hf.resolve_left (fun h=>bA.out h.1);have hr:decide (r<0)=true:=(by rw[hf.2];rfl);clear hF;have cA:Below W5.heap.size W5 wo:=zA aA kA;obtain⟨⟨k0,_⟩,⟨k1,_⟩,⟨k2,_⟩,⟨k3,_⟩,⟨k4,_⟩,⟨k5,_⟩⟩:=iA.out.zOU cA;obtain⟨⟨l0,_⟩,⟨l1,_⟩,⟨l2,_⟩,_⟩:=lA.out.zOU cA;have n0:=(cA.cell (zD qn)).trans qn
     (try go_wp2_with fail)
     refine hK.out _ _ (by(try dsimp only);go_keep) ?_;clear hK K hHeld;intro hHeld
     try simp only[Act.put,s1,s2,s3]
     refine tk 41 (h:=tk 42 (h:=tk 43 (h:=?_)));refine wpAnyH_done (by kernel_rfl) ?_ _;go_wp2;go_ret;exact⟨zK.no fun hA=>Hn.out (hA.2.2.2.2.1 k hlt),zA eA cA⟩
    as_aux_lemma=>
    have bA:=zB dA;have rA:=zB (show(W.zOd k).zOf≠0->qL W (W.zOd k).zOf from fun _=>dA);clear dA;refine rd [40] (rc (fun K hK=>?_) .nil);go_simp;go_at_call 52;refine(zm v0 v1 _ _ lo hi W (W.zOd k).zOf _ ?_).mono ?_
    ·exact Hp.out.zOU (zA eA aA)
    rintro e wo ⟨r,rfl,hF,kA⟩;have hf:=qY hF;replace hf:=hf.resolve_right (fun h=>h.1 bA.out);have hr:decide (r<0)=false:=(by have:=hf.2.1;simp;omega);clear hF;have cA:Below W5.heap.size W5 wo:=zA aA kA;obtain⟨⟨k0,_⟩,⟨k1,_⟩,⟨k2,_⟩,⟨k3,_⟩,⟨k4,_⟩,⟨k5,_⟩⟩:=iA.out.zOU cA;obtain⟨⟨l0,_⟩,⟨l1,_⟩,⟨l2,_⟩,_⟩:=lA.out.zOU cA;have n0:=(cA.cell (zD qn)).trans qn
    (try go_wp2_with fail)
    refine hK.out _ _ (by(try dsimp only);go_keep) ?_;clear hK K hHeld;intro hHeld
    try simp only[Act.put,s1,s2,s3]
    refine tk 41 (h:=tk 42 (h:=tk 43 (h:=?_)));refine wpAnyH_done (by kernel_rfl) ?_ _;go_wp2;go_roundw
    case rel=>exact⟨k+1,by omega,by go_num,qE hlt mA.out ⟨HA.out,aB.out,sA.out,rA.out⟩,iA.out.zOU cA,zA eA cA⟩
    case measure=>simp[intOf];omega
   as_aux_lemma=>
   have tB:(0:Int)<(k:Int):=(by omega);have aC:IntKind.i64.wrap ((k:Int) - 1)=((k - 1:Nat):Int):=(by rw[Int.ofNat_sub (by omega)];exact IntWalk.i64_in _ (by omega));have aD:((k - 1:Nat):Int)<(W.sn:Int):=(by omega);refine tk 6 (h:=tk 7 (h:=tk 8 (h:=tk 9 (h:=tk 10 (h:=tk 11 (h:=tk 12 (h:=tk 13 (h:=tk 14 (h:=tk 15 (h:=tk 16 (h:=?_)))))))))));by_cases hB:zAM (W.zOd (k - 1)).name (W.zOd k).name;rotate_left
   ·as_aux_lemma=>
    have Hn:=zB (show ¬zD6 W k from fun h=>hB (h.2.1 lB));have jC:Op.bytesLess (W.zOd (k - 1)).name.toList (W.zOd k).name.toList=false:=(by simpa[zAM]using hB);clear hB;refine tk 17 (h:=tk 18 (h:=tk 19 (h:=tk 20 (h:=ts 21 (h:=ts 22 (h:=ts 23 (h:=ts 24 (h:=ts 25 (h:=ts 26 (h:=ts 27 (h:=?_)))))))))));refine rd [28] (rc (fun K hK=>?_) .nil);split
    ·rename_i gA
     exact absurd (show false=true from gA) Bool.false_ne_true
    refine hK.out _ _ (by assumption) (fun hHeld=>?_);clear hK K
    try simp only[Act.put,s1,s2,s3]
    refine ts 29 (h:=ts 30 (h:=tk 31 (h:=tk 32 (h:=ts 33 (h:=ts 34 (h:=ts 35 (h:=ts 36 (h:=ts 37 (h:=ts 38 (h:=ts 39 (h:=?_)))))))))));refine rd [40] (rc (fun K hK=>?_) .nil);split
    ·rename_i gA
     exact absurd (show false=true from gA) Bool.false_ne_true
    refine hK.out _ _ (by assumption) (fun hHeld=>?_);clear hK K
    try simp only[Act.put,s1,s2,s3]
    refine ts 41 (h:=ts 42 (h:=tk 43 (h:=?_)));refine wpAnyH_done (by kernel_rfl) ?_ _;go_wp2;go_ret;exact⟨zK.no fun hA=>Hn.out (hA.2.2.2.2.1 k hlt),zA eA fA⟩
   as_aux_lemma=>
   have aB:=zB (show 0<k->zAM (W.zOd (k - 1)).name (W.zOd k).name from fun _=>hB);have jC:Op.bytesLess (W.zOd (k - 1)).name.toList (W.zOd k).name.toList=true:=hB;clear hB;refine tk 17 (h:=tk 18 (h:=tk 19 (h:=?_)));clear jC;refine tk 20 (h:=tk 21 (h:=tk 22 (h:=?_)));by_cases hz:(W.zOd k).zOg=0
   ·as_aux_lemma=>
    have nA:((W.zOd k).zOg == 0)=true:=(by simp[hz]);have oA:decide ((W.zOd k).zOg=0)=true:=(by simp[hz]);have pA:((W.zOd k).zOg != 0)=false:=(by simp[hz]);have sA:=zB (show(W.zOd k).zOg≠0->qL W (W.zOd k).zOg from fun h=>absurd hz h);clear hz;refine tk 23 (h:=tk 24 (h:=ts 25 (h:=ts 26 (h:=ts 27 (h:=?_)))));refine rd [28] (rc (fun K hK=>?_) .nil);split
    ·rename_i gA
     exact absurd (show false=true from gA) Bool.false_ne_true
    refine hK.out _ _ (by assumption) (fun hHeld=>?_);clear hK K
    try simp only[Act.put,s1,s2,s3]
    refine ts 29 (h:=tk 30 (h:=tk 31 (h:=?_)));clear nA oA pA;refine tk 32 (h:=tk 33 (h:=tk 34 (h:=?_)));by_cases hz:(W.zOd k).zOf=0
    ·as_aux_lemma=>
     have nA:((W.zOd k).zOf == 0)=true:=(by simp[hz]);have oA:decide ((W.zOd k).zOf=0)=true:=(by simp[hz]);have pA:((W.zOd k).zOf != 0)=false:=(by simp[hz]);have rA:=zB (show(W.zOd k).zOf≠0->qL W (W.zOd k).zOf from fun h=>absurd hz h);clear hz;refine tk 35 (h:=tk 36 (h:=ts 37 (h:=ts 38 (h:=ts 39 (h:=?_)))));refine rd [40] (rc (fun K hK=>?_) .nil);split
     ·rename_i gA
      exact absurd (show false=true from gA) Bool.false_ne_true
     refine hK.out _ _ (by assumption) (fun hHeld=>?_);clear hK K
     try simp only[Act.put,s1,s2,s3]
     refine ts 41 (h:=tk 42 (h:=tk 43 (h:=?_)));refine wpAnyH_done (by kernel_rfl) ?_ _;go_wp2;go_roundw
     case rel=>exact⟨k+1,by omega,by go_num,qE hlt mA.out ⟨HA.out,aB.out,sA.out,rA.out⟩,iA.out.zOU fA,(zA eA fA)⟩
     case measure=>simp[intOf];omega
    as_aux_lemma=>
    have nA:((W.zOd k).zOf == 0)=false:=(by simp[hz]);have oA:decide ((W.zOd k).zOf=0)=false:=(by simp[hz]);have pA:((W.zOd k).zOf != 0)=true:=(by simp[hz]);have Hz:=zB hz;clear hz;refine tk 35 (h:=tk 36 (h:=tk 37 (h:=tk 38 (h:=tk 39 (h:=?_)))));by_cases dA:qL W (W.zOd k).zOf;rotate_left
    ·as_aux_lemma=>
     have bA:=zB dA;have Hn:=zB (show ¬zD6 W k from fun h=>dA (h.2.2.2 Hz.out));clear dA;refine rd [40] (rc (fun K hK=>?_) .nil);go_simp;go_at_call 52;refine(zm v0 v1 _ _ lo hi W (W.zOd k).zOf _ ?_).mono ?_
     ·exact Hp.out.zOU (zA eA fA)
     rintro e wo ⟨r,rfl,hF,kA⟩;have hf:=qY hF;replace hf:=hf.resolve_left (fun h=>bA.out h.1);have hr:decide (r<0)=true:=(by rw[hf.2];rfl);clear hF;have cA:Below W5.heap.size W5 wo:=zA fA kA;obtain⟨⟨k0,_⟩,⟨k1,_⟩,⟨k2,_⟩,⟨k3,_⟩,⟨k4,_⟩,⟨k5,_⟩⟩:=iA.out.zOU cA;obtain⟨⟨l0,_⟩,⟨l1,_⟩,⟨l2,_⟩,_⟩:=lA.out.zOU cA;have n0:=(cA.cell (zD qn)).trans qn
     (try go_wp2_with fail)
     refine hK.out _ _ (by(try dsimp only);go_keep) ?_;clear hK K hHeld;intro hHeld
     try simp only[Act.put,s1,s2,s3]
     refine tk 41 (h:=tk 42 (h:=tk 43 (h:=?_)));refine wpAnyH_done (by kernel_rfl) ?_ _;go_wp2;go_ret;exact⟨zK.no fun hA=>Hn.out (hA.2.2.2.2.1 k hlt),zA eA cA⟩
    as_aux_lemma=>
    have bA:=zB dA;have rA:=zB (show(W.zOd k).zOf≠0->qL W (W.zOd k).zOf from fun _=>dA);clear dA;refine rd [40] (rc (fun K hK=>?_) .nil);go_simp;go_at_call 52;refine(zm v0 v1 _ _ lo hi W (W.zOd k).zOf _ ?_).mono ?_
    ·exact Hp.out.zOU (zA eA fA)
    rintro e wo ⟨r,rfl,hF,kA⟩;have hf:=qY hF;replace hf:=hf.resolve_right (fun h=>h.1 bA.out);have hr:decide (r<0)=false:=(by have:=hf.2.1;simp;omega);clear hF;have cA:Below W5.heap.size W5 wo:=zA fA kA;obtain⟨⟨k0,_⟩,⟨k1,_⟩,⟨k2,_⟩,⟨k3,_⟩,⟨k4,_⟩,⟨k5,_⟩⟩:=iA.out.zOU cA;obtain⟨⟨l0,_⟩,⟨l1,_⟩,⟨l2,_⟩,_⟩:=lA.out.zOU cA;have n0:=(cA.cell (zD qn)).trans qn
    (try go_wp2_with fail)
    refine hK.out _ _ (by(try dsimp only);go_keep) ?_;clear hK K hHeld;intro hHeld
    try simp only[Act.put,s1,s2,s3]
    refine tk 41 (h:=tk 42 (h:=tk 43 (h:=?_)));refine wpAnyH_done (by kernel_rfl) ?_ _;go_wp2;go_roundw
    case rel=>exact⟨k+1,by omega,by go_num,qE hlt mA.out ⟨HA.out,aB.out,sA.out,rA.out⟩,iA.out.zOU cA,zA eA cA⟩
    case measure=>simp[intOf];omega
   as_aux_lemma=>
   have nA:((W.zOd k).zOg == 0)=false:=(by simp[hz]);have oA:decide ((W.zOd k).zOg=0)=false:=(by simp[hz]);have pA:((W.zOd k).zOg != 0)=true:=(by simp[hz]);have Hz:=zB hz;clear hz;refine tk 23 (h:=tk 24 (h:=tk 25 (h:=tk 26 (h:=tk 27 (h:=?_)))));by_cases dA:qL W (W.zOd k).zOg;rotate_left
   ·as_aux_lemma=>
    have jA:=zB dA;have Hn:=zB (show ¬zD6 W k from fun h=>dA (h.2.2.1 Hz.out));clear dA;refine rd [28] (rc (fun K hK=>?_) .nil);go_simp;go_at_call 52;refine(zm v0 v1 _ _ lo hi W (W.zOd k).zOg _ ?_).mono ?_
    ·exact Hp.out.zOU (zA eA fA)
    rintro e wp ⟨r,rfl,hF,kA⟩;have hf:=qY hF;replace hf:=hf.resolve_left (fun h=>jA.out h.1);have hr:decide (r<0)=true:=(by rw[hf.2];rfl);clear hF;have aA:Below W5.heap.size W5 wp:=zA fA kA;obtain⟨⟨k0,_⟩,⟨k1,_⟩,⟨k2,_⟩,⟨k3,_⟩,⟨k4,_⟩,⟨k5,_⟩⟩:=iA.out.zOU aA;obtain⟨⟨l0,_⟩,⟨l1,_⟩,⟨l2,_⟩,_⟩:=lA.out.zOU aA;have n0:=(aA.cell (zD qn)).trans qn
    (try go_wp2_with fail)
    refine hK.out _ _ (by(try dsimp only);go_keep) ?_;clear hK K hHeld;intro hHeld
    try simp only[Act.put,s1,s2,s3]
    refine tk 29 (h:=tk 30 (h:=tk 31 (h:=tk 32 (h:=ts 33 (h:=ts 34 (h:=ts 35 (h:=ts 36 (h:=ts 37 (h:=ts 38 (h:=ts 39 (h:=?_)))))))))));refine rd [40] (rc (fun K hK=>?_) .nil);split
    ·rename_i gA
     exact absurd (show false=true from gA) Bool.false_ne_true
    refine hK.out _ _ (by assumption) (fun hHeld=>?_);clear hK K
    try simp only[Act.put,s1,s2,s3]
    refine ts 41 (h:=ts 42 (h:=tk 43 (h:=?_)));refine wpAnyH_done (by kernel_rfl) ?_ _;go_wp2;go_ret;exact⟨zK.no fun hA=>Hn.out (hA.2.2.2.2.1 k hlt),zA eA aA⟩
   as_aux_lemma=>
   have jA:=zB dA;have sA:=zB (show(W.zOd k).zOg≠0->qL W (W.zOd k).zOg from fun _=>dA);clear dA;refine rd [28] (rc (fun K hK=>?_) .nil);go_simp;go_at_call 52;refine(zm v0 v1 _ _ lo hi W (W.zOd k).zOg _ ?_).mono ?_
   ·exact Hp.out.zOU (zA eA fA)
   rintro e wp ⟨r,rfl,hF,kA⟩;have hf:=qY hF;replace hf:=hf.resolve_right (fun h=>h.1 jA.out);have hr:decide (r<0)=false:=(by have:=hf.2.1;simp;omega);clear hF;have aA:Below W5.heap.size W5 wp:=zA fA kA;obtain⟨⟨k0,_⟩,⟨k1,_⟩,⟨k2,_⟩,⟨k3,_⟩,⟨k4,_⟩,⟨k5,_⟩⟩:=iA.out.zOU aA;obtain⟨⟨l0,_⟩,⟨l1,_⟩,⟨l2,_⟩,_⟩:=lA.out.zOU aA;have n0:=(aA.cell (zD qn)).trans qn
   (try go_wp2_with fail)
   refine hK.out _ _ (by(try dsimp only);go_keep) ?_;clear hK K hHeld;intro hHeld
   try simp only[Act.put,s1,s2,s3]
   refine tk 29 (h:=tk 30 (h:=tk 31 (h:=?_)));clear hr nA oA pA;refine tk 32 (h:=tk 33 (h:=tk 34 (h:=?_)));by_cases hz:(W.zOd k).zOf=0
   ·as_aux_lemma=>
    have nA:((W.zOd k).zOf == 0)=true:=(by simp[hz]);have oA:decide ((W.zOd k).zOf=0)=true:=(by simp[hz]);have pA:((W.zOd k).zOf != 0)=false:=(by simp[hz]);have rA:=zB (show(W.zOd k).zOf≠0->qL W (W.zOd k).zOf from fun h=>absurd hz h);clear hz;refine tk 35 (h:=tk 36 (h:=ts 37 (h:=ts 38 (h:=ts 39 (h:=?_)))));refine rd [40] (rc (fun K hK=>?_) .nil);split
    ·rename_i gA
     exact absurd (show false=true from gA) Bool.false_ne_true
    refine hK.out _ _ (by assumption) (fun hHeld=>?_);clear hK K
    try simp only[Act.put,s1,s2,s3]
    refine ts 41 (h:=tk 42 (h:=tk 43 (h:=?_)));refine wpAnyH_done (by kernel_rfl) ?_ _;go_wp2;go_roundw
    case rel=>exact⟨k+1,by omega,by go_num,qE hlt mA.out ⟨HA.out,aB.out,sA.out,rA.out⟩,iA.out.zOU aA,(zA eA aA)⟩
    case measure=>simp[intOf];omega
   as_aux_lemma=>
   have nA:((W.zOd k).zOf == 0)=false:=(by simp[hz]);have oA:decide ((W.zOd k).zOf=0)=false:=(by simp[hz]);have pA:((W.zOd k).zOf != 0)=true:=(by simp[hz]);have Hz:=zB hz;clear hz;refine tk 35 (h:=tk 36 (h:=tk 37 (h:=tk 38 (h:=tk 39 (h:=?_)))));by_cases dA:qL W (W.zOd k).zOf;rotate_left
   ·as_aux_lemma=>
    have bA:=zB dA;have Hn:=zB (show ¬zD6 W k from fun h=>dA (h.2.2.2 Hz.out));clear dA;refine rd [40] (rc (fun K hK=>?_) .nil);go_simp;go_at_call 52;refine(zm v0 v1 _ _ lo hi W (W.zOd k).zOf _ ?_).mono ?_
    ·exact Hp.out.zOU (zA eA aA)
    rintro e wo ⟨r,rfl,hF,kA⟩;have hf:=qY hF;replace hf:=hf.resolve_left (fun h=>bA.out h.1);have hr:decide (r<0)=true:=(by rw[hf.2];rfl);clear hF;have cA:Below W5.heap.size W5 wo:=zA aA kA;obtain⟨⟨k0,_⟩,⟨k1,_⟩,⟨k2,_⟩,⟨k3,_⟩,⟨k4,_⟩,⟨k5,_⟩⟩:=iA.out.zOU cA;obtain⟨⟨l0,_⟩,⟨l1,_⟩,⟨l2,_⟩,_⟩:=lA.out.zOU cA;have n0:=(cA.cell (zD qn)).trans qn
    (try go_wp2_with fail)
    refine hK.out _ _ (by(try dsimp only);go_keep) ?_;clear hK K hHeld;intro hHeld
    try simp only[Act.put,s1,s2,s3]
    refine tk 41 (h:=tk 42 (h:=tk 43 (h:=?_)));refine wpAnyH_done (by kernel_rfl) ?_ _;go_wp2;go_ret;exact⟨zK.no fun hA=>Hn.out (hA.2.2.2.2.1 k hlt),zA eA cA⟩
   as_aux_lemma=>
   have bA:=zB dA;have rA:=zB (show(W.zOd k).zOf≠0->qL W (W.zOd k).zOf from fun _=>dA);clear dA;refine rd [40] (rc (fun K hK=>?_) .nil);go_simp;go_at_call 52;refine(zm v0 v1 _ _ lo hi W (W.zOd k).zOf _ ?_).mono ?_
   ·exact Hp.out.zOU (zA eA aA)
   rintro e wo ⟨r,rfl,hF,kA⟩;have hf:=qY hF;replace hf:=hf.resolve_right (fun h=>h.1 bA.out);have hr:decide (r<0)=false:=(by have:=hf.2.1;simp;omega);clear hF;have cA:Below W5.heap.size W5 wo:=zA aA kA;obtain⟨⟨k0,_⟩,⟨k1,_⟩,⟨k2,_⟩,⟨k3,_⟩,⟨k4,_⟩,⟨k5,_⟩⟩:=iA.out.zOU cA;obtain⟨⟨l0,_⟩,⟨l1,_⟩,⟨l2,_⟩,_⟩:=lA.out.zOU cA;have n0:=(cA.cell (zD qn)).trans qn
   (try go_wp2_with fail)
   refine hK.out _ _ (by(try dsimp only);go_keep) ?_;clear hK K hHeld;intro hHeld
   try simp only[Act.put,s1,s2,s3]
   refine tk 41 (h:=tk 42 (h:=tk 43 (h:=?_)));refine wpAnyH_done (by kernel_rfl) ?_ _;go_wp2;go_roundw
   case rel=>exact⟨k+1,by omega,by go_num,qE hlt mA.out ⟨HA.out,aB.out,sA.out,rA.out⟩,iA.out.zOU cA,zA eA cA⟩
   case measure=>simp[intOf];omega
  ·as_aux_lemma=>
   obtain rfl:k=W.sn:=(by omega);have nB:=zB mA.out;clear mA;obtain⟨⟨x0,x1⟩,⟨x2,x3⟩,⟨x4,x5⟩,⟨x6,x7⟩,⟨x8,x9⟩,⟨tA,eB⟩⟩:=HX.out;go_wp2;clear x0 x1 x2 x3 x4 x5 x6 x7 x8 x9 tA eB
   go_loopw [5] (fun i wr=>∃k:Nat,k<=W.pn/\i = .int .i64 k/\(∀j,j<k->zLy W j)/\za wr w.heap.size v0 v1 (.int .i64 W.time) (.int .i64 W.next) (.slice a' W.sn c') (.slice a W.pn c)/\Below w.heap.size w wr) (fun i _=>W.pn - (intOf i).toNat)
   case atStart=>exact⟨0,Nat.zero_le _,rfl,fun j hj=>absurd hj (Nat.not_lt_zero _),HX.out,hb⟩
   case round=>
    clear HX hb hlt hk;obtain⟨k,hk,rfl,hall,hX,hb⟩:=hrel;have mA:=zB hall;have HX:=zB hX;clear hall hX;by_cases hlt:k<W.pn;rotate_left
    ·obtain rfl:k=W.pn:=(by omega);obtain⟨⟨x0,x1⟩,⟨x2,x3⟩,⟨x4,x5⟩,⟨x6,x7⟩,⟨x8,x9⟩,⟨tA,eB⟩⟩:=HX.out;go_wp2;go_ret;exact⟨zK.yes ⟨HT.out,HN.out,hs,hp,nB.out,mA.out⟩,hb⟩
    have vB:(k:Int)<(W.pn:Int):=(by omega);obtain⟨b,off,vd,rfl,hs2⟩:=(Hp.out.zOb.zOU hb).cells hlt;obtain⟨-,ad,cd,rfl,-,-⟩:=id hs2.zOl;have bB:=zC wr (.cells #[.int .i64 (W.zOb k).id,.string (W.zOb k).name,.string (W.zOb k).set,.int .i64 (W.zOb k).zOg,.int .i64 (W.zOb k).time,.int .i64 (W.zOb k).rs,.int .i64 (W.zOb k).rb,.slice ad (W.zOb k).dn cd] 111);have iA:=zB (HX.out.zOU bB);have lA:=zB (zEc.zOY wr (.int .i64 (W.zOb k).id) (.string (W.zOb k).name) (.string (W.zOb k).set) (.int .i64 (W.zOb k).zOg) (.int .i64 (W.zOb k).time) (.int .i64 (W.zOb k).rs) (.int .i64 (W.zOb k).rb) (.slice ad (W.zOb k).dn cd) 111);have eA:=zA hb bB;have q0:=hs2.c0;have q1:=hs2.c1;have q2:=hs2.c2;have q3:=hs2.c3;have q4:=hs2.c4;have q5:=hs2.c5;have q6:=hs2.c6;have q7:=hs2.c7;have rB:=hs2.zOm.1;have Hq:=zB (show(wr.alloc (.cells #[.int .i64 (W.zOb k).id,.string (W.zOb k).name,.string (W.zOb k).set,.int .i64 (W.zOb k).zOg,.int .i64 (W.zOb k).time,.int .i64 (W.zOb k).rs,.int .i64 (W.zOb k).rb,.slice ad (W.zOb k).dn cd] 111)).cell? ⟨b,off+(k - 1)*8,none⟩=some (.int .i64 (W.zOb (k - 1)).id)/\(wr.alloc (.cells #[.int .i64 (W.zOb k).id,.string (W.zOb k).name,.string (W.zOb k).set,.int .i64 (W.zOb k).zOg,.int .i64 (W.zOb k).time,.int .i64 (W.zOb k).rs,.int .i64 (W.zOb k).rb,.slice ad (W.zOb k).dn cd] 111)).cell? ⟨b,off+(k - 1)*8+4,none⟩=some (.int .i64 (W.zOb (k - 1)).time)from by
     obtain⟨b',bC,eD,e,hs3⟩:=((Hp.out.zOb.zOU hb).zOU bB).cells (show k - 1<W.pn by omega);cases e;exact⟨hs3.c0,hs3.c4⟩)
    obtain⟨⟨x0,x1⟩,⟨x2,x3⟩,⟨x4,x5⟩,⟨x6,x7⟩,⟨x8,x9⟩,⟨tA,eB⟩⟩:=HX.out;obtain⟨⟨z0,z1⟩,⟨z2,z3⟩,⟨z4,z5⟩,⟨z6,z7⟩,⟨z8,z9⟩,⟨fD,gD⟩⟩:=iA.out;obtain⟨⟨⟨y0,-⟩,⟨y1,-⟩,⟨y2,-⟩,⟨y3,-⟩⟩,⟨y4,-⟩,⟨y5,-⟩,⟨y6,-⟩,⟨y7,-⟩⟩:=lA.out;clear hs2;by_cases g1:(W.zOb k).id<1
    ·have Hn:=zB (show ¬zFd W k from fun h=>by have:=h.1;omega);go_wp2;go_ret;exact⟨zK.no fun hA=>Hn.out (hA.2.2.2.2.2 k hlt).1,eA⟩
    by_cases g2:W.next<=(W.zOb k).id
    ·have Hn:=zB (show ¬zFd W k from fun h=>by have:=h.2.1;omega);go_wp2;go_ret;exact⟨zK.no fun hA=>Hn.out (hA.2.2.2.2.2 k hlt).1,eA⟩
    by_cases g3:(W.zOb k).time<1
    ·have Hn:=zB (show ¬zFd W k from fun h=>by have:=h.2.2.1;omega);go_wp2;go_ret;exact⟨zK.no fun hA=>Hn.out (hA.2.2.2.2.2 k hlt).1,eA⟩
    by_cases g4:W.time<=(W.zOb k).time
    ·have Hn:=zB (show ¬zFd W k from fun h=>by have:=h.2.2.2.1;omega);go_wp2;go_ret;exact⟨zK.no fun hA=>Hn.out (hA.2.2.2.2.2 k hlt).1,eA⟩
    go_wp2_with fail;refine(zAk (W.zOb k).name _ rB).mono ?_;rintro e wn ⟨⟨tn,rfl,vA⟩,rfl⟩;by_cases g5:qV (W.zOb k).name;rotate_left
    ·have Hn:=zB (show ¬zFd W k from fun h=>g5 h.2.2.2.2.1);obtain rfl:tn=false:=zP vA g5;clear vA g5;go_wp2;go_ret;exact⟨zK.no fun hA=>Hn.out (hA.2.2.2.2.2 k hlt).1,eA⟩
    obtain rfl:tn=true:=vA.2 g5;have G5:=zB g5;clear vA g5;go_wp2_with fail;refine(yY v0 v1 _ _ lo hi W (W.zOb k).set _ (Hp.out.zOU eA)).mono ?_;rintro e wt ⟨r,rfl,hF,jB⟩;have gC:=zB (iA.out.zOU jB);have eC:=zB (lA.out.zOU jB);have iB:=zA eA jB;have iC:=zB (And.intro ((jB.cell (zD Hq.out.1)).trans Hq.out.1) ((jB.cell (zD Hq.out.2)).trans Hq.out.2));clear x0 x1 x2 x3 x4 x5 x6 x7 x8 x9 tA eB z0 z1 z2 z3 z4 z5 z6 z7 z8 z9 fD gD y0 y1 y2 y3 y4 y5 y6 y7 q0 q1 q2 q3 q4 q5 q6 q7 iA lA eA jB HX bB;rcases zK5 hF with⟨g6,g7⟩ | ⟨g6,rfl⟩;rotate_left
    ·have Hn:=zB (show ¬zFd W k from fun h=>g6 h.2.2.2.2.2);clear g6 hF;go_wp2;go_ret;exact⟨zK.no fun hA=>Hn.out (hA.2.2.2.2.2 k hlt).1,iB⟩
    have nC:=zB (show zFd W k from⟨by omega,by omega,by omega,by omega,G5.out,g6⟩);have g8:decide (r<0)=false:=(by simp;omega);have g9:¬r<0:=(by omega);clear g6 g7 hF g1 g2 g3 g4 G5;go_wp2_with fail;clear g8 g9;have iA:=zB gC.out;have lA:=zB eC.out;have eA:=iB;obtain⟨qn,qt⟩:=iC.out;clear gC eC iB iC Hq;obtain⟨W6,sC⟩:∃W6,W6=wt:=⟨_,rfl⟩;subst sC;generalize wr.heap.size=V8 at lA ⊢;obtain⟨⟨x0,-⟩,⟨x2,-⟩,⟨x4,-⟩,⟨x6,-⟩,⟨x8,-⟩,⟨tA,-⟩⟩:=iA.out;obtain⟨⟨⟨y0,-⟩,-,-,⟨y3,-⟩⟩,⟨y4,-⟩,-⟩:=lA.out
    as_aux_lemma=>
    go_cut [177] (fun v wx=>∃t:Bool,v = .bool t/\(t=false↔zEh W k)/\Below W6.heap.size W6 wx)
    case first=>
     refine wp_region_held_drew (S:=(fun w'=>w'.cell? ⟨w.heap.size,0,none⟩=some v0/\w'.cell? ⟨w.heap.size,1,none⟩=some v1/\w'.cell? ⟨w.heap.size,2,none⟩=some (.int .i64 W.time)/\w'.cell? ⟨w.heap.size,3,none⟩=some (.int .i64 W.next)/\w'.cell? ⟨w.heap.size,4,none⟩=some (.slice a' W.sn c')/\w'.cell? ⟨w.heap.size,5,none⟩=some (.slice (some ⟨b,off,none⟩) W.pn c)/\w'.cell? ⟨V8,0,none⟩=some (.int .i64 (W.zOb k).id)/\w'.cell? ⟨V8,3,none⟩=some (.int .i64 (W.zOb k).zOg)/\w'.cell? ⟨V8,4,none⟩=some (.int .i64 (W.zOb k).time)/\w'.cell? ⟨b,off+(k - 1)*8,none⟩=some (.int .i64 (W.zOb (k - 1)).id)/\w'.cell? ⟨b,off+(k - 1)*8+4,none⟩=some (.int .i64 (W.zOb (k - 1)).time))) (by kernel_rfl) ?_ (fun hHeld=>?_)
     ·(try dsimp only)
      go_keep
     have fA:Below W6.heap.size W6 W6.drew:=(Below.refl _ _).drew;refine tk 0 (h:=?_);by_cases lB:0<k;rotate_left
     ·as_aux_lemma=>
      have tB:decide ((0:Int)<(k:Int))=false:=(by simp;omega);have mB:=zB (show 0<k->(W.zOb (k - 1)).id<(W.zOb k).id/\(W.zOb (k - 1)).time<(W.zOb k).time from fun h=>absurd h lB);refine tk 1 (h:=tk 2 (h:=ts 3 (h:=ts 4 (h:=ts 5 (h:=ts 6 (h:=ts 7 (h:=ts 8 (h:=ts 9 (h:=ts 10 (h:=ts 11 (h:=ts 12 (h:=ts 13 (h:=ts 14 (h:=ts 15 (h:=ts 16 (h:=ts 17 (h:=ts 18 (h:=ts 19 (h:=ts 20 (h:=ts 21 (h:=ts 22 (h:=ts 23 (h:=ts 24 (h:=tk 25 (h:=tk 26 (h:=tk 27 (h:=tk 28 (h:=?_))))))))))))))))))))))))))));by_cases hz:(W.zOb k).zOg=0
      ·as_aux_lemma=>
       have nA:((W.zOb k).zOg == 0)=true:=(by simp[hz]);have oA:decide ((W.zOb k).zOg=0)=true:=(by simp[hz]);have pA:((W.zOb k).zOg != 0)=false:=(by simp[hz]);have fB:=zB (show(W.zOb k).zOg≠0->(W.zOb k).zOg<(W.zOb k).id/\qL W (W.zOb k).zOg from fun h=>absurd hz h);clear hz;refine tk 29 (h:=tk 30 (h:=ts 31 (h:=ts 32 (h:=ts 33 (h:=ts 34 (h:=ts 35 (h:=ts 36 (h:=ts 37 (h:=ts 38 (h:=ts 39 (h:=?_)))))))))));refine rd [40] (rc (fun K hK=>?_) .nil);split
       ·rename_i gA
        exact absurd (show false=true from gA) Bool.false_ne_true
       refine hK.out _ _ (by assumption) (fun hHeld=>?_);clear hK K
       try simp only[Act.put,s1,s2,s3]
       refine ts 41 (h:=ts 42 (h:=tk 43 (h:=tk 44 (h:=?_))));refine wpAnyH_done (by kernel_rfl) ?_ _;clear nA oA pA;go_wp2_with fail
       go_meet
       case rel=>exact⟨false,rfl,⟨fun _=>⟨mB.out,fB.out⟩,fun _=>rfl⟩,fA⟩
      as_aux_lemma=>
      have nA:((W.zOb k).zOg == 0)=false:=(by simp[hz]);have oA:decide ((W.zOb k).zOg=0)=false:=(by simp[hz]);have pA:((W.zOb k).zOg != 0)=true:=(by simp[hz]);have Hz:=zB hz;clear hz;refine tk 29 (h:=tk 30 (h:=tk 31 (h:=tk 32 (h:=tk 33 (h:=tk 34 (h:=?_))))));by_cases hg:(W.zOb k).zOg<(W.zOb k).id;rotate_left
      ·as_aux_lemma=>
       have pB:decide ((W.zOb k).id<=(W.zOb k).zOg)=true:=(by simp;omega);have Hn:=zB (show ¬zEh W k from fun h=>hg (h.2 Hz.out).1);clear hg;refine tk 35 (h:=tk 36 (h:=ts 37 (h:=ts 38 (h:=ts 39 (h:=?_)))));refine rd [40] (rc (fun K hK=>?_) .nil);split
       ·rename_i gA
        exact absurd (show false=true from gA) Bool.false_ne_true
       refine hK.out _ _ (by assumption) (fun hHeld=>?_);clear hK K
       try simp only[Act.put,s1,s2,s3]
       refine ts 41 (h:=tk 42 (h:=tk 43 (h:=tk 44 (h:=?_))));refine wpAnyH_done (by kernel_rfl) ?_ _;go_wp2_with fail
       go_meet
       case rel=>exact⟨true,rfl,⟨fun h=>absurd h (by decide),fun h=>absurd h Hn.out⟩,fA⟩
      as_aux_lemma=>
      have pB:decide ((W.zOb k).id<=(W.zOb k).zOg)=false:=(by simp;omega);have Hg:=zB hg;clear hg;refine tk 35 (h:=tk 36 (h:=tk 37 (h:=tk 38 (h:=tk 39 (h:=?_)))));by_cases dA:qL W (W.zOb k).zOg;rotate_left
      ·as_aux_lemma=>
       have gB:=zB dA;have Hn:=zB (show ¬zEh W k from fun h=>dA (h.2 Hz.out).2);clear dA;refine rd [40] (rc (fun K hK=>?_) .nil);go_simp;go_at_call 52;refine(zm v0 v1 _ _ lo hi W (W.zOb k).zOg _ ?_).mono ?_
       ·exact Hp.out.zOU (zA eA fA)
       rintro e wp ⟨r,rfl,hF,kA⟩;have hf:=qY hF;replace hf:=hf.resolve_left (fun h=>gB.out h.1);have hr:decide (r<0)=true:=(by rw[hf.2];rfl);clear hF;have aA:Below W6.heap.size W6 wp:=zA fA kA;obtain⟨⟨k0,_⟩,⟨k1,_⟩,⟨k2,_⟩,⟨k3,_⟩,⟨k4,_⟩,⟨k5,_⟩⟩:=iA.out.zOU aA;obtain⟨⟨⟨l0,_⟩,_,_,⟨l3,_⟩⟩,⟨l4,_⟩,_⟩:=lA.out.zOU aA;have n0:=(aA.cell (zD qn)).trans qn;have n4:=(aA.cell (zD qt)).trans qt
       (try go_wp2_with fail)
       refine hK.out _ _ (by(try dsimp only);go_keep) ?_;clear hK K hHeld;intro hHeld
       try simp only[Act.put,s1,s2,s3]
       refine tk 41 (h:=tk 42 (h:=tk 43 (h:=tk 44 (h:=?_))));refine wpAnyH_done (by kernel_rfl) ?_ _;go_wp2_with fail
       go_meet
       case rel=>exact⟨true,rfl,⟨fun h=>absurd h (by decide),fun h=>absurd h Hn.out⟩,aA⟩
      as_aux_lemma=>
      have gB:=zB dA;have fB:=zB (show(W.zOb k).zOg≠0->(W.zOb k).zOg<(W.zOb k).id/\qL W (W.zOb k).zOg from fun _=>⟨Hg.out,dA⟩);clear dA;refine rd [40] (rc (fun K hK=>?_) .nil);go_simp;go_at_call 52;refine(zm v0 v1 _ _ lo hi W (W.zOb k).zOg _ ?_).mono ?_
      ·exact Hp.out.zOU (zA eA fA)
      rintro e wp ⟨r,rfl,hF,kA⟩;have hf:=qY hF;replace hf:=hf.resolve_right (fun h=>h.1 gB.out);have hr:decide (r<0)=false:=(by have:=hf.2.1;simp;omega);clear hF;have aA:Below W6.heap.size W6 wp:=zA fA kA;obtain⟨⟨k0,_⟩,⟨k1,_⟩,⟨k2,_⟩,⟨k3,_⟩,⟨k4,_⟩,⟨k5,_⟩⟩:=iA.out.zOU aA;obtain⟨⟨⟨l0,_⟩,_,_,⟨l3,_⟩⟩,⟨l4,_⟩,_⟩:=lA.out.zOU aA;have n0:=(aA.cell (zD qn)).trans qn;have n4:=(aA.cell (zD qt)).trans qt
      (try go_wp2_with fail)
      refine hK.out _ _ (by(try dsimp only);go_keep) ?_;clear hK K hHeld;intro hHeld
      try simp only[Act.put,s1,s2,s3]
      refine tk 41 (h:=tk 42 (h:=tk 43 (h:=tk 44 (h:=?_))));refine wpAnyH_done (by kernel_rfl) ?_ _;clear hr nA oA pA pB;go_wp2_with fail
      go_meet
      case rel=>exact⟨false,rfl,⟨fun _=>⟨mB.out,fB.out⟩,fun _=>rfl⟩,aA⟩
     as_aux_lemma=>
     have tB:(0:Int)<(k:Int):=(by omega);have aC:IntKind.i64.wrap ((k:Int) - 1)=((k - 1:Nat):Int):=(by rw[Int.ofNat_sub (by omega)];exact IntWalk.i64_in _ (by omega));have aD:((k - 1:Nat):Int)<(W.pn:Int):=(by omega);refine tk 1 (h:=tk 2 (h:=tk 3 (h:=tk 4 (h:=tk 5 (h:=tk 6 (h:=tk 7 (h:=tk 8 (h:=tk 9 (h:=tk 10 (h:=tk 11 (h:=?_)))))))))));by_cases cB:(W.zOb (k - 1)).id<(W.zOb k).id;rotate_left
     ·as_aux_lemma=>
      have lC:decide ((W.zOb k).id<=(W.zOb (k - 1)).id)=true:=(by simp;omega);have Hn:=zB (show ¬zEh W k from fun h=>cB (h.1 lB).1);clear cB;refine tk 12 (h:=tk 13 (h:=ts 14 (h:=ts 15 (h:=ts 16 (h:=ts 17 (h:=ts 18 (h:=ts 19 (h:=ts 20 (h:=ts 21 (h:=ts 22 (h:=ts 23 (h:=tk 24 (h:=tk 25 (h:=tk 26 (h:=ts 27 (h:=ts 28 (h:=ts 29 (h:=ts 30 (h:=ts 31 (h:=ts 32 (h:=ts 33 (h:=ts 34 (h:=ts 35 (h:=ts 36 (h:=ts 37 (h:=ts 38 (h:=ts 39 (h:=?_))))))))))))))))))))))))))));refine rd [40] (rc (fun K hK=>?_) .nil);split
      ·rename_i gA
       exact absurd (show false=true from gA) Bool.false_ne_true
      refine hK.out _ _ (by assumption) (fun hHeld=>?_);clear hK K
      try simp only[Act.put,s1,s2,s3]
      refine ts 41 (h:=ts 42 (h:=ts 43 (h:=tk 44 (h:=?_))));refine wpAnyH_done (by kernel_rfl) ?_ _;go_wp2_with fail
      go_meet
      case rel=>exact⟨true,rfl,⟨fun h=>absurd h (by decide),fun h=>absurd h Hn.out⟩,fA⟩
     as_aux_lemma=>
     have lC:decide ((W.zOb k).id<=(W.zOb (k - 1)).id)=false:=(by simp;omega);have pC:=zB cB;clear cB;refine tk 12 (h:=tk 13 (h:=tk 14 (h:=tk 15 (h:=tk 16 (h:=tk 17 (h:=tk 18 (h:=tk 19 (h:=tk 20 (h:=tk 21 (h:=tk 22 (h:=?_)))))))))));by_cases cB:(W.zOb (k - 1)).time<(W.zOb k).time;rotate_left
     ·as_aux_lemma=>
      have mC:decide ((W.zOb k).time<=(W.zOb (k - 1)).time)=true:=(by simp;omega);have Hn:=zB (show ¬zEh W k from fun h=>cB (h.1 lB).2);clear cB;refine tk 23 (h:=tk 24 (h:=tk 25 (h:=tk 26 (h:=ts 27 (h:=ts 28 (h:=ts 29 (h:=ts 30 (h:=ts 31 (h:=ts 32 (h:=ts 33 (h:=ts 34 (h:=ts 35 (h:=ts 36 (h:=ts 37 (h:=ts 38 (h:=ts 39 (h:=?_)))))))))))))))));refine rd [40] (rc (fun K hK=>?_) .nil);split
      ·rename_i gA
       exact absurd (show false=true from gA) Bool.false_ne_true
      refine hK.out _ _ (by assumption) (fun hHeld=>?_);clear hK K
      try simp only[Act.put,s1,s2,s3]
      refine ts 41 (h:=ts 42 (h:=ts 43 (h:=tk 44 (h:=?_))));refine wpAnyH_done (by kernel_rfl) ?_ _;go_wp2_with fail
      go_meet
      case rel=>exact⟨true,rfl,⟨fun h=>absurd h (by decide),fun h=>absurd h Hn.out⟩,fA⟩
     as_aux_lemma=>
     have mC:decide ((W.zOb k).time<=(W.zOb (k - 1)).time)=false:=(by simp;omega);have mB:=zB (show 0<k->(W.zOb (k - 1)).id<(W.zOb k).id/\(W.zOb (k - 1)).time<(W.zOb k).time from fun _=>⟨pC.out,cB⟩);clear cB;refine tk 23 (h:=tk 24 (h:=tk 25 (h:=?_)));clear mC lC;refine tk 26 (h:=tk 27 (h:=tk 28 (h:=?_)));by_cases hz:(W.zOb k).zOg=0
     ·as_aux_lemma=>
      have nA:((W.zOb k).zOg == 0)=true:=(by simp[hz]);have oA:decide ((W.zOb k).zOg=0)=true:=(by simp[hz]);have pA:((W.zOb k).zOg != 0)=false:=(by simp[hz]);have fB:=zB (show(W.zOb k).zOg≠0->(W.zOb k).zOg<(W.zOb k).id/\qL W (W.zOb k).zOg from fun h=>absurd hz h);clear hz;refine tk 29 (h:=tk 30 (h:=ts 31 (h:=ts 32 (h:=ts 33 (h:=ts 34 (h:=ts 35 (h:=ts 36 (h:=ts 37 (h:=ts 38 (h:=ts 39 (h:=?_)))))))))));refine rd [40] (rc (fun K hK=>?_) .nil);split
      ·rename_i gA
       exact absurd (show false=true from gA) Bool.false_ne_true
      refine hK.out _ _ (by assumption) (fun hHeld=>?_);clear hK K
      try simp only[Act.put,s1,s2,s3]
      refine ts 41 (h:=ts 42 (h:=tk 43 (h:=tk 44 (h:=?_))));refine wpAnyH_done (by kernel_rfl) ?_ _;clear nA oA pA;go_wp2_with fail
      go_meet
      case rel=>exact⟨false,rfl,⟨fun _=>⟨mB.out,fB.out⟩,fun _=>rfl⟩,fA⟩
     as_aux_lemma=>
     have nA:((W.zOb k).zOg == 0)=false:=(by simp[hz]);have oA:decide ((W.zOb k).zOg=0)=false:=(by simp[hz]);have pA:((W.zOb k).zOg != 0)=true:=(by simp[hz]);have Hz:=zB hz;clear hz;refine tk 29 (h:=tk 30 (h:=tk 31 (h:=tk 32 (h:=tk 33 (h:=tk 34 (h:=?_))))));by_cases hg:(W.zOb k).zOg<(W.zOb k).id;rotate_left
     ·as_aux_lemma=>
      have pB:decide ((W.zOb k).id<=(W.zOb k).zOg)=true:=(by simp;omega);have Hn:=zB (show ¬zEh W k from fun h=>hg (h.2 Hz.out).1);clear hg;refine tk 35 (h:=tk 36 (h:=ts 37 (h:=ts 38 (h:=ts 39 (h:=?_)))));refine rd [40] (rc (fun K hK=>?_) .nil);split
      ·rename_i gA
       exact absurd (show false=true from gA) Bool.false_ne_true
      refine hK.out _ _ (by assumption) (fun hHeld=>?_);clear hK K
      try simp only[Act.put,s1,s2,s3]
      refine ts 41 (h:=tk 42 (h:=tk 43 (h:=tk 44 (h:=?_))));refine wpAnyH_done (by kernel_rfl) ?_ _;go_wp2_with fail
      go_meet
      case rel=>exact⟨true,rfl,⟨fun h=>absurd h (by decide),fun h=>absurd h Hn.out⟩,fA⟩
     as_aux_lemma=>
     have pB:decide ((W.zOb k).id<=(W.zOb k).zOg)=false:=(by simp;omega);have Hg:=zB hg;clear hg;refine tk 35 (h:=tk 36 (h:=tk 37 (h:=tk 38 (h:=tk 39 (h:=?_)))));by_cases dA:qL W (W.zOb k).zOg;rotate_left
     ·as_aux_lemma=>
      have gB:=zB dA;have Hn:=zB (show ¬zEh W k from fun h=>dA (h.2 Hz.out).2);clear dA;refine rd [40] (rc (fun K hK=>?_) .nil);go_simp;go_at_call 52;refine(zm v0 v1 _ _ lo hi W (W.zOb k).zOg _ ?_).mono ?_
      ·exact Hp.out.zOU (zA eA fA)
      rintro e wp ⟨r,rfl,hF,kA⟩;have hf:=qY hF;replace hf:=hf.resolve_left (fun h=>gB.out h.1);have hr:decide (r<0)=true:=(by rw[hf.2];rfl);clear hF;have aA:Below W6.heap.size W6 wp:=zA fA kA;obtain⟨⟨k0,_⟩,⟨k1,_⟩,⟨k2,_⟩,⟨k3,_⟩,⟨k4,_⟩,⟨k5,_⟩⟩:=iA.out.zOU aA;obtain⟨⟨⟨l0,_⟩,_,_,⟨l3,_⟩⟩,⟨l4,_⟩,_⟩:=lA.out.zOU aA;have n0:=(aA.cell (zD qn)).trans qn;have n4:=(aA.cell (zD qt)).trans qt
      (try go_wp2_with fail)
      refine hK.out _ _ (by(try dsimp only);go_keep) ?_;clear hK K hHeld;intro hHeld
      try simp only[Act.put,s1,s2,s3]
      refine tk 41 (h:=tk 42 (h:=tk 43 (h:=tk 44 (h:=?_))));refine wpAnyH_done (by kernel_rfl) ?_ _;go_wp2_with fail
      go_meet
      case rel=>exact⟨true,rfl,⟨fun h=>absurd h (by decide),fun h=>absurd h Hn.out⟩,aA⟩
     as_aux_lemma=>
     have gB:=zB dA;have fB:=zB (show(W.zOb k).zOg≠0->(W.zOb k).zOg<(W.zOb k).id/\qL W (W.zOb k).zOg from fun _=>⟨Hg.out,dA⟩);clear dA;refine rd [40] (rc (fun K hK=>?_) .nil);go_simp;go_at_call 52;refine(zm v0 v1 _ _ lo hi W (W.zOb k).zOg _ ?_).mono ?_
     ·exact Hp.out.zOU (zA eA fA)
     rintro e wp ⟨r,rfl,hF,kA⟩;have hf:=qY hF;replace hf:=hf.resolve_right (fun h=>h.1 gB.out);have hr:decide (r<0)=false:=(by have:=hf.2.1;simp;omega);clear hF;have aA:Below W6.heap.size W6 wp:=zA fA kA;obtain⟨⟨k0,_⟩,⟨k1,_⟩,⟨k2,_⟩,⟨k3,_⟩,⟨k4,_⟩,⟨k5,_⟩⟩:=iA.out.zOU aA;obtain⟨⟨⟨l0,_⟩,_,_,⟨l3,_⟩⟩,⟨l4,_⟩,_⟩:=lA.out.zOU aA;have n0:=(aA.cell (zD qn)).trans qn;have n4:=(aA.cell (zD qt)).trans qt
     (try go_wp2_with fail)
     refine hK.out _ _ (by(try dsimp only);go_keep) ?_;clear hK K hHeld;intro hHeld
     try simp only[Act.put,s1,s2,s3]
     refine tk 41 (h:=tk 42 (h:=tk 43 (h:=tk 44 (h:=?_))));refine wpAnyH_done (by kernel_rfl) ?_ _;clear hr nA oA pA pB;go_wp2_with fail
     go_meet
     case rel=>exact⟨false,rfl,⟨fun _=>⟨mB.out,fB.out⟩,fun _=>rfl⟩,aA⟩
    case zOo=>
     obtain⟨t,rfl,ht,oB⟩:=hcut;by_cases hB:zEh W k;rotate_left
     ·obtain rfl:t=true:=by cases t;exact absurd (ht.1 rfl) hB;rfl
      have Hn:=zB hB;clear hB ht;go_wp2;go_ret;exact⟨zK.no fun hA=>Hn.out (hA.2.2.2.2.2 k hlt).2.1,zA eA oB⟩
     obtain rfl:t=false:=ht.2 hB;have oC:=zB hB;clear hB ht;have fC:=zB (iA.out.zOU oB);have dC:=zB (lA.out.zOU oB);have kC:=zA eA oB;clear oB;go_wp2
     go_loopw [7] (fun i cC=>∃j:Nat,j<=k/\i = .int .i64 j/\zLx W k j/\za cC w.heap.size v0 v1 (.int .i64 W.time) (.int .i64 W.next) (.slice a' W.sn c') (.slice (some ⟨b,off,none⟩) W.pn c)/\zEc cC V8 (.int .i64 (W.zOb k).id) (.string (W.zOb k).name) (.string (W.zOb k).set) (.int .i64 (W.zOb k).zOg) (.int .i64 (W.zOb k).time) (.int .i64 (W.zOb k).rs) (.int .i64 (W.zOb k).rb) (.slice ad (W.zOb k).dn cd)/\Below w.heap.size w cC) (fun i _=>k - (intOf i).toNat)
     case atStart=>exact⟨0,Nat.zero_le _,rfl,fun q hq=>absurd hq (Nat.not_lt_zero _),fC.out,dC.out,kC⟩
     case round=>
      clear fC dC kC iA lA eA;obtain⟨j,hj,rfl,hc,hX,hV,hb⟩:=hrel;have Hc:=zB hc;have HX:=zB hX;have HV:=zB hV;clear hc hX hV;by_cases sB:j<k
      ·have tC:(j:Int)<(k:Int):=(by omega);have vC:(j:Int)<(W.pn:Int):=(by omega);obtain⟨b3,dD,jD,e3,hs3⟩:=(Hp.out.zOb.zOU hb).cells (show j<W.pn by omega);cases e3;have q1:=hs3.c1;have q2:=hs3.c2;clear hs3;obtain⟨⟨x0,-⟩,⟨x2,-⟩,⟨x4,-⟩,⟨x6,-⟩,⟨x8,-⟩,⟨tA,-⟩⟩:=HX.out;obtain⟨⟨-,⟨y1,-⟩,⟨y2,-⟩,-⟩,-⟩:=HV.out;by_cases dB:(W.zOb j).set=(W.zOb k).set
       ·by_cases kB:(W.zOb j).name=(W.zOb k).name
        ·have Hn:=zB (show ¬zLx W k k from fun h=>h j sB ⟨dB,kB⟩);have f1:=zDF dB;have f2:=zDF kB;clear dB kB;go_wp2_with fail;refine wp_region_held_drew (S:=(fun w'=>w'.cell? ⟨w.heap.size,5,none⟩=some (.slice (some ⟨b,off,none⟩) W.pn c)/\w'.cell? ⟨V8,1,none⟩=some (.string (W.zOb k).name)/\w'.cell? ⟨V8,2,none⟩=some (.string (W.zOb k).set)/\w'.cell? ⟨b,off+j*8+1,none⟩=some (.string (W.zOb j).name)/\w'.cell? ⟨b,off+j*8+2,none⟩=some (.string (W.zOb j).set))) (by kernel_rfl) ?_ (fun hHeld=>?_)
         ·(try dsimp only)
          go_keep
         refine tk 0 (h:=tk 1 (h:=tk 2 (h:=tk 3 (h:=tk 4 (h:=tk 5 (h:=tk 6 (h:=tk 7 (h:=tk 8 (h:=tk 9 (h:=tk 10 (h:=tk 11 (h:=tk 12 (h:=tk 13 (h:=tk 14 (h:=tk 15 (h:=tk 16 (h:=tk 17 (h:=tk 18 (h:=tk 19 (h:=?_))))))))))))))))))));refine wpAnyH_done (by kernel_rfl) ?_ _;go_wp2;go_ret;exact⟨zK.no fun hA=>Hn.out (hA.2.2.2.2.2 k hlt).2.2,hb.drew⟩
        ·have Hn:=zB (show ¬((W.zOb j).set=(W.zOb k).set/\(W.zOb j).name=(W.zOb k).name)from fun h=>kB h.2);have f1:=zDF dB;have f2:=zBJ kB;clear dB kB;go_wp2_with fail;refine wp_region_held_drew (S:=(fun w'=>w'.cell? ⟨w.heap.size,5,none⟩=some (.slice (some ⟨b,off,none⟩) W.pn c)/\w'.cell? ⟨V8,1,none⟩=some (.string (W.zOb k).name)/\w'.cell? ⟨V8,2,none⟩=some (.string (W.zOb k).set)/\w'.cell? ⟨b,off+j*8+1,none⟩=some (.string (W.zOb j).name)/\w'.cell? ⟨b,off+j*8+2,none⟩=some (.string (W.zOb j).set))) (by kernel_rfl) ?_ (fun hHeld=>?_)
         ·(try dsimp only)
          go_keep
         refine tk 0 (h:=tk 1 (h:=tk 2 (h:=tk 3 (h:=tk 4 (h:=tk 5 (h:=tk 6 (h:=tk 7 (h:=tk 8 (h:=tk 9 (h:=tk 10 (h:=tk 11 (h:=tk 12 (h:=tk 13 (h:=tk 14 (h:=tk 15 (h:=tk 16 (h:=tk 17 (h:=tk 18 (h:=tk 19 (h:=?_))))))))))))))))))));refine wpAnyH_done (by kernel_rfl) ?_ _;go_wp2;go_roundw
         case rel=>exact⟨j+1,by omega,by go_num,qE sB Hc.out Hn.out,HX.out.zOU (Below.refl _ _).drew,HV.out.zOU (Below.refl _ _).drew,hb.drew⟩
         case measure=>simp[intOf];omega
       ·have Hn:=zB (show ¬((W.zOb j).set=(W.zOb k).set/\(W.zOb j).name=(W.zOb k).name)from fun h=>dB h.1);have f1:=zBJ dB;clear dB;go_wp2_with fail;refine wp_region_held_drew (S:=(fun w'=>w'.cell? ⟨w.heap.size,5,none⟩=some (.slice (some ⟨b,off,none⟩) W.pn c)/\w'.cell? ⟨V8,1,none⟩=some (.string (W.zOb k).name)/\w'.cell? ⟨V8,2,none⟩=some (.string (W.zOb k).set)/\w'.cell? ⟨b,off+j*8+1,none⟩=some (.string (W.zOb j).name)/\w'.cell? ⟨b,off+j*8+2,none⟩=some (.string (W.zOb j).set))) (by kernel_rfl) ?_ (fun hHeld=>?_)
        ·(try dsimp only)
         go_keep
        refine tk 0 (h:=tk 1 (h:=tk 2 (h:=tk 3 (h:=tk 4 (h:=tk 5 (h:=tk 6 (h:=tk 7 (h:=tk 8 (h:=tk 9 (h:=ts 10 (h:=ts 11 (h:=ts 12 (h:=ts 13 (h:=ts 14 (h:=ts 15 (h:=ts 16 (h:=ts 17 (h:=ts 18 (h:=tk 19 (h:=?_))))))))))))))))))));refine wpAnyH_done (by kernel_rfl) ?_ _;go_wp2;go_roundw
        case rel=>exact⟨j+1,by omega,by go_num,qE sB Hc.out Hn.out,HX.out.zOU (Below.refl _ _).drew,HV.out.zOU (Below.refl _ _).drew,hb.drew⟩
        case measure=>simp[intOf];omega
      ·obtain rfl:j=k:=(by omega);go_wp2;go_roundw
       case rel=>exact⟨j+1,by omega,by go_num,qE hlt mA.out ⟨nC.out,oC.out,Hc.out⟩,HX.out,hb⟩
       case measure=>simp[intOf];omega
end Go.Proofs.YtgabgheflgjgiaaGreatDoor
