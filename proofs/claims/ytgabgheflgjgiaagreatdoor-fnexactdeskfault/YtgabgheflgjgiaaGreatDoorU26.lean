/- A part of the proof. -/
import Derived.Test.YtgabgheflgjgiaaGreatDoorU12
import Derived.IntWalk
set_option linter.unusedVariables false
set_option maxRecDepth 20000
set_option maxHeartbeats 8000000
namespace Go.Proofs.YtgabgheflgjgiaaGreatDoor
open Go.RowKit Go.Maps
theorem zIc(v0 v1 v2 v3:Value)(lo hi:Nat)(W:zH)(w:World)(h:zr w lo hi v0 v1 v2 v3 W) :
  Calls Tryz.prog 100 #[qT v0 v1 v2 v3 W] w fun e w'=>zK (zAi W) e/\Below w.heap.size w w':=by
 have Hp:=zB h;obtain⟨m1,a,c,rfl,mc,-⟩:=id h.zOw;obtain⟨m2,a',c',rfl,mD,-⟩:=id h.zOy;unfold maxLen at m1 m2;clear h;have ha:=zC w (.cells #[v0,v1,.int .i64 W.time,.int .i64 W.next,.slice a' W.sn c',.slice a W.pn c] 40);have HB:=zB (za.zOt w v0 v1 (.int .i64 W.time) (.int .i64 W.next) (.slice a' W.sn c') (.slice a W.pn c) 40);obtain⟨⟨x0,x1⟩,⟨x2,x3⟩,⟨x4,x5⟩,⟨x6,x7⟩,⟨x8,x9⟩,⟨bB,jB⟩⟩:=HB.out;by_cases hT:zCS W.time 1 900000;rotate_left
 ·have HT:=zB hT;clear hT;go_enter Tryz.func100,Tryz.ntmps100;go_wp2_with fail;refine(zA1 _ _ _ _).mono ?_;rintro e w1 ⟨⟨t,rfl,ht⟩,rfl⟩;obtain rfl:t=false:=zP ht HT.out;clear ht;go_wp2;go_ret;exact⟨zK.no fun h=>HT.out h.1,ha⟩
 have HT:=zB hT;clear hT;by_cases hN:zCS W.next 1 900000;rotate_left
 ·have HN:=zB hN;clear hN;go_enter Tryz.func100,Tryz.ntmps100;go_wp2_with fail;refine(zA1 _ _ _ _).mono ?_;rintro e w1 ⟨⟨t,rfl,ht⟩,rfl⟩;obtain rfl:t=true:=ht.2 HT.out;clear ht;go_wp2_with fail;refine(zA1 _ _ _ _).mono ?_;rintro e w1 ⟨⟨t,rfl,ht⟩,rfl⟩;obtain rfl:t=false:=zP ht HN.out;clear ht;go_wp2;go_ret;exact⟨zK.no fun h=>HN.out h.2.1,ha⟩
 have HN:=zB hN;clear hN;go_enter Tryz.func100,Tryz.ntmps100;go_wp2_with fail;refine(zA1 _ _ _ _).mono ?_;rintro e w1 ⟨⟨t,rfl,ht⟩,rfl⟩;obtain rfl:t=true:=ht.2 HT.out;clear ht;go_wp2_with fail;refine(zA1 _ _ _ _).mono ?_;rintro e w1 ⟨⟨t,rfl,ht⟩,rfl⟩;obtain rfl:t=true:=ht.2 HN.out;clear ht;by_cases hs:W.sn<=8;rotate_left
 ·have gD:(8:Int)<(W.sn:Int):=(by omega);go_wp2;go_ret;exact⟨zK.no fun h=>hs h.2.2.1,ha⟩
 have gD:¬(8:Int)<(W.sn:Int):=by omega
 by_cases hp:W.pn<=20;rotate_left
 ·have fD:(20:Int)<(W.pn:Int):=(by omega);go_wp2;go_ret;exact⟨zK.no fun h=>hp h.2.2.2.1,ha⟩
 have fD:¬(20:Int)<(W.pn:Int):=by omega
 go_wp2;clear x0 x1 x2 x3 x4 x5 x6 x7 x8 x9 bB jB
 go_loopw [3] (fun i wr=>∃k:Nat,k<=W.sn/\i = .int .i64 k/\(∀j,j<k->zEC W j)/\za wr w.heap.size v0 v1 (.int .i64 W.time) (.int .i64 W.next) (.slice a' W.sn c') (.slice a W.pn c)/\Below w.heap.size w wr) (fun i _=>W.sn - (intOf i).toNat)
 case atStart=>exact⟨0,Nat.zero_le _,rfl,fun j hj=>absurd hj (Nat.not_lt_zero _),HB.out,ha⟩
 case round=>
  obtain⟨k,hk,rfl,aB,hX,hb⟩:=hrel;have nA:=zB aB;have HX:=zB hX;clear aB hX ha HB;by_cases lA:k<W.sn
  ·have dC:(k:Int)<(W.sn:Int):=(by omega);have aD:=zB ((Hp.out.zOy.zOp hb));obtain⟨b,off,vd,rfl,sA⟩:=(Hp.out.zOy.zOp hb).cells lA;obtain⟨-,ad,cd,rfl,-,-⟩:=id sA.zO5;have eB:=zC wr (.cells #[.string (W.zOy k).name,.int .i64 (W.zOy k).origin,.int .i64 (W.zOy k).zO0,.int .i64 (W.zOy k).rs,.int .i64 (W.zOy k).rb,.slice ad (W.zOy k).dn cd] 102);have iA:=zB (HX.out.zOp eB);have mA:=zB (za.zOt wr (.string (W.zOy k).name) (.int .i64 (W.zOy k).origin) (.int .i64 (W.zOy k).zO0) (.int .i64 (W.zOy k).rs) (.int .i64 (W.zOy k).rb) (.slice ad (W.zOy k).dn cd) 102);have eA:=zA hb eB;have q0:=sA.c0;have q1:=sA.c1;have q2:=sA.c2;have q3:=sA.c3;have q4:=sA.c4;have q5:=sA.c5;have aC:=sA.zO6;have qn:(wr.alloc (.cells #[.string (W.zOy k).name,.int .i64 (W.zOy k).origin,.int .i64 (W.zOy k).zO0,.int .i64 (W.zOy k).rs,.int .i64 (W.zOy k).rb,.slice ad (W.zOy k).dn cd] 102)).cell? ⟨b,off+(k - 1)*6,none⟩=some (.string (W.zOy (k - 1)).name):=by
    obtain⟨b',fC,jD,e,iB⟩:=((Hp.out.zOy.zOp hb).zOp eB).cells (show k - 1<W.sn by omega);cases e;exact iB.c0
   obtain⟨⟨x0,x1⟩,⟨x2,x3⟩,⟨x4,x5⟩,⟨x6,x7⟩,⟨x8,x9⟩,⟨bB,jB⟩⟩:=HX.out;go_wp2_with fail;clear x0 x1 x2 x3 x4 x5 x6 x7 x8 x9 bB jB q0 q1 q2 q3 q4 q5 sA;generalize wr.alloc (.cells #[.string (W.zOy k).name,.int .i64 (W.zOy k).origin,.int .i64 (W.zOy k).zO0,.int .i64 (W.zOy k).rs,.int .i64 (W.zOy k).rb,.slice ad (W.zOy k).dn cd] 102)=W5 at iA mA eA eB qn ⊢;obtain⟨⟨x0,-⟩,⟨x2,-⟩,⟨x4,-⟩,⟨x6,-⟩,⟨x8,-⟩,⟨bB,-⟩⟩:=iA.out;obtain⟨⟨y0,-⟩,⟨y1,-⟩,⟨y2,-⟩,-⟩:=mA.out
   as_aux_lemma=>
   refine wp_region_held_drew (S:=(fun w'=>w'.cell? ⟨w.heap.size,0,none⟩=some v0/\w'.cell? ⟨w.heap.size,1,none⟩=some v1/\w'.cell? ⟨w.heap.size,2,none⟩=some (.int .i64 W.time)/\w'.cell? ⟨w.heap.size,3,none⟩=some (.int .i64 W.next)/\w'.cell? ⟨w.heap.size,4,none⟩=some (.slice (some ⟨b,off,none⟩) W.sn c')/\w'.cell? ⟨w.heap.size,5,none⟩=some (.slice a W.pn c)/\w'.cell? ⟨wr.heap.size,0,none⟩=some (.string (W.zOy k).name)/\w'.cell? ⟨wr.heap.size,1,none⟩=some (.int .i64 (W.zOy k).origin)/\w'.cell? ⟨wr.heap.size,2,none⟩=some (.int .i64 (W.zOy k).zO0)/\w'.cell? ⟨b,off+(k - 1)*6,none⟩=some (.string (W.zOy (k - 1)).name))) (by kernel_rfl) ?_ (fun hHeld=>?_)
   ·(try dsimp only)
    go_keep
   refine tk 0 (h:=tk 1 (h:=?_));by_cases hA:qV (W.zOy k).name;rotate_left
   ·as_aux_lemma=>
    have Hn:=zB (show ¬zEC W k from fun h=>hA h.1);have HA:=zB hA;clear hA;refine rd [2] (rc (fun K hK=>?_) .nil);go_simp;go_at_call 43;refine(zAl (W.zOy k).name _ aC).mono ?_;rintro e wn ⟨⟨tn,rfl,cB⟩,rfl⟩;obtain rfl:tn=false:=zP cB HA.out;clear cB
    (try go_wp2_with fail)
    refine hK.out _ _ (by(try dsimp only);go_keep) ?_;clear hK K hHeld;intro hHeld
    try simp only[Act.put,s1,s2,s3]
    have fA:Below W5.heap.size W5 W5.drew:=(Below.refl _ _).drew;refine tk 3 (h:=tk 4 (h:=ts 5 (h:=ts 6 (h:=ts 7 (h:=ts 8 (h:=ts 9 (h:=ts 10 (h:=ts 11 (h:=ts 12 (h:=ts 13 (h:=ts 14 (h:=ts 15 (h:=ts 16 (h:=ts 17 (h:=ts 18 (h:=tk 19 (h:=tk 20 (h:=ts 21 (h:=ts 22 (h:=ts 23 (h:=ts 24 (h:=ts 25 (h:=ts 26 (h:=ts 27 (h:=?_)))))))))))))))))))))))));refine rd [28] (rc (fun K hK=>?_) .nil);split
    ·rename_i gA
     exact absurd (show false=true from gA) Bool.false_ne_true
    refine hK.out _ _ (by assumption) (fun hHeld=>?_);clear hK K
    try simp only[Act.put,s1,s2,s3]
    refine ts 29 (h:=ts 30 (h:=tk 31 (h:=tk 32 (h:=ts 33 (h:=ts 34 (h:=ts 35 (h:=ts 36 (h:=ts 37 (h:=ts 38 (h:=ts 39 (h:=?_)))))))))));refine rd [40] (rc (fun K hK=>?_) .nil);split
    ·rename_i gA
     exact absurd (show false=true from gA) Bool.false_ne_true
    refine hK.out _ _ (by assumption) (fun hHeld=>?_);clear hK K
    try simp only[Act.put,s1,s2,s3]
    refine ts 41 (h:=ts 42 (h:=tk 43 (h:=?_)));refine wpAnyH_done (by kernel_rfl) ?_ _;go_wp2;go_ret;exact⟨zK.no fun hA=>Hn.out (hA.2.2.2.2.1 k lA),zA eA fA⟩
   as_aux_lemma=>
   have HA:=zB hA;clear hA;refine rd [2] (rc (fun K hK=>?_) .nil);go_simp;go_at_call 43;refine(zAl (W.zOy k).name _ aC).mono ?_;rintro e wn ⟨⟨tn,rfl,cB⟩,rfl⟩;obtain rfl:tn=true:=cB.2 HA.out;clear cB
   (try go_wp2_with fail)
   refine hK.out _ _ (by(try dsimp only);go_keep) ?_;clear hK K hHeld;intro hHeld
   try simp only[Act.put,s1,s2,s3]
   have fA:Below W5.heap.size W5 W5.drew:=(Below.refl _ _).drew;refine tk 3 (h:=tk 4 (h:=tk 5 (h:=?_)));by_cases pB:0<k;rotate_left
   ·as_aux_lemma=>
    have cC:decide ((0:Int)<(k:Int))=false:=(by simp;omega);have dB:=zB (show 0<k->zAN (W.zOy (k - 1)).name (W.zOy k).name from fun h=>absurd h pB);refine tk 6 (h:=tk 7 (h:=ts 8 (h:=ts 9 (h:=ts 10 (h:=ts 11 (h:=ts 12 (h:=ts 13 (h:=ts 14 (h:=ts 15 (h:=ts 16 (h:=ts 17 (h:=tk 18 (h:=tk 19 (h:=tk 20 (h:=tk 21 (h:=tk 22 (h:=?_)))))))))))))))));by_cases hz:(W.zOy k).zO0=0
    ·as_aux_lemma=>
     have oA:((W.zOy k).zO0 == 0)=true:=(by simp[hz]);have pA:decide ((W.zOy k).zO0=0)=true:=(by simp[hz]);have rA:((W.zOy k).zO0 != 0)=false:=(by simp[hz]);have vA:=zB (show(W.zOy k).zO0≠0->qL W (W.zOy k).zO0 from fun h=>absurd hz h);clear hz;refine tk 23 (h:=tk 24 (h:=ts 25 (h:=ts 26 (h:=ts 27 (h:=?_)))));refine rd [28] (rc (fun K hK=>?_) .nil);split
     ·rename_i gA
      exact absurd (show false=true from gA) Bool.false_ne_true
     refine hK.out _ _ (by assumption) (fun hHeld=>?_);clear hK K
     try simp only[Act.put,s1,s2,s3]
     refine ts 29 (h:=tk 30 (h:=tk 31 (h:=?_)));clear oA pA rA;refine tk 32 (h:=tk 33 (h:=tk 34 (h:=?_)));by_cases hz:(W.zOy k).origin=0
     ·as_aux_lemma=>
      have oA:((W.zOy k).origin == 0)=true:=(by simp[hz]);have pA:decide ((W.zOy k).origin=0)=true:=(by simp[hz]);have rA:((W.zOy k).origin != 0)=false:=(by simp[hz]);have tA:=zB (show(W.zOy k).origin≠0->qL W (W.zOy k).origin from fun h=>absurd hz h);clear hz;refine tk 35 (h:=tk 36 (h:=ts 37 (h:=ts 38 (h:=ts 39 (h:=?_)))));refine rd [40] (rc (fun K hK=>?_) .nil);split
      ·rename_i gA
       exact absurd (show false=true from gA) Bool.false_ne_true
      refine hK.out _ _ (by assumption) (fun hHeld=>?_);clear hK K
      try simp only[Act.put,s1,s2,s3]
      refine ts 41 (h:=tk 42 (h:=tk 43 (h:=?_)));refine wpAnyH_done (by kernel_rfl) ?_ _;go_wp2;go_roundw
      case rel=>exact⟨k+1,by omega,by go_num,qE lA nA.out ⟨HA.out,dB.out,vA.out,tA.out⟩,iA.out.zOp fA,(zA eA fA)⟩
      case measure=>simp[intOf];omega
     as_aux_lemma=>
     have oA:((W.zOy k).origin == 0)=false:=(by simp[hz]);have pA:decide ((W.zOy k).origin=0)=false:=(by simp[hz]);have rA:((W.zOy k).origin != 0)=true:=(by simp[hz]);have Hz:=zB hz;clear hz;refine tk 35 (h:=tk 36 (h:=tk 37 (h:=tk 38 (h:=tk 39 (h:=?_)))));by_cases dA:qL W (W.zOy k).origin;rotate_left
     ·as_aux_lemma=>
      have bA:=zB dA;have Hn:=zB (show ¬zEC W k from fun h=>dA (h.2.2.2 Hz.out));clear dA;refine rd [40] (rc (fun K hK=>?_) .nil);go_simp;go_at_call 52;refine(zm v0 v1 _ _ lo hi W (W.zOy k).origin _ ?_).mono ?_
      ·exact Hp.out.zOp (zA eA fA)
      rintro e wo ⟨r,rfl,hF,kA⟩;have hf:=qY hF;replace hf:=hf.resolve_left (fun h=>bA.out h.1);have hr:decide (r<0)=true:=(by rw[hf.2];rfl);clear hF;have cA:Below W5.heap.size W5 wo:=zA fA kA;obtain⟨⟨k0,_⟩,⟨k1,_⟩,⟨k2,_⟩,⟨k3,_⟩,⟨k4,_⟩,⟨k5,_⟩⟩:=iA.out.zOp cA;obtain⟨⟨l0,_⟩,⟨l1,_⟩,⟨l2,_⟩,_⟩:=mA.out.zOp cA;have n0:=(cA.cell (zD qn)).trans qn
      (try go_wp2_with fail)
      refine hK.out _ _ (by(try dsimp only);go_keep) ?_;clear hK K hHeld;intro hHeld
      try simp only[Act.put,s1,s2,s3]
      refine tk 41 (h:=tk 42 (h:=tk 43 (h:=?_)));refine wpAnyH_done (by kernel_rfl) ?_ _;go_wp2;go_ret;exact⟨zK.no fun hA=>Hn.out (hA.2.2.2.2.1 k lA),zA eA cA⟩
     as_aux_lemma=>
     have bA:=zB dA;have tA:=zB (show(W.zOy k).origin≠0->qL W (W.zOy k).origin from fun _=>dA);clear dA;refine rd [40] (rc (fun K hK=>?_) .nil);go_simp;go_at_call 52;refine(zm v0 v1 _ _ lo hi W (W.zOy k).origin _ ?_).mono ?_
     ·exact Hp.out.zOp (zA eA fA)
     rintro e wo ⟨r,rfl,hF,kA⟩;have hf:=qY hF;replace hf:=hf.resolve_right (fun h=>h.1 bA.out);have hr:decide (r<0)=false:=(by have:=hf.2.1;simp;omega);clear hF;have cA:Below W5.heap.size W5 wo:=zA fA kA;obtain⟨⟨k0,_⟩,⟨k1,_⟩,⟨k2,_⟩,⟨k3,_⟩,⟨k4,_⟩,⟨k5,_⟩⟩:=iA.out.zOp cA;obtain⟨⟨l0,_⟩,⟨l1,_⟩,⟨l2,_⟩,_⟩:=mA.out.zOp cA;have n0:=(cA.cell (zD qn)).trans qn
     (try go_wp2_with fail)
     refine hK.out _ _ (by(try dsimp only);go_keep) ?_;clear hK K hHeld;intro hHeld
     try simp only[Act.put,s1,s2,s3]
     refine tk 41 (h:=tk 42 (h:=tk 43 (h:=?_)));refine wpAnyH_done (by kernel_rfl) ?_ _;go_wp2;go_roundw
     case rel=>exact⟨k+1,by omega,by go_num,qE lA nA.out ⟨HA.out,dB.out,vA.out,tA.out⟩,iA.out.zOp cA,zA eA cA⟩
     case measure=>simp[intOf];omega
    as_aux_lemma=>
    have oA:((W.zOy k).zO0 == 0)=false:=(by simp[hz]);have pA:decide ((W.zOy k).zO0=0)=false:=(by simp[hz]);have rA:((W.zOy k).zO0 != 0)=true:=(by simp[hz]);have Hz:=zB hz;clear hz;refine tk 23 (h:=tk 24 (h:=tk 25 (h:=tk 26 (h:=tk 27 (h:=?_)))));by_cases dA:qL W (W.zOy k).zO0;rotate_left
    ·as_aux_lemma=>
     have jA:=zB dA;have Hn:=zB (show ¬zEC W k from fun h=>dA (h.2.2.1 Hz.out));clear dA;refine rd [28] (rc (fun K hK=>?_) .nil);go_simp;go_at_call 52;refine(zm v0 v1 _ _ lo hi W (W.zOy k).zO0 _ ?_).mono ?_
     ·exact Hp.out.zOp (zA eA fA)
     rintro e wp ⟨r,rfl,hF,kA⟩;have hf:=qY hF;replace hf:=hf.resolve_left (fun h=>jA.out h.1);have hr:decide (r<0)=true:=(by rw[hf.2];rfl);clear hF;have aA:Below W5.heap.size W5 wp:=zA fA kA;obtain⟨⟨k0,_⟩,⟨k1,_⟩,⟨k2,_⟩,⟨k3,_⟩,⟨k4,_⟩,⟨k5,_⟩⟩:=iA.out.zOp aA;obtain⟨⟨l0,_⟩,⟨l1,_⟩,⟨l2,_⟩,_⟩:=mA.out.zOp aA;have n0:=(aA.cell (zD qn)).trans qn
     (try go_wp2_with fail)
     refine hK.out _ _ (by(try dsimp only);go_keep) ?_;clear hK K hHeld;intro hHeld
     try simp only[Act.put,s1,s2,s3]
     refine tk 29 (h:=tk 30 (h:=tk 31 (h:=tk 32 (h:=ts 33 (h:=ts 34 (h:=ts 35 (h:=ts 36 (h:=ts 37 (h:=ts 38 (h:=ts 39 (h:=?_)))))))))));refine rd [40] (rc (fun K hK=>?_) .nil);split
     ·rename_i gA
      exact absurd (show false=true from gA) Bool.false_ne_true
     refine hK.out _ _ (by assumption) (fun hHeld=>?_);clear hK K
     try simp only[Act.put,s1,s2,s3]
     refine ts 41 (h:=ts 42 (h:=tk 43 (h:=?_)));refine wpAnyH_done (by kernel_rfl) ?_ _;go_wp2;go_ret;exact⟨zK.no fun hA=>Hn.out (hA.2.2.2.2.1 k lA),zA eA aA⟩
    as_aux_lemma=>
    have jA:=zB dA;have vA:=zB (show(W.zOy k).zO0≠0->qL W (W.zOy k).zO0 from fun _=>dA);clear dA;refine rd [28] (rc (fun K hK=>?_) .nil);go_simp;go_at_call 52;refine(zm v0 v1 _ _ lo hi W (W.zOy k).zO0 _ ?_).mono ?_
    ·exact Hp.out.zOp (zA eA fA)
    rintro e wp ⟨r,rfl,hF,kA⟩;have hf:=qY hF;replace hf:=hf.resolve_right (fun h=>h.1 jA.out);have hr:decide (r<0)=false:=(by have:=hf.2.1;simp;omega);clear hF;have aA:Below W5.heap.size W5 wp:=zA fA kA;obtain⟨⟨k0,_⟩,⟨k1,_⟩,⟨k2,_⟩,⟨k3,_⟩,⟨k4,_⟩,⟨k5,_⟩⟩:=iA.out.zOp aA;obtain⟨⟨l0,_⟩,⟨l1,_⟩,⟨l2,_⟩,_⟩:=mA.out.zOp aA;have n0:=(aA.cell (zD qn)).trans qn
    (try go_wp2_with fail)
    refine hK.out _ _ (by(try dsimp only);go_keep) ?_;clear hK K hHeld;intro hHeld
    try simp only[Act.put,s1,s2,s3]
    refine tk 29 (h:=tk 30 (h:=tk 31 (h:=?_)));clear hr oA pA rA;refine tk 32 (h:=tk 33 (h:=tk 34 (h:=?_)));by_cases hz:(W.zOy k).origin=0
    ·as_aux_lemma=>
     have oA:((W.zOy k).origin == 0)=true:=(by simp[hz]);have pA:decide ((W.zOy k).origin=0)=true:=(by simp[hz]);have rA:((W.zOy k).origin != 0)=false:=(by simp[hz]);have tA:=zB (show(W.zOy k).origin≠0->qL W (W.zOy k).origin from fun h=>absurd hz h);clear hz;refine tk 35 (h:=tk 36 (h:=ts 37 (h:=ts 38 (h:=ts 39 (h:=?_)))));refine rd [40] (rc (fun K hK=>?_) .nil);split
     ·rename_i gA
      exact absurd (show false=true from gA) Bool.false_ne_true
     refine hK.out _ _ (by assumption) (fun hHeld=>?_);clear hK K
     try simp only[Act.put,s1,s2,s3]
     refine ts 41 (h:=tk 42 (h:=tk 43 (h:=?_)));refine wpAnyH_done (by kernel_rfl) ?_ _;go_wp2;go_roundw
     case rel=>exact⟨k+1,by omega,by go_num,qE lA nA.out ⟨HA.out,dB.out,vA.out,tA.out⟩,iA.out.zOp aA,(zA eA aA)⟩
     case measure=>simp[intOf];omega
    as_aux_lemma=>
    have oA:((W.zOy k).origin == 0)=false:=(by simp[hz]);have pA:decide ((W.zOy k).origin=0)=false:=(by simp[hz]);have rA:((W.zOy k).origin != 0)=true:=(by simp[hz]);have Hz:=zB hz;clear hz;refine tk 35 (h:=tk 36 (h:=tk 37 (h:=tk 38 (h:=tk 39 (h:=?_)))));by_cases dA:qL W (W.zOy k).origin;rotate_left
    ·as_aux_lemma=>
     have bA:=zB dA;have Hn:=zB (show ¬zEC W k from fun h=>dA (h.2.2.2 Hz.out));clear dA;refine rd [40] (rc (fun K hK=>?_) .nil);go_simp;go_at_call 52;refine(zm v0 v1 _ _ lo hi W (W.zOy k).origin _ ?_).mono ?_
     ·exact Hp.out.zOp (zA eA aA)
     rintro e wo ⟨r,rfl,hF,kA⟩;have hf:=qY hF;replace hf:=hf.resolve_left (fun h=>bA.out h.1);have hr:decide (r<0)=true:=(by rw[hf.2];rfl);clear hF;have cA:Below W5.heap.size W5 wo:=zA aA kA;obtain⟨⟨k0,_⟩,⟨k1,_⟩,⟨k2,_⟩,⟨k3,_⟩,⟨k4,_⟩,⟨k5,_⟩⟩:=iA.out.zOp cA;obtain⟨⟨l0,_⟩,⟨l1,_⟩,⟨l2,_⟩,_⟩:=mA.out.zOp cA;have n0:=(cA.cell (zD qn)).trans qn
     (try go_wp2_with fail)
     refine hK.out _ _ (by(try dsimp only);go_keep) ?_;clear hK K hHeld;intro hHeld
     try simp only[Act.put,s1,s2,s3]
     refine tk 41 (h:=tk 42 (h:=tk 43 (h:=?_)));refine wpAnyH_done (by kernel_rfl) ?_ _;go_wp2;go_ret;exact⟨zK.no fun hA=>Hn.out (hA.2.2.2.2.1 k lA),zA eA cA⟩
    as_aux_lemma=>
    have bA:=zB dA;have tA:=zB (show(W.zOy k).origin≠0->qL W (W.zOy k).origin from fun _=>dA);clear dA;refine rd [40] (rc (fun K hK=>?_) .nil);go_simp;go_at_call 52;refine(zm v0 v1 _ _ lo hi W (W.zOy k).origin _ ?_).mono ?_
    ·exact Hp.out.zOp (zA eA aA)
    rintro e wo ⟨r,rfl,hF,kA⟩;have hf:=qY hF;replace hf:=hf.resolve_right (fun h=>h.1 bA.out);have hr:decide (r<0)=false:=(by have:=hf.2.1;simp;omega);clear hF;have cA:Below W5.heap.size W5 wo:=zA aA kA;obtain⟨⟨k0,_⟩,⟨k1,_⟩,⟨k2,_⟩,⟨k3,_⟩,⟨k4,_⟩,⟨k5,_⟩⟩:=iA.out.zOp cA;obtain⟨⟨l0,_⟩,⟨l1,_⟩,⟨l2,_⟩,_⟩:=mA.out.zOp cA;have n0:=(cA.cell (zD qn)).trans qn
    (try go_wp2_with fail)
    refine hK.out _ _ (by(try dsimp only);go_keep) ?_;clear hK K hHeld;intro hHeld
    try simp only[Act.put,s1,s2,s3]
    refine tk 41 (h:=tk 42 (h:=tk 43 (h:=?_)));refine wpAnyH_done (by kernel_rfl) ?_ _;go_wp2;go_roundw
    case rel=>exact⟨k+1,by omega,by go_num,qE lA nA.out ⟨HA.out,dB.out,vA.out,tA.out⟩,iA.out.zOp cA,zA eA cA⟩
    case measure=>simp[intOf];omega
   as_aux_lemma=>
   have cC:(0:Int)<(k:Int):=(by omega);have eC:IntKind.i64.wrap ((k:Int) - 1)=((k - 1:Nat):Int):=(by rw[Int.ofNat_sub (by omega)];exact IntWalk.i64_in _ (by omega));have eD:((k - 1:Nat):Int)<(W.sn:Int):=(by omega);refine tk 6 (h:=tk 7 (h:=tk 8 (h:=tk 9 (h:=tk 10 (h:=tk 11 (h:=tk 12 (h:=tk 13 (h:=tk 14 (h:=tk 15 (h:=tk 16 (h:=?_)))))))))));by_cases hB:zAN (W.zOy (k - 1)).name (W.zOy k).name;rotate_left
   ·as_aux_lemma=>
    have Hn:=zB (show ¬zEC W k from fun h=>hB (h.2.1 pB));have nC:Op.bytesLess (W.zOy (k - 1)).name.toList (W.zOy k).name.toList=false:=(by simpa[zAN]using hB);clear hB;refine tk 17 (h:=tk 18 (h:=tk 19 (h:=tk 20 (h:=ts 21 (h:=ts 22 (h:=ts 23 (h:=ts 24 (h:=ts 25 (h:=ts 26 (h:=ts 27 (h:=?_)))))))))));refine rd [28] (rc (fun K hK=>?_) .nil);split
    ·rename_i gA
     exact absurd (show false=true from gA) Bool.false_ne_true
    refine hK.out _ _ (by assumption) (fun hHeld=>?_);clear hK K
    try simp only[Act.put,s1,s2,s3]
    refine ts 29 (h:=ts 30 (h:=tk 31 (h:=tk 32 (h:=ts 33 (h:=ts 34 (h:=ts 35 (h:=ts 36 (h:=ts 37 (h:=ts 38 (h:=ts 39 (h:=?_)))))))))));refine rd [40] (rc (fun K hK=>?_) .nil);split
    ·rename_i gA
     exact absurd (show false=true from gA) Bool.false_ne_true
    refine hK.out _ _ (by assumption) (fun hHeld=>?_);clear hK K
    try simp only[Act.put,s1,s2,s3]
    refine ts 41 (h:=ts 42 (h:=tk 43 (h:=?_)));refine wpAnyH_done (by kernel_rfl) ?_ _;go_wp2;go_ret;exact⟨zK.no fun hA=>Hn.out (hA.2.2.2.2.1 k lA),zA eA fA⟩
   as_aux_lemma=>
   have dB:=zB (show 0<k->zAN (W.zOy (k - 1)).name (W.zOy k).name from fun _=>hB);have nC:Op.bytesLess (W.zOy (k - 1)).name.toList (W.zOy k).name.toList=true:=hB;clear hB;refine tk 17 (h:=tk 18 (h:=tk 19 (h:=?_)));clear nC;refine tk 20 (h:=tk 21 (h:=tk 22 (h:=?_)));by_cases hz:(W.zOy k).zO0=0
   ·as_aux_lemma=>
    have oA:((W.zOy k).zO0 == 0)=true:=(by simp[hz]);have pA:decide ((W.zOy k).zO0=0)=true:=(by simp[hz]);have rA:((W.zOy k).zO0 != 0)=false:=(by simp[hz]);have vA:=zB (show(W.zOy k).zO0≠0->qL W (W.zOy k).zO0 from fun h=>absurd hz h);clear hz;refine tk 23 (h:=tk 24 (h:=ts 25 (h:=ts 26 (h:=ts 27 (h:=?_)))));refine rd [28] (rc (fun K hK=>?_) .nil);split
    ·rename_i gA
     exact absurd (show false=true from gA) Bool.false_ne_true
    refine hK.out _ _ (by assumption) (fun hHeld=>?_);clear hK K
    try simp only[Act.put,s1,s2,s3]
    refine ts 29 (h:=tk 30 (h:=tk 31 (h:=?_)));clear oA pA rA;refine tk 32 (h:=tk 33 (h:=tk 34 (h:=?_)));by_cases hz:(W.zOy k).origin=0
    ·as_aux_lemma=>
     have oA:((W.zOy k).origin == 0)=true:=(by simp[hz]);have pA:decide ((W.zOy k).origin=0)=true:=(by simp[hz]);have rA:((W.zOy k).origin != 0)=false:=(by simp[hz]);have tA:=zB (show(W.zOy k).origin≠0->qL W (W.zOy k).origin from fun h=>absurd hz h);clear hz;refine tk 35 (h:=tk 36 (h:=ts 37 (h:=ts 38 (h:=ts 39 (h:=?_)))));refine rd [40] (rc (fun K hK=>?_) .nil);split
     ·rename_i gA
      exact absurd (show false=true from gA) Bool.false_ne_true
     refine hK.out _ _ (by assumption) (fun hHeld=>?_);clear hK K
     try simp only[Act.put,s1,s2,s3]
     refine ts 41 (h:=tk 42 (h:=tk 43 (h:=?_)));refine wpAnyH_done (by kernel_rfl) ?_ _;go_wp2;go_roundw
     case rel=>exact⟨k+1,by omega,by go_num,qE lA nA.out ⟨HA.out,dB.out,vA.out,tA.out⟩,iA.out.zOp fA,(zA eA fA)⟩
     case measure=>simp[intOf];omega
    as_aux_lemma=>
    have oA:((W.zOy k).origin == 0)=false:=(by simp[hz]);have pA:decide ((W.zOy k).origin=0)=false:=(by simp[hz]);have rA:((W.zOy k).origin != 0)=true:=(by simp[hz]);have Hz:=zB hz;clear hz;refine tk 35 (h:=tk 36 (h:=tk 37 (h:=tk 38 (h:=tk 39 (h:=?_)))));by_cases dA:qL W (W.zOy k).origin;rotate_left
    ·as_aux_lemma=>
     have bA:=zB dA;have Hn:=zB (show ¬zEC W k from fun h=>dA (h.2.2.2 Hz.out));clear dA;refine rd [40] (rc (fun K hK=>?_) .nil);go_simp;go_at_call 52;refine(zm v0 v1 _ _ lo hi W (W.zOy k).origin _ ?_).mono ?_
     ·exact Hp.out.zOp (zA eA fA)
     rintro e wo ⟨r,rfl,hF,kA⟩;have hf:=qY hF;replace hf:=hf.resolve_left (fun h=>bA.out h.1);have hr:decide (r<0)=true:=(by rw[hf.2];rfl);clear hF;have cA:Below W5.heap.size W5 wo:=zA fA kA;obtain⟨⟨k0,_⟩,⟨k1,_⟩,⟨k2,_⟩,⟨k3,_⟩,⟨k4,_⟩,⟨k5,_⟩⟩:=iA.out.zOp cA;obtain⟨⟨l0,_⟩,⟨l1,_⟩,⟨l2,_⟩,_⟩:=mA.out.zOp cA;have n0:=(cA.cell (zD qn)).trans qn
     (try go_wp2_with fail)
     refine hK.out _ _ (by(try dsimp only);go_keep) ?_;clear hK K hHeld;intro hHeld
     try simp only[Act.put,s1,s2,s3]
     refine tk 41 (h:=tk 42 (h:=tk 43 (h:=?_)));refine wpAnyH_done (by kernel_rfl) ?_ _;go_wp2;go_ret;exact⟨zK.no fun hA=>Hn.out (hA.2.2.2.2.1 k lA),zA eA cA⟩
    as_aux_lemma=>
    have bA:=zB dA;have tA:=zB (show(W.zOy k).origin≠0->qL W (W.zOy k).origin from fun _=>dA);clear dA;refine rd [40] (rc (fun K hK=>?_) .nil);go_simp;go_at_call 52;refine(zm v0 v1 _ _ lo hi W (W.zOy k).origin _ ?_).mono ?_
    ·exact Hp.out.zOp (zA eA fA)
    rintro e wo ⟨r,rfl,hF,kA⟩;have hf:=qY hF;replace hf:=hf.resolve_right (fun h=>h.1 bA.out);have hr:decide (r<0)=false:=(by have:=hf.2.1;simp;omega);clear hF;have cA:Below W5.heap.size W5 wo:=zA fA kA;obtain⟨⟨k0,_⟩,⟨k1,_⟩,⟨k2,_⟩,⟨k3,_⟩,⟨k4,_⟩,⟨k5,_⟩⟩:=iA.out.zOp cA;obtain⟨⟨l0,_⟩,⟨l1,_⟩,⟨l2,_⟩,_⟩:=mA.out.zOp cA;have n0:=(cA.cell (zD qn)).trans qn
    (try go_wp2_with fail)
    refine hK.out _ _ (by(try dsimp only);go_keep) ?_;clear hK K hHeld;intro hHeld
    try simp only[Act.put,s1,s2,s3]
    refine tk 41 (h:=tk 42 (h:=tk 43 (h:=?_)));refine wpAnyH_done (by kernel_rfl) ?_ _;go_wp2;go_roundw
    case rel=>exact⟨k+1,by omega,by go_num,qE lA nA.out ⟨HA.out,dB.out,vA.out,tA.out⟩,iA.out.zOp cA,zA eA cA⟩
    case measure=>simp[intOf];omega
   as_aux_lemma=>
   have oA:((W.zOy k).zO0 == 0)=false:=(by simp[hz]);have pA:decide ((W.zOy k).zO0=0)=false:=(by simp[hz]);have rA:((W.zOy k).zO0 != 0)=true:=(by simp[hz]);have Hz:=zB hz;clear hz;refine tk 23 (h:=tk 24 (h:=tk 25 (h:=tk 26 (h:=tk 27 (h:=?_)))));by_cases dA:qL W (W.zOy k).zO0;rotate_left
   ·as_aux_lemma=>
    have jA:=zB dA;have Hn:=zB (show ¬zEC W k from fun h=>dA (h.2.2.1 Hz.out));clear dA;refine rd [28] (rc (fun K hK=>?_) .nil);go_simp;go_at_call 52;refine(zm v0 v1 _ _ lo hi W (W.zOy k).zO0 _ ?_).mono ?_
    ·exact Hp.out.zOp (zA eA fA)
    rintro e wp ⟨r,rfl,hF,kA⟩;have hf:=qY hF;replace hf:=hf.resolve_left (fun h=>jA.out h.1);have hr:decide (r<0)=true:=(by rw[hf.2];rfl);clear hF;have aA:Below W5.heap.size W5 wp:=zA fA kA;obtain⟨⟨k0,_⟩,⟨k1,_⟩,⟨k2,_⟩,⟨k3,_⟩,⟨k4,_⟩,⟨k5,_⟩⟩:=iA.out.zOp aA;obtain⟨⟨l0,_⟩,⟨l1,_⟩,⟨l2,_⟩,_⟩:=mA.out.zOp aA;have n0:=(aA.cell (zD qn)).trans qn
    (try go_wp2_with fail)
    refine hK.out _ _ (by(try dsimp only);go_keep) ?_;clear hK K hHeld;intro hHeld
    try simp only[Act.put,s1,s2,s3]
    refine tk 29 (h:=tk 30 (h:=tk 31 (h:=tk 32 (h:=ts 33 (h:=ts 34 (h:=ts 35 (h:=ts 36 (h:=ts 37 (h:=ts 38 (h:=ts 39 (h:=?_)))))))))));refine rd [40] (rc (fun K hK=>?_) .nil);split
    ·rename_i gA
     exact absurd (show false=true from gA) Bool.false_ne_true
    refine hK.out _ _ (by assumption) (fun hHeld=>?_);clear hK K
    try simp only[Act.put,s1,s2,s3]
    refine ts 41 (h:=ts 42 (h:=tk 43 (h:=?_)));refine wpAnyH_done (by kernel_rfl) ?_ _;go_wp2;go_ret;exact⟨zK.no fun hA=>Hn.out (hA.2.2.2.2.1 k lA),zA eA aA⟩
   as_aux_lemma=>
   have jA:=zB dA;have vA:=zB (show(W.zOy k).zO0≠0->qL W (W.zOy k).zO0 from fun _=>dA);clear dA;refine rd [28] (rc (fun K hK=>?_) .nil);go_simp;go_at_call 52;refine(zm v0 v1 _ _ lo hi W (W.zOy k).zO0 _ ?_).mono ?_
   ·exact Hp.out.zOp (zA eA fA)
   rintro e wp ⟨r,rfl,hF,kA⟩;have hf:=qY hF;replace hf:=hf.resolve_right (fun h=>h.1 jA.out);have hr:decide (r<0)=false:=(by have:=hf.2.1;simp;omega);clear hF;have aA:Below W5.heap.size W5 wp:=zA fA kA;obtain⟨⟨k0,_⟩,⟨k1,_⟩,⟨k2,_⟩,⟨k3,_⟩,⟨k4,_⟩,⟨k5,_⟩⟩:=iA.out.zOp aA;obtain⟨⟨l0,_⟩,⟨l1,_⟩,⟨l2,_⟩,_⟩:=mA.out.zOp aA;have n0:=(aA.cell (zD qn)).trans qn
   (try go_wp2_with fail)
   refine hK.out _ _ (by(try dsimp only);go_keep) ?_;clear hK K hHeld;intro hHeld
   try simp only[Act.put,s1,s2,s3]
   refine tk 29 (h:=tk 30 (h:=tk 31 (h:=?_)));clear hr oA pA rA;refine tk 32 (h:=tk 33 (h:=tk 34 (h:=?_)));by_cases hz:(W.zOy k).origin=0
   ·as_aux_lemma=>
    have oA:((W.zOy k).origin == 0)=true:=(by simp[hz]);have pA:decide ((W.zOy k).origin=0)=true:=(by simp[hz]);have rA:((W.zOy k).origin != 0)=false:=(by simp[hz]);have tA:=zB (show(W.zOy k).origin≠0->qL W (W.zOy k).origin from fun h=>absurd hz h);clear hz;refine tk 35 (h:=tk 36 (h:=ts 37 (h:=ts 38 (h:=ts 39 (h:=?_)))));refine rd [40] (rc (fun K hK=>?_) .nil);split
    ·rename_i gA
     exact absurd (show false=true from gA) Bool.false_ne_true
    refine hK.out _ _ (by assumption) (fun hHeld=>?_);clear hK K
    try simp only[Act.put,s1,s2,s3]
    refine ts 41 (h:=tk 42 (h:=tk 43 (h:=?_)));refine wpAnyH_done (by kernel_rfl) ?_ _;go_wp2;go_roundw
    case rel=>exact⟨k+1,by omega,by go_num,qE lA nA.out ⟨HA.out,dB.out,vA.out,tA.out⟩,iA.out.zOp aA,(zA eA aA)⟩
    case measure=>simp[intOf];omega
   as_aux_lemma=>
   have oA:((W.zOy k).origin == 0)=false:=(by simp[hz]);have pA:decide ((W.zOy k).origin=0)=false:=(by simp[hz]);have rA:((W.zOy k).origin != 0)=true:=(by simp[hz]);have Hz:=zB hz;clear hz;refine tk 35 (h:=tk 36 (h:=tk 37 (h:=tk 38 (h:=tk 39 (h:=?_)))));by_cases dA:qL W (W.zOy k).origin;rotate_left
   ·as_aux_lemma=>
    have bA:=zB dA;have Hn:=zB (show ¬zEC W k from fun h=>dA (h.2.2.2 Hz.out));clear dA;refine rd [40] (rc (fun K hK=>?_) .nil);go_simp;go_at_call 52;refine(zm v0 v1 _ _ lo hi W (W.zOy k).origin _ ?_).mono ?_
    ·exact Hp.out.zOp (zA eA aA)
    rintro e wo ⟨r,rfl,hF,kA⟩;have hf:=qY hF;replace hf:=hf.resolve_left (fun h=>bA.out h.1);have hr:decide (r<0)=true:=(by rw[hf.2];rfl);clear hF;have cA:Below W5.heap.size W5 wo:=zA aA kA;obtain⟨⟨k0,_⟩,⟨k1,_⟩,⟨k2,_⟩,⟨k3,_⟩,⟨k4,_⟩,⟨k5,_⟩⟩:=iA.out.zOp cA;obtain⟨⟨l0,_⟩,⟨l1,_⟩,⟨l2,_⟩,_⟩:=mA.out.zOp cA;have n0:=(cA.cell (zD qn)).trans qn
    (try go_wp2_with fail)
    refine hK.out _ _ (by(try dsimp only);go_keep) ?_;clear hK K hHeld;intro hHeld
    try simp only[Act.put,s1,s2,s3]
    refine tk 41 (h:=tk 42 (h:=tk 43 (h:=?_)));refine wpAnyH_done (by kernel_rfl) ?_ _;go_wp2;go_ret;exact⟨zK.no fun hA=>Hn.out (hA.2.2.2.2.1 k lA),zA eA cA⟩
   as_aux_lemma=>
   have bA:=zB dA;have tA:=zB (show(W.zOy k).origin≠0->qL W (W.zOy k).origin from fun _=>dA);clear dA;refine rd [40] (rc (fun K hK=>?_) .nil);go_simp;go_at_call 52;refine(zm v0 v1 _ _ lo hi W (W.zOy k).origin _ ?_).mono ?_
   ·exact Hp.out.zOp (zA eA aA)
   rintro e wo ⟨r,rfl,hF,kA⟩;have hf:=qY hF;replace hf:=hf.resolve_right (fun h=>h.1 bA.out);have hr:decide (r<0)=false:=(by have:=hf.2.1;simp;omega);clear hF;have cA:Below W5.heap.size W5 wo:=zA aA kA;obtain⟨⟨k0,_⟩,⟨k1,_⟩,⟨k2,_⟩,⟨k3,_⟩,⟨k4,_⟩,⟨k5,_⟩⟩:=iA.out.zOp cA;obtain⟨⟨l0,_⟩,⟨l1,_⟩,⟨l2,_⟩,_⟩:=mA.out.zOp cA;have n0:=(cA.cell (zD qn)).trans qn
   (try go_wp2_with fail)
   refine hK.out _ _ (by(try dsimp only);go_keep) ?_;clear hK K hHeld;intro hHeld
   try simp only[Act.put,s1,s2,s3]
   refine tk 41 (h:=tk 42 (h:=tk 43 (h:=?_)));refine wpAnyH_done (by kernel_rfl) ?_ _;go_wp2;go_roundw
   case rel=>exact⟨k+1,by omega,by go_num,qE lA nA.out ⟨HA.out,dB.out,vA.out,tA.out⟩,iA.out.zOp cA,zA eA cA⟩
   case measure=>simp[intOf];omega
  ·as_aux_lemma=>
   obtain rfl:k=W.sn:=(by omega);have sB:=zB nA.out;clear nA;obtain⟨⟨x0,x1⟩,⟨x2,x3⟩,⟨x4,x5⟩,⟨x6,x7⟩,⟨x8,x9⟩,⟨bB,jB⟩⟩:=HX.out;go_wp2;clear x0 x1 x2 x3 x4 x5 x6 x7 x8 x9 bB jB
   go_loopw [5] (fun i wr=>∃k:Nat,k<=W.pn/\i = .int .i64 k/\(∀j,j<k->zMF W j)/\za wr w.heap.size v0 v1 (.int .i64 W.time) (.int .i64 W.next) (.slice a' W.sn c') (.slice a W.pn c)/\Below w.heap.size w wr) (fun i _=>W.pn - (intOf i).toNat)
   case atStart=>exact⟨0,Nat.zero_le _,rfl,fun j hj=>absurd hj (Nat.not_lt_zero _),HX.out,hb⟩
   case round=>
    clear HX hb lA hk;obtain⟨k,hk,rfl,aB,hX,hb⟩:=hrel;have nA:=zB aB;have HX:=zB hX;clear aB hX;by_cases lA:k<W.pn;rotate_left
    ·obtain rfl:k=W.pn:=(by omega);obtain⟨⟨x0,x1⟩,⟨x2,x3⟩,⟨x4,x5⟩,⟨x6,x7⟩,⟨x8,x9⟩,⟨bB,jB⟩⟩:=HX.out;go_wp2;go_ret;exact⟨zK.yes ⟨HT.out,HN.out,hs,hp,sB.out,nA.out⟩,hb⟩
    have dC:(k:Int)<(W.pn:Int):=(by omega);obtain⟨b,off,vd,rfl,sA⟩:=(Hp.out.zOw.zOp hb).cells lA;obtain⟨-,ad,cd,rfl,-,-⟩:=id sA.zO5;have eB:=zC wr (.cells #[.int .i64 (W.zOw k).id,.string (W.zOw k).name,.string (W.zOw k).set,.int .i64 (W.zOw k).zO0,.int .i64 (W.zOw k).time,.int .i64 (W.zOw k).rs,.int .i64 (W.zOw k).rb,.slice ad (W.zOw k).dn cd] 111);have iA:=zB (HX.out.zOp eB);have mA:=zB (zEk.zOt wr (.int .i64 (W.zOw k).id) (.string (W.zOw k).name) (.string (W.zOw k).set) (.int .i64 (W.zOw k).zO0) (.int .i64 (W.zOw k).time) (.int .i64 (W.zOw k).rs) (.int .i64 (W.zOw k).rb) (.slice ad (W.zOw k).dn cd) 111);have eA:=zA hb eB;have q0:=sA.c0;have q1:=sA.c1;have q2:=sA.c2;have q3:=sA.c3;have q4:=sA.c4;have q5:=sA.c5;have q6:=sA.c6;have q7:=sA.c7;have aC:=sA.zO6.1;have Hq:=zB (show(wr.alloc (.cells #[.int .i64 (W.zOw k).id,.string (W.zOw k).name,.string (W.zOw k).set,.int .i64 (W.zOw k).zO0,.int .i64 (W.zOw k).time,.int .i64 (W.zOw k).rs,.int .i64 (W.zOw k).rb,.slice ad (W.zOw k).dn cd] 111)).cell? ⟨b,off+(k - 1)*8,none⟩=some (.int .i64 (W.zOw (k - 1)).id)/\(wr.alloc (.cells #[.int .i64 (W.zOw k).id,.string (W.zOw k).name,.string (W.zOw k).set,.int .i64 (W.zOw k).zO0,.int .i64 (W.zOw k).time,.int .i64 (W.zOw k).rs,.int .i64 (W.zOw k).rb,.slice ad (W.zOw k).dn cd] 111)).cell? ⟨b,off+(k - 1)*8+4,none⟩=some (.int .i64 (W.zOw (k - 1)).time)from by
     obtain⟨b',fC,jD,e,iB⟩:=((Hp.out.zOw.zOp hb).zOp eB).cells (show k - 1<W.pn by omega);cases e;exact⟨iB.c0,iB.c4⟩)
    obtain⟨⟨x0,x1⟩,⟨x2,x3⟩,⟨x4,x5⟩,⟨x6,x7⟩,⟨x8,x9⟩,⟨bB,jB⟩⟩:=HX.out;obtain⟨⟨z0,z1⟩,⟨z2,z3⟩,⟨z4,z5⟩,⟨z6,z7⟩,⟨z8,z9⟩,⟨kD,lD⟩⟩:=iA.out;obtain⟨⟨⟨y0,-⟩,⟨y1,-⟩,⟨y2,-⟩,⟨y3,-⟩⟩,⟨y4,-⟩,⟨y5,-⟩,⟨y6,-⟩,⟨y7,-⟩⟩:=mA.out;clear sA;by_cases g1:(W.zOw k).id<1
    ·have Hn:=zB (show ¬zFm W k from fun h=>by have:=h.1;omega);go_wp2;go_ret;exact⟨zK.no fun hA=>Hn.out (hA.2.2.2.2.2 k lA).1,eA⟩
    by_cases g2:W.next<=(W.zOw k).id
    ·have Hn:=zB (show ¬zFm W k from fun h=>by have:=h.2.1;omega);go_wp2;go_ret;exact⟨zK.no fun hA=>Hn.out (hA.2.2.2.2.2 k lA).1,eA⟩
    by_cases g3:(W.zOw k).time<1
    ·have Hn:=zB (show ¬zFm W k from fun h=>by have:=h.2.2.1;omega);go_wp2;go_ret;exact⟨zK.no fun hA=>Hn.out (hA.2.2.2.2.2 k lA).1,eA⟩
    by_cases g4:W.time<=(W.zOw k).time
    ·have Hn:=zB (show ¬zFm W k from fun h=>by have:=h.2.2.2.1;omega);go_wp2;go_ret;exact⟨zK.no fun hA=>Hn.out (hA.2.2.2.2.2 k lA).1,eA⟩
    go_wp2_with fail;refine(zAl (W.zOw k).name _ aC).mono ?_;rintro e wn ⟨⟨tn,rfl,cB⟩,rfl⟩;by_cases g5:qV (W.zOw k).name;rotate_left
    ·have Hn:=zB (show ¬zFm W k from fun h=>g5 h.2.2.2.2.1);obtain rfl:tn=false:=zP cB g5;clear cB g5;go_wp2;go_ret;exact⟨zK.no fun hA=>Hn.out (hA.2.2.2.2.2 k lA).1,eA⟩
    obtain rfl:tn=true:=cB.2 g5;have G5:=zB g5;clear cB g5;go_wp2_with fail;refine(yY v0 v1 _ _ lo hi W (W.zOw k).set _ (Hp.out.zOp eA)).mono ?_;rintro e wt ⟨r,rfl,hF,nB⟩;have lC:=zB (iA.out.zOp nB);have jC:=zB (mA.out.zOp nB);have mB:=zA eA nB;have mC:=zB (And.intro ((nB.cell (zD Hq.out.1)).trans Hq.out.1) ((nB.cell (zD Hq.out.2)).trans Hq.out.2));clear x0 x1 x2 x3 x4 x5 x6 x7 x8 x9 bB jB z0 z1 z2 z3 z4 z5 z6 z7 z8 z9 kD lD y0 y1 y2 y3 y4 y5 y6 y7 q0 q1 q2 q3 q4 q5 q6 q7 iA mA eA nB HX eB;rcases zLL hF with⟨g6,g7⟩ | ⟨g6,rfl⟩;rotate_left
    ·have Hn:=zB (show ¬zFm W k from fun h=>g6 h.2.2.2.2.2);clear g6 hF;go_wp2;go_ret;exact⟨zK.no fun hA=>Hn.out (hA.2.2.2.2.2 k lA).1,mB⟩
    have sC:=zB (show zFm W k from⟨by omega,by omega,by omega,by omega,G5.out,g6⟩);have g8:decide (r<0)=false:=(by simp;omega);have g9:¬r<0:=(by omega);clear g6 g7 hF g1 g2 g3 g4 G5;go_wp2_with fail;clear g8 g9;have iA:=zB lC.out;have mA:=zB jC.out;have eA:=mB;obtain⟨qn,qt⟩:=mC.out;clear lC jC mB mC Hq;obtain⟨W6,bD⟩:∃W6,W6=wt:=⟨_,rfl⟩;subst bD;generalize wr.heap.size=V8 at mA ⊢;obtain⟨⟨x0,-⟩,⟨x2,-⟩,⟨x4,-⟩,⟨x6,-⟩,⟨x8,-⟩,⟨bB,-⟩⟩:=iA.out;obtain⟨⟨⟨y0,-⟩,-,-,⟨y3,-⟩⟩,⟨y4,-⟩,-⟩:=mA.out
    as_aux_lemma=>
    go_cut [177] (fun v wx=>∃t:Bool,v = .bool t/\(t=false↔zEp W k)/\Below W6.heap.size W6 wx)
    case first=>
     refine wp_region_held_drew (S:=(fun w'=>w'.cell? ⟨w.heap.size,0,none⟩=some v0/\w'.cell? ⟨w.heap.size,1,none⟩=some v1/\w'.cell? ⟨w.heap.size,2,none⟩=some (.int .i64 W.time)/\w'.cell? ⟨w.heap.size,3,none⟩=some (.int .i64 W.next)/\w'.cell? ⟨w.heap.size,4,none⟩=some (.slice a' W.sn c')/\w'.cell? ⟨w.heap.size,5,none⟩=some (.slice (some ⟨b,off,none⟩) W.pn c)/\w'.cell? ⟨V8,0,none⟩=some (.int .i64 (W.zOw k).id)/\w'.cell? ⟨V8,3,none⟩=some (.int .i64 (W.zOw k).zO0)/\w'.cell? ⟨V8,4,none⟩=some (.int .i64 (W.zOw k).time)/\w'.cell? ⟨b,off+(k - 1)*8,none⟩=some (.int .i64 (W.zOw (k - 1)).id)/\w'.cell? ⟨b,off+(k - 1)*8+4,none⟩=some (.int .i64 (W.zOw (k - 1)).time))) (by kernel_rfl) ?_ (fun hHeld=>?_)
     ·(try dsimp only)
      go_keep
     have fA:Below W6.heap.size W6 W6.drew:=(Below.refl _ _).drew;refine tk 0 (h:=?_);by_cases pB:0<k;rotate_left
     ·as_aux_lemma=>
      have cC:decide ((0:Int)<(k:Int))=false:=(by simp;omega);have rB:=zB (show 0<k->(W.zOw (k - 1)).id<(W.zOw k).id/\(W.zOw (k - 1)).time<(W.zOw k).time from fun h=>absurd h pB);refine tk 1 (h:=tk 2 (h:=ts 3 (h:=ts 4 (h:=ts 5 (h:=ts 6 (h:=ts 7 (h:=ts 8 (h:=ts 9 (h:=ts 10 (h:=ts 11 (h:=ts 12 (h:=ts 13 (h:=ts 14 (h:=ts 15 (h:=ts 16 (h:=ts 17 (h:=ts 18 (h:=ts 19 (h:=ts 20 (h:=ts 21 (h:=ts 22 (h:=ts 23 (h:=ts 24 (h:=tk 25 (h:=tk 26 (h:=tk 27 (h:=tk 28 (h:=?_))))))))))))))))))))))))))));by_cases hz:(W.zOw k).zO0=0
      ·as_aux_lemma=>
       have oA:((W.zOw k).zO0 == 0)=true:=(by simp[hz]);have pA:decide ((W.zOw k).zO0=0)=true:=(by simp[hz]);have rA:((W.zOw k).zO0 != 0)=false:=(by simp[hz]);have kB:=zB (show(W.zOw k).zO0≠0->(W.zOw k).zO0<(W.zOw k).id/\qL W (W.zOw k).zO0 from fun h=>absurd hz h);clear hz;refine tk 29 (h:=tk 30 (h:=ts 31 (h:=ts 32 (h:=ts 33 (h:=ts 34 (h:=ts 35 (h:=ts 36 (h:=ts 37 (h:=ts 38 (h:=ts 39 (h:=?_)))))))))));refine rd [40] (rc (fun K hK=>?_) .nil);split
       ·rename_i gA
        exact absurd (show false=true from gA) Bool.false_ne_true
       refine hK.out _ _ (by assumption) (fun hHeld=>?_);clear hK K
       try simp only[Act.put,s1,s2,s3]
       refine ts 41 (h:=ts 42 (h:=tk 43 (h:=tk 44 (h:=?_))));refine wpAnyH_done (by kernel_rfl) ?_ _;clear oA pA rA;go_wp2_with fail
       go_meet
       case rel=>exact⟨false,rfl,⟨fun _=>⟨rB.out,kB.out⟩,fun _=>rfl⟩,fA⟩
      as_aux_lemma=>
      have oA:((W.zOw k).zO0 == 0)=false:=(by simp[hz]);have pA:decide ((W.zOw k).zO0=0)=false:=(by simp[hz]);have rA:((W.zOw k).zO0 != 0)=true:=(by simp[hz]);have Hz:=zB hz;clear hz;refine tk 29 (h:=tk 30 (h:=tk 31 (h:=tk 32 (h:=tk 33 (h:=tk 34 (h:=?_))))));by_cases hg:(W.zOw k).zO0<(W.zOw k).id;rotate_left
      ·as_aux_lemma=>
       have vB:decide ((W.zOw k).id<=(W.zOw k).zO0)=true:=(by simp;omega);have Hn:=zB (show ¬zEp W k from fun h=>hg (h.2 Hz.out).1);clear hg;refine tk 35 (h:=tk 36 (h:=ts 37 (h:=ts 38 (h:=ts 39 (h:=?_)))));refine rd [40] (rc (fun K hK=>?_) .nil);split
       ·rename_i gA
        exact absurd (show false=true from gA) Bool.false_ne_true
       refine hK.out _ _ (by assumption) (fun hHeld=>?_);clear hK K
       try simp only[Act.put,s1,s2,s3]
       refine ts 41 (h:=tk 42 (h:=tk 43 (h:=tk 44 (h:=?_))));refine wpAnyH_done (by kernel_rfl) ?_ _;go_wp2_with fail
       go_meet
       case rel=>exact⟨true,rfl,⟨fun h=>absurd h (by decide),fun h=>absurd h Hn.out⟩,fA⟩
      as_aux_lemma=>
      have vB:decide ((W.zOw k).id<=(W.zOw k).zO0)=false:=(by simp;omega);have Hg:=zB hg;clear hg;refine tk 35 (h:=tk 36 (h:=tk 37 (h:=tk 38 (h:=tk 39 (h:=?_)))));by_cases dA:qL W (W.zOw k).zO0;rotate_left
      ·as_aux_lemma=>
       have lB:=zB dA;have Hn:=zB (show ¬zEp W k from fun h=>dA (h.2 Hz.out).2);clear dA;refine rd [40] (rc (fun K hK=>?_) .nil);go_simp;go_at_call 52;refine(zm v0 v1 _ _ lo hi W (W.zOw k).zO0 _ ?_).mono ?_
       ·exact Hp.out.zOp (zA eA fA)
       rintro e wp ⟨r,rfl,hF,kA⟩;have hf:=qY hF;replace hf:=hf.resolve_left (fun h=>lB.out h.1);have hr:decide (r<0)=true:=(by rw[hf.2];rfl);clear hF;have aA:Below W6.heap.size W6 wp:=zA fA kA;obtain⟨⟨k0,_⟩,⟨k1,_⟩,⟨k2,_⟩,⟨k3,_⟩,⟨k4,_⟩,⟨k5,_⟩⟩:=iA.out.zOp aA;obtain⟨⟨⟨l0,_⟩,_,_,⟨l3,_⟩⟩,⟨l4,_⟩,_⟩:=mA.out.zOp aA;have n0:=(aA.cell (zD qn)).trans qn;have n4:=(aA.cell (zD qt)).trans qt
       (try go_wp2_with fail)
       refine hK.out _ _ (by(try dsimp only);go_keep) ?_;clear hK K hHeld;intro hHeld
       try simp only[Act.put,s1,s2,s3]
       refine tk 41 (h:=tk 42 (h:=tk 43 (h:=tk 44 (h:=?_))));refine wpAnyH_done (by kernel_rfl) ?_ _;go_wp2_with fail
       go_meet
       case rel=>exact⟨true,rfl,⟨fun h=>absurd h (by decide),fun h=>absurd h Hn.out⟩,aA⟩
      as_aux_lemma=>
      have lB:=zB dA;have kB:=zB (show(W.zOw k).zO0≠0->(W.zOw k).zO0<(W.zOw k).id/\qL W (W.zOw k).zO0 from fun _=>⟨Hg.out,dA⟩);clear dA;refine rd [40] (rc (fun K hK=>?_) .nil);go_simp;go_at_call 52;refine(zm v0 v1 _ _ lo hi W (W.zOw k).zO0 _ ?_).mono ?_
      ·exact Hp.out.zOp (zA eA fA)
      rintro e wp ⟨r,rfl,hF,kA⟩;have hf:=qY hF;replace hf:=hf.resolve_right (fun h=>h.1 lB.out);have hr:decide (r<0)=false:=(by have:=hf.2.1;simp;omega);clear hF;have aA:Below W6.heap.size W6 wp:=zA fA kA;obtain⟨⟨k0,_⟩,⟨k1,_⟩,⟨k2,_⟩,⟨k3,_⟩,⟨k4,_⟩,⟨k5,_⟩⟩:=iA.out.zOp aA;obtain⟨⟨⟨l0,_⟩,_,_,⟨l3,_⟩⟩,⟨l4,_⟩,_⟩:=mA.out.zOp aA;have n0:=(aA.cell (zD qn)).trans qn;have n4:=(aA.cell (zD qt)).trans qt
      (try go_wp2_with fail)
      refine hK.out _ _ (by(try dsimp only);go_keep) ?_;clear hK K hHeld;intro hHeld
      try simp only[Act.put,s1,s2,s3]
      refine tk 41 (h:=tk 42 (h:=tk 43 (h:=tk 44 (h:=?_))));refine wpAnyH_done (by kernel_rfl) ?_ _;clear hr oA pA rA vB;go_wp2_with fail
      go_meet
      case rel=>exact⟨false,rfl,⟨fun _=>⟨rB.out,kB.out⟩,fun _=>rfl⟩,aA⟩
     as_aux_lemma=>
     have cC:(0:Int)<(k:Int):=(by omega);have eC:IntKind.i64.wrap ((k:Int) - 1)=((k - 1:Nat):Int):=(by rw[Int.ofNat_sub (by omega)];exact IntWalk.i64_in _ (by omega));have eD:((k - 1:Nat):Int)<(W.pn:Int):=(by omega);refine tk 1 (h:=tk 2 (h:=tk 3 (h:=tk 4 (h:=tk 5 (h:=tk 6 (h:=tk 7 (h:=tk 8 (h:=tk 9 (h:=tk 10 (h:=tk 11 (h:=?_)))))))))));by_cases fB:(W.zOw (k - 1)).id<(W.zOw k).id;rotate_left
     ·as_aux_lemma=>
      have pC:decide ((W.zOw k).id<=(W.zOw (k - 1)).id)=true:=(by simp;omega);have Hn:=zB (show ¬zEp W k from fun h=>fB (h.1 pB).1);clear fB;refine tk 12 (h:=tk 13 (h:=ts 14 (h:=ts 15 (h:=ts 16 (h:=ts 17 (h:=ts 18 (h:=ts 19 (h:=ts 20 (h:=ts 21 (h:=ts 22 (h:=ts 23 (h:=tk 24 (h:=tk 25 (h:=tk 26 (h:=ts 27 (h:=ts 28 (h:=ts 29 (h:=ts 30 (h:=ts 31 (h:=ts 32 (h:=ts 33 (h:=ts 34 (h:=ts 35 (h:=ts 36 (h:=ts 37 (h:=ts 38 (h:=ts 39 (h:=?_))))))))))))))))))))))))))));refine rd [40] (rc (fun K hK=>?_) .nil);split
      ·rename_i gA
       exact absurd (show false=true from gA) Bool.false_ne_true
      refine hK.out _ _ (by assumption) (fun hHeld=>?_);clear hK K
      try simp only[Act.put,s1,s2,s3]
      refine ts 41 (h:=ts 42 (h:=ts 43 (h:=tk 44 (h:=?_))));refine wpAnyH_done (by kernel_rfl) ?_ _;go_wp2_with fail
      go_meet
      case rel=>exact⟨true,rfl,⟨fun h=>absurd h (by decide),fun h=>absurd h Hn.out⟩,fA⟩
     as_aux_lemma=>
     have pC:decide ((W.zOw k).id<=(W.zOw (k - 1)).id)=false:=(by simp;omega);have vC:=zB fB;clear fB;refine tk 12 (h:=tk 13 (h:=tk 14 (h:=tk 15 (h:=tk 16 (h:=tk 17 (h:=tk 18 (h:=tk 19 (h:=tk 20 (h:=tk 21 (h:=tk 22 (h:=?_)))))))))));by_cases fB:(W.zOw (k - 1)).time<(W.zOw k).time;rotate_left
     ·as_aux_lemma=>
      have rC:decide ((W.zOw k).time<=(W.zOw (k - 1)).time)=true:=(by simp;omega);have Hn:=zB (show ¬zEp W k from fun h=>fB (h.1 pB).2);clear fB;refine tk 23 (h:=tk 24 (h:=tk 25 (h:=tk 26 (h:=ts 27 (h:=ts 28 (h:=ts 29 (h:=ts 30 (h:=ts 31 (h:=ts 32 (h:=ts 33 (h:=ts 34 (h:=ts 35 (h:=ts 36 (h:=ts 37 (h:=ts 38 (h:=ts 39 (h:=?_)))))))))))))))));refine rd [40] (rc (fun K hK=>?_) .nil);split
      ·rename_i gA
       exact absurd (show false=true from gA) Bool.false_ne_true
      refine hK.out _ _ (by assumption) (fun hHeld=>?_);clear hK K
      try simp only[Act.put,s1,s2,s3]
      refine ts 41 (h:=ts 42 (h:=ts 43 (h:=tk 44 (h:=?_))));refine wpAnyH_done (by kernel_rfl) ?_ _;go_wp2_with fail
      go_meet
      case rel=>exact⟨true,rfl,⟨fun h=>absurd h (by decide),fun h=>absurd h Hn.out⟩,fA⟩
     as_aux_lemma=>
     have rC:decide ((W.zOw k).time<=(W.zOw (k - 1)).time)=false:=(by simp;omega);have rB:=zB (show 0<k->(W.zOw (k - 1)).id<(W.zOw k).id/\(W.zOw (k - 1)).time<(W.zOw k).time from fun _=>⟨vC.out,fB⟩);clear fB;refine tk 23 (h:=tk 24 (h:=tk 25 (h:=?_)));clear rC pC;refine tk 26 (h:=tk 27 (h:=tk 28 (h:=?_)));by_cases hz:(W.zOw k).zO0=0
     ·as_aux_lemma=>
      have oA:((W.zOw k).zO0 == 0)=true:=(by simp[hz]);have pA:decide ((W.zOw k).zO0=0)=true:=(by simp[hz]);have rA:((W.zOw k).zO0 != 0)=false:=(by simp[hz]);have kB:=zB (show(W.zOw k).zO0≠0->(W.zOw k).zO0<(W.zOw k).id/\qL W (W.zOw k).zO0 from fun h=>absurd hz h);clear hz;refine tk 29 (h:=tk 30 (h:=ts 31 (h:=ts 32 (h:=ts 33 (h:=ts 34 (h:=ts 35 (h:=ts 36 (h:=ts 37 (h:=ts 38 (h:=ts 39 (h:=?_)))))))))));refine rd [40] (rc (fun K hK=>?_) .nil);split
      ·rename_i gA
       exact absurd (show false=true from gA) Bool.false_ne_true
      refine hK.out _ _ (by assumption) (fun hHeld=>?_);clear hK K
      try simp only[Act.put,s1,s2,s3]
      refine ts 41 (h:=ts 42 (h:=tk 43 (h:=tk 44 (h:=?_))));refine wpAnyH_done (by kernel_rfl) ?_ _;clear oA pA rA;go_wp2_with fail
      go_meet
      case rel=>exact⟨false,rfl,⟨fun _=>⟨rB.out,kB.out⟩,fun _=>rfl⟩,fA⟩
     as_aux_lemma=>
     have oA:((W.zOw k).zO0 == 0)=false:=(by simp[hz]);have pA:decide ((W.zOw k).zO0=0)=false:=(by simp[hz]);have rA:((W.zOw k).zO0 != 0)=true:=(by simp[hz]);have Hz:=zB hz;clear hz;refine tk 29 (h:=tk 30 (h:=tk 31 (h:=tk 32 (h:=tk 33 (h:=tk 34 (h:=?_))))));by_cases hg:(W.zOw k).zO0<(W.zOw k).id;rotate_left
     ·as_aux_lemma=>
      have vB:decide ((W.zOw k).id<=(W.zOw k).zO0)=true:=(by simp;omega);have Hn:=zB (show ¬zEp W k from fun h=>hg (h.2 Hz.out).1);clear hg;refine tk 35 (h:=tk 36 (h:=ts 37 (h:=ts 38 (h:=ts 39 (h:=?_)))));refine rd [40] (rc (fun K hK=>?_) .nil);split
      ·rename_i gA
       exact absurd (show false=true from gA) Bool.false_ne_true
      refine hK.out _ _ (by assumption) (fun hHeld=>?_);clear hK K
      try simp only[Act.put,s1,s2,s3]
      refine ts 41 (h:=tk 42 (h:=tk 43 (h:=tk 44 (h:=?_))));refine wpAnyH_done (by kernel_rfl) ?_ _;go_wp2_with fail
      go_meet
      case rel=>exact⟨true,rfl,⟨fun h=>absurd h (by decide),fun h=>absurd h Hn.out⟩,fA⟩
     as_aux_lemma=>
     have vB:decide ((W.zOw k).id<=(W.zOw k).zO0)=false:=(by simp;omega);have Hg:=zB hg;clear hg;refine tk 35 (h:=tk 36 (h:=tk 37 (h:=tk 38 (h:=tk 39 (h:=?_)))));by_cases dA:qL W (W.zOw k).zO0;rotate_left
     ·as_aux_lemma=>
      have lB:=zB dA;have Hn:=zB (show ¬zEp W k from fun h=>dA (h.2 Hz.out).2);clear dA;refine rd [40] (rc (fun K hK=>?_) .nil);go_simp;go_at_call 52;refine(zm v0 v1 _ _ lo hi W (W.zOw k).zO0 _ ?_).mono ?_
      ·exact Hp.out.zOp (zA eA fA)
      rintro e wp ⟨r,rfl,hF,kA⟩;have hf:=qY hF;replace hf:=hf.resolve_left (fun h=>lB.out h.1);have hr:decide (r<0)=true:=(by rw[hf.2];rfl);clear hF;have aA:Below W6.heap.size W6 wp:=zA fA kA;obtain⟨⟨k0,_⟩,⟨k1,_⟩,⟨k2,_⟩,⟨k3,_⟩,⟨k4,_⟩,⟨k5,_⟩⟩:=iA.out.zOp aA;obtain⟨⟨⟨l0,_⟩,_,_,⟨l3,_⟩⟩,⟨l4,_⟩,_⟩:=mA.out.zOp aA;have n0:=(aA.cell (zD qn)).trans qn;have n4:=(aA.cell (zD qt)).trans qt
      (try go_wp2_with fail)
      refine hK.out _ _ (by(try dsimp only);go_keep) ?_;clear hK K hHeld;intro hHeld
      try simp only[Act.put,s1,s2,s3]
      refine tk 41 (h:=tk 42 (h:=tk 43 (h:=tk 44 (h:=?_))));refine wpAnyH_done (by kernel_rfl) ?_ _;go_wp2_with fail
      go_meet
      case rel=>exact⟨true,rfl,⟨fun h=>absurd h (by decide),fun h=>absurd h Hn.out⟩,aA⟩
     as_aux_lemma=>
     have lB:=zB dA;have kB:=zB (show(W.zOw k).zO0≠0->(W.zOw k).zO0<(W.zOw k).id/\qL W (W.zOw k).zO0 from fun _=>⟨Hg.out,dA⟩);clear dA;refine rd [40] (rc (fun K hK=>?_) .nil);go_simp;go_at_call 52;refine(zm v0 v1 _ _ lo hi W (W.zOw k).zO0 _ ?_).mono ?_
     ·exact Hp.out.zOp (zA eA fA)
     rintro e wp ⟨r,rfl,hF,kA⟩;have hf:=qY hF;replace hf:=hf.resolve_right (fun h=>h.1 lB.out);have hr:decide (r<0)=false:=(by have:=hf.2.1;simp;omega);clear hF;have aA:Below W6.heap.size W6 wp:=zA fA kA;obtain⟨⟨k0,_⟩,⟨k1,_⟩,⟨k2,_⟩,⟨k3,_⟩,⟨k4,_⟩,⟨k5,_⟩⟩:=iA.out.zOp aA;obtain⟨⟨⟨l0,_⟩,_,_,⟨l3,_⟩⟩,⟨l4,_⟩,_⟩:=mA.out.zOp aA;have n0:=(aA.cell (zD qn)).trans qn;have n4:=(aA.cell (zD qt)).trans qt
     (try go_wp2_with fail)
     refine hK.out _ _ (by(try dsimp only);go_keep) ?_;clear hK K hHeld;intro hHeld
     try simp only[Act.put,s1,s2,s3]
     refine tk 41 (h:=tk 42 (h:=tk 43 (h:=tk 44 (h:=?_))));refine wpAnyH_done (by kernel_rfl) ?_ _;clear hr oA pA rA vB;go_wp2_with fail
     go_meet
     case rel=>exact⟨false,rfl,⟨fun _=>⟨rB.out,kB.out⟩,fun _=>rfl⟩,aA⟩
    case rest=>
     obtain⟨t,rfl,ht,tB⟩:=hcut;by_cases hB:zEp W k;rotate_left
     ·obtain rfl:t=true:=by cases t;exact absurd (ht.1 rfl) hB;rfl
      have Hn:=zB hB;clear hB ht;go_wp2;go_ret;exact⟨zK.no fun hA=>Hn.out (hA.2.2.2.2.2 k lA).2.1,zA eA tB⟩
     obtain rfl:t=false:=ht.2 hB;have tC:=zB hB;clear hB ht;have kC:=zB (iA.out.zOp tB);have iC:=zB (mA.out.zOp tB);have oC:=zA eA tB;clear tB;go_wp2
     go_loopw [7] (fun i gC=>∃j:Nat,j<=k/\i = .int .i64 j/\zME W k j/\za gC w.heap.size v0 v1 (.int .i64 W.time) (.int .i64 W.next) (.slice a' W.sn c') (.slice (some ⟨b,off,none⟩) W.pn c)/\zEk gC V8 (.int .i64 (W.zOw k).id) (.string (W.zOw k).name) (.string (W.zOw k).set) (.int .i64 (W.zOw k).zO0) (.int .i64 (W.zOw k).time) (.int .i64 (W.zOw k).rs) (.int .i64 (W.zOw k).rb) (.slice ad (W.zOw k).dn cd)/\Below w.heap.size w gC) (fun i _=>k - (intOf i).toNat)
     case atStart=>exact⟨0,Nat.zero_le _,rfl,fun q hq=>absurd hq (Nat.not_lt_zero _),kC.out,iC.out,oC⟩
     case round=>
      clear kC iC oC iA mA eA;obtain⟨j,hj,rfl,hc,hX,hV,hb⟩:=hrel;have Hc:=zB hc;have HX:=zB hX;have HV:=zB hV;clear hc hX hV;by_cases bC:j<k
      ·have cD:(j:Int)<(k:Int):=(by omega);have dD:(j:Int)<(W.pn:Int):=(by omega);obtain⟨b3,iD,nD,e3,iB⟩:=(Hp.out.zOw.zOp hb).cells (show j<W.pn by omega);cases e3;have q1:=iB.c1;have q2:=iB.c2;clear iB;obtain⟨⟨x0,-⟩,⟨x2,-⟩,⟨x4,-⟩,⟨x6,-⟩,⟨x8,-⟩,⟨bB,-⟩⟩:=HX.out;obtain⟨⟨-,⟨y1,-⟩,⟨y2,-⟩,-⟩,-⟩:=HV.out;by_cases gB:(W.zOw j).set=(W.zOw k).set
       ·by_cases oB:(W.zOw j).name=(W.zOw k).name
        ·have Hn:=zB (show ¬zME W k k from fun h=>h j bC ⟨gB,oB⟩);have f1:=zDJ gB;have f2:=zDJ oB;clear gB oB;go_wp2_with fail;refine wp_region_held_drew (S:=(fun w'=>w'.cell? ⟨w.heap.size,5,none⟩=some (.slice (some ⟨b,off,none⟩) W.pn c)/\w'.cell? ⟨V8,1,none⟩=some (.string (W.zOw k).name)/\w'.cell? ⟨V8,2,none⟩=some (.string (W.zOw k).set)/\w'.cell? ⟨b,off+j*8+1,none⟩=some (.string (W.zOw j).name)/\w'.cell? ⟨b,off+j*8+2,none⟩=some (.string (W.zOw j).set))) (by kernel_rfl) ?_ (fun hHeld=>?_)
         ·(try dsimp only)
          go_keep
         refine tk 0 (h:=tk 1 (h:=tk 2 (h:=tk 3 (h:=tk 4 (h:=tk 5 (h:=tk 6 (h:=tk 7 (h:=tk 8 (h:=tk 9 (h:=tk 10 (h:=tk 11 (h:=tk 12 (h:=tk 13 (h:=tk 14 (h:=tk 15 (h:=tk 16 (h:=tk 17 (h:=tk 18 (h:=tk 19 (h:=?_))))))))))))))))))));refine wpAnyH_done (by kernel_rfl) ?_ _;go_wp2;go_ret;exact⟨zK.no fun hA=>Hn.out (hA.2.2.2.2.2 k lA).2.2,hb.drew⟩
        ·have Hn:=zB (show ¬((W.zOw j).set=(W.zOw k).set/\(W.zOw j).name=(W.zOw k).name)from fun h=>oB h.2);have f1:=zDJ gB;have f2:=zBK oB;clear gB oB;go_wp2_with fail;refine wp_region_held_drew (S:=(fun w'=>w'.cell? ⟨w.heap.size,5,none⟩=some (.slice (some ⟨b,off,none⟩) W.pn c)/\w'.cell? ⟨V8,1,none⟩=some (.string (W.zOw k).name)/\w'.cell? ⟨V8,2,none⟩=some (.string (W.zOw k).set)/\w'.cell? ⟨b,off+j*8+1,none⟩=some (.string (W.zOw j).name)/\w'.cell? ⟨b,off+j*8+2,none⟩=some (.string (W.zOw j).set))) (by kernel_rfl) ?_ (fun hHeld=>?_)
         ·(try dsimp only)
          go_keep
         refine tk 0 (h:=tk 1 (h:=tk 2 (h:=tk 3 (h:=tk 4 (h:=tk 5 (h:=tk 6 (h:=tk 7 (h:=tk 8 (h:=tk 9 (h:=tk 10 (h:=tk 11 (h:=tk 12 (h:=tk 13 (h:=tk 14 (h:=tk 15 (h:=tk 16 (h:=tk 17 (h:=tk 18 (h:=tk 19 (h:=?_))))))))))))))))))));refine wpAnyH_done (by kernel_rfl) ?_ _;go_wp2;go_roundw
         case rel=>exact⟨j+1,by omega,by go_num,qE bC Hc.out Hn.out,HX.out.zOp (Below.refl _ _).drew,HV.out.zOp (Below.refl _ _).drew,hb.drew⟩
         case measure=>simp[intOf];omega
       ·have Hn:=zB (show ¬((W.zOw j).set=(W.zOw k).set/\(W.zOw j).name=(W.zOw k).name)from fun h=>gB h.1);have f1:=zBK gB;clear gB;go_wp2_with fail;refine wp_region_held_drew (S:=(fun w'=>w'.cell? ⟨w.heap.size,5,none⟩=some (.slice (some ⟨b,off,none⟩) W.pn c)/\w'.cell? ⟨V8,1,none⟩=some (.string (W.zOw k).name)/\w'.cell? ⟨V8,2,none⟩=some (.string (W.zOw k).set)/\w'.cell? ⟨b,off+j*8+1,none⟩=some (.string (W.zOw j).name)/\w'.cell? ⟨b,off+j*8+2,none⟩=some (.string (W.zOw j).set))) (by kernel_rfl) ?_ (fun hHeld=>?_)
        ·(try dsimp only)
         go_keep
        refine tk 0 (h:=tk 1 (h:=tk 2 (h:=tk 3 (h:=tk 4 (h:=tk 5 (h:=tk 6 (h:=tk 7 (h:=tk 8 (h:=tk 9 (h:=ts 10 (h:=ts 11 (h:=ts 12 (h:=ts 13 (h:=ts 14 (h:=ts 15 (h:=ts 16 (h:=ts 17 (h:=ts 18 (h:=tk 19 (h:=?_))))))))))))))))))));refine wpAnyH_done (by kernel_rfl) ?_ _;go_wp2;go_roundw
        case rel=>exact⟨j+1,by omega,by go_num,qE bC Hc.out Hn.out,HX.out.zOp (Below.refl _ _).drew,HV.out.zOp (Below.refl _ _).drew,hb.drew⟩
        case measure=>simp[intOf];omega
      ·obtain rfl:j=k:=(by omega);go_wp2;go_roundw
       case rel=>exact⟨j+1,by omega,by go_num,qE lA nA.out ⟨sC.out,tC.out,Hc.out⟩,HX.out,hb⟩
       case measure=>simp[intOf];omega
end Go.Proofs.YtgabgheflgjgiaaGreatDoor
