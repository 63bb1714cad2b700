/- What spec.l02Right and spec.TreeRight answer. -/
import Derived.Test.YtmgeglgboadfiaaGreatDoorT4
set_option linter.unusedVariables false
set_option maxRecDepth 20000
set_option maxHeartbeats 4000000
namespace Go.Proofs.YtmgeglgboadfiaaGreatDoor
open Go.RowKit
theorem zPb:(Tryz.prog.info? 2).map (fun i=>(i.zero,i.size,i.bytes))=some (some (.int .i64 0),1,8):=by kernel_rfl
def zF2(w:World)(base:Nat)(v:Value)(l:List Int):Prop:=w.ownsRow base 2 1 v l.length (icl l)
theorem zF2.zRJ{w w1:World}{base:Nat}{v:Value}{l:List Int}(h:zF2 w base v l)(hb:Below w.heap.size w w1):zF2 w1 base v l:=
 World.ownsRow.kept h (yu hb none) (by cases v.ownBlock<;>simp)
theorem zF2.next{w2:World}{base g aA:Nat}{l:List Int}{x:Int}(h:w2.ownsRow base 2 1 (.slice (some ⟨g,0,none⟩) (l.length+1) aA) (l.length+1) (icl l ++ [.int .i64 x])):zF2 w2 base (.slice (some ⟨g,0,none⟩) (l.length+1) aA) (l ++ [x]):=by
 unfold zF2;rw[zMI,List.length_append];exact h
theorem zF2.lt{w:World}{base:Nat}{v:Value}{l:List Int}(h:zF2 w base v l){q:Nat}(hq:v.ownBlock=some q):base<=q:=by
 rcases h.2 with⟨rfl,_⟩ | ⟨g,bA,aA,rfl,hb,hg,_⟩
 ·simp[Value.ownBlock]at hq
 ·simp only[Value.ownBlock,Option.some.injEq]at hq;subst hq;exact hb
theorem zc.grownT{w w1:World}{b:Nat}{x y:Value}{row:Option Nat}(h:zc w b x y)(hg:w.grownBy w1 row)(aA:∀q,row=some q->b<q):zc w1 b x y:=
 h.zRR (S:=fun k=>row=some k) ⟨hg.os,hg.tape,hg.output,hg.size,fun k hk aA=>hg.block k hk (fun e=>aA e.symm)⟩ (fun e=>by have:=aA b e;omega)
theorem zCJ(v0 v1:Value)(lo hi:Nat)(p:zJ)(xs xb:Int)(w:World)(h1:zy w lo hi v0 v1 p)(hR:zv p) :
  Calls Tryz.prog 71 #[.agg #[v0,v1],.agg #[.int .i64 xs,.int .i64 xb]] w fun e w'=>zG (qF p xs xb) e/\Below w.heap.size w w':=by
 have Hp:=zE h1;have HR:=zE hR;obtain⟨a,c,a',c',rfl,rfl⟩:∃a c a' c',v0 = .slice a p.n c/\v1 = .slice a' p.hn c':=by
  obtain⟨⟨_,a,c,h1,_⟩,⟨_,a',c',h3,_⟩⟩:=h1;exact⟨a,c,a',c',h1,h3⟩
 clear h1 hR;have iE:=zBs w (.slice a p.n c) (.slice a' p.hn c') (.int .i64 xs) (.int .i64 xb) 33 61;obtain⟨i0,nE,pD⟩:=Option.map_eq_some_iff.1 zPb;simp only[Prod.mk.injEq]at pD;have HI:=zE (And.intro nE pD);clear nE pD;go_enter Tryz.func71,Tryz.ntmps71;go_wp2_with fail;generalize (w.alloc (.cells #[.slice a p.n c,.slice a' p.hn c'] 33)).alloc (.cells #[.int .i64 xs,.int .i64 xb] 61)=W at iE ⊢;obtain⟨hB,hX,eA,hz⟩:=iE;refine(yg xs xb W).mono ?_;rintro e w1 ⟨⟨t,rfl,ht⟩,jC⟩;have dD:=zE (hB.zRJ jC);have tD:=zE (hX.zRJ jC);have oC:=zA eA jC;have gF:=jC.size;clear hB hX eA jC;by_cases hn:Nil xs xb
 ·have HN:=zE hn;obtain rfl:t=true:=ht.2 hn;clear ht hn;go_wp2;go_ret;exact⟨zG.yes (Or.inl HN.out),oC⟩
 ·have HN:=zE hn;obtain rfl:t=false:=zQ ht hn;clear ht hn;obtain⟨⟨x0,x1⟩,⟨x2,x3⟩⟩:=dD.out;obtain⟨⟨y0,y1⟩,⟨y2,y3⟩⟩:=tD.out;go_wp2_with fail;refine(zCu _ _ lo hi p xs xb _ (Hp.out.zRJ oC)).mono ?_;rintro e w2 ⟨⟨t,rfl,ht⟩,kC⟩;have oD:=zE (dD.out.zRJ kC);have nD:=zE (tD.out.zRJ kC);have mD:=zA oC kC;have bF:w.heap.size+2<=w2.heap.size:=(by have:=kC.size;omega);clear kC oC dD tD x0 x1 x2 x3 y0 y1 y2 y3 hz gF;by_cases dB:zAy p xs xb
  ·have sD:=zE dB;obtain rfl:t=true:=ht.2 dB;have Hf:=zE (qV HR.out dB.1);have h8:(p.s xs.toNat).kn=8:=by rcases zDJ HR.out dB.1 with h | h;(have:=dB.2.1;omega);exact h
   obtain⟨k,rfl⟩:=Int.eq_ofNat_of_zero_le dB.1.2.1;have hk:k<p.n:=(by have:=dB.1.2.2.1;omega);have mF:(k:Int)<(p.n:Int):=(by omega);rw[Int.toNat_natCast]at Hf h8;have H8:=zE h8;clear ht dB;obtain⟨b,off,ka,kc,rfl,vD⟩:=Hp.out.1.cells hk;have bE:Hid (zR w lo hi (.slice ka 8 kc) 8 (p.s k).ks (p.s k).kb):=(by have:=vD.slot.2.1;rw[h8]at this;exact this);obtain⟨q0,q1,q2,_⟩:=vD.zRJ mD;rw[h8]at q1;clear h8 vD;obtain⟨⟨x0,x1⟩,⟨x2,x3⟩⟩:=oD.out;obtain⟨⟨y0,y1⟩,⟨y2,y3⟩⟩:=nD.out;have iA:=zC w2 (.cells #[.int .i64 (k:Int)] 2);have kE:=zE (show zF2 (w2.alloc (.cells #[.int .i64 (k:Int)] 2)) (w.heap.size+2) (.slice (some ⟨w2.heap.size,0,none⟩) 1 1) (zAM p k (p.s k) 0)from World.ownsRow_lit (e:=2) (size:=1) w2 #[.int .i64 (k:Int)] 1 bF (by unfold maxLen;omega) rfl);have lD:=zE (oD.out.zRJ iA);have eE:=zA mD iA;have c0:=(iA.cell (zD q0)).trans q0;have c1:=(iA.cell (zD q1)).trans q1;obtain⟨⟨z0,z1⟩,⟨z2,z3⟩⟩:=lD.out;obtain⟨⟨z4,z5⟩,⟨z6,z7⟩⟩:=nD.out.zRJ iA;clear iA;go_wp2
   go_loopw [5,6,8] (fun sv nv i wr=>∃(j m:Nat) (sa:Option Addr) (sc:Nat),j<=8/\i = .int .i64 j/\nv = .int .i64 m/\m<=j/\(0<m↔∃i,i<j/\¬Nil (zb (p.s k) i) (zu (p.s k) i))/\sv = .slice sa (zAM p k (p.s k) j).length sc/\zF2 wr (w.heap.size+2) sv (zAM p k (p.s k) j)/\(∀i,i<j->zQS p (p.s k) i)/\(zAM p k (p.s k) j).Nodup/\zc wr w.heap.size (.slice (some ⟨b,off,none⟩) p.n c) (.slice a' p.hn c')/\Below w.heap.size w wr/\w.heap.size+2<=wr.heap.size) (fun _ _ i _=>8 - (intOf i).toNat)
   case atStart=>exact⟨0,0,_,_,Nat.zero_le _,rfl,rfl,Nat.le_refl _,⟨fun h=>absurd h (Nat.lt_irrefl _),fun ⟨i,hi,_⟩=>absurd hi (Nat.not_lt_zero _)⟩,rfl,kE.out,fun i hi=>absurd hi (Nat.not_lt_zero _),by simp[zAM,zAv,yI],lD.out,eE,by rw[World.size_alloc];omega⟩
   case round=>
    obtain⟨j,m0,sa,sc,hj,rfl,rfl,kF,eC,rfl,sA,lC,aB,vA,gB,tC⟩:=hrel;have dC:=zE eC;have nA:=zE sA;have pB:=zE lC;have mB:=zE aB;have mA:=zE vA;have tE:=zL8 p k (p.s k) hj;clear eC sA lC aB vA kE lD eE c0 c1 z0 z1 z2 z3 z4 z5 z6 z7 x0 x1 x2 x3 y0 y1 y2 y3 q0 q1 q2 oD nD;by_cases rA:j<8
    ·have fF:(j:Int)<8:=(by omega);obtain⟨tb,aC,rfl,q0,q1⟩:=(bE.out.zRJ gB).cellsT rA;rw[<-zCw H8.out rA]at q0;rw[<-zEj H8.out rA]at q1;go_wp2_with fail;refine(yg (zb (p.s k) j) (zu (p.s k) j) wr).mono ?_;rintro e W ⟨⟨t,rfl,ht⟩,hb⟩;have dA:=zA gB hb;have jA:=zE (mA.out.zRJ hb);have cB:=zE (nA.out.zRJ hb);have fD:w.heap.size+2<=W.heap.size:=(by have:=hb.size;omega);have fC:=(hb.cell (zD q0)).trans q0;have iC:=(hb.cell (zD q1)).trans q1;clear q0 q1 gB hb nA mA tC;have q0:=fC;have q1:=iC;clear fC iC;by_cases oA:Nil (zb (p.s k) j) (zu (p.s k) j)
     ·have kA:=zE oA;obtain rfl:t=true:=ht.2 oA;clear ht oA;go_wp2;go_roundw
      case rel=>
       refine⟨j+1,m0,sa,sc,by omega,by go_num,rfl,by omega,?_,by rw[zGX kA.out],by rw[zGX kA.out];exact cB.out,zo rA pB.out (Or.inl kA.out),by rw[zGX kA.out];exact mB.out,jA.out,dA,fD⟩;exact dC.out.trans ⟨fun ⟨i,hi,h⟩=>⟨i,by omega,h⟩,fun ⟨i,hi,h⟩=>by
        by_cases e:i=j
        ·subst e;exact absurd kA.out h
        ·exact⟨i,by omega,h⟩⟩
      case measure=>simp[intOf];omega
     ·have kA:=zE oA;obtain rfl:t=false:=zQ ht oA;clear ht oA;have gA:=zE (show(zAM p k (p.s k) j).length<=maxLen by unfold maxLen;omega);obtain⟨⟨x0,x1⟩,⟨x2,x3⟩⟩:=jA.out;by_cases vC:zAy p (zb (p.s k) j) (zu (p.s k) j)
      ·have fB:=zE vC;clear vC;by_cases bD:zb (p.s k) j∈zAM p k (p.s k) j
       ·have mC:=zE bD;clear bD;go_wp2_with fail;refine wp_region_held_drew (S:=(fun w'=>w'.cell? ⟨w.heap.size,0,none⟩=some (.slice (some ⟨b,off,none⟩) p.n c)/\w'.cell? ⟨w.heap.size,1,none⟩=some (.slice a' p.hn c')/\w'.cell? ⟨tb,aC+j*2,none⟩=some (.int .i64 (zb (p.s k) j))/\w'.cell? ⟨tb,aC+j*2+1,none⟩=some (.int .i64 (zu (p.s k) j)))) (by kernel_rfl) ?_ (fun hHeld=>?_)
        ·(try dsimp only)
         go_keep
        refine tk 0 (h:=tk 1 (h:=tk 2 (h:=tk 3 (h:=tk 4 (h:=?_)))));refine rd [5] (rc (fun K hK=>?_) .nil);go_simp;go_at_call 139;refine(zCu _ _ lo hi p (zb (p.s k) j) (zu (p.s k) j) _ ?_).mono ?_
        ·first | exact Hp.out.zRJ dA | exact Hp.out.zRJ dA.drew
        rintro e wa ⟨⟨ta,rfl,fA⟩,eA⟩;obtain rfl:ta=true:=fA.2 fB.out;clear fA;have aA:Below W.heap.size W wa:=(by first | exact eA | exact zK eA);obtain⟨⟨k0,_⟩,⟨k1,_⟩⟩:=jA.out.zRJ aA;have k2:=(aA.cell (zD q0)).trans q0;have k3:=(aA.cell (zD q1)).trans q1
        (try go_wp2_with fail)
        refine hK.out _ _ (by(try dsimp only);go_keep) ?_;clear hK K hHeld;intro hHeld
        try simp only[Act.put,s1,s2,s3]
        refine tk 6 (h:=tk 7 (h:=tk 8 (h:=tk 9 (h:=tk 10 (h:=tk 11 (h:=tk 12 (h:=tk 13 (h:=?_))))))));refine rd [14] (rc (fun K hK=>?_) .nil);go_simp;go_at_call 75;refine(zAQ _ _ 0 _ _ (zb (p.s k) j) _ (zF4 gA.out (cB.out.kept (yu aA none) (by rcases Value.ownBlock _<;>simp)))).mono ?_;rintro e wb ⟨⟨oB,rfl,cA⟩,rfl⟩;rw[zFb]at cA;obtain rfl:oB=true:=cA.2 mC.out;clear cA
        (try go_wp2_with fail)
        refine hK.out _ _ (by(try dsimp only);go_keep) ?_;clear hK K hHeld;intro hHeld
        try simp only[Act.put,s1,s2,s3]
        refine tk 15 (h:=?_);refine wpAnyH_done (by kernel_rfl) ?_ _;have pA:=zA dA aA;go_wp2;go_ret;refine⟨zG.no fun h=>?_,pA⟩;have hd:=zJK HN.out (h.resolve_left HN.out).2.2 rA (Nat.zero_le _) kA.out;exact(zDq.1 (show(zAM p k (p.s k) j ++ [zb (p.s k) j]).Nodup from hd)).2 mC.out
       ·have mC:=zE bD;clear bD;go_wp2_with fail;refine wp_region_held_drew (S:=(fun w'=>w'.cell? ⟨w.heap.size,0,none⟩=some (.slice (some ⟨b,off,none⟩) p.n c)/\w'.cell? ⟨w.heap.size,1,none⟩=some (.slice a' p.hn c')/\w'.cell? ⟨tb,aC+j*2,none⟩=some (.int .i64 (zb (p.s k) j))/\w'.cell? ⟨tb,aC+j*2+1,none⟩=some (.int .i64 (zu (p.s k) j)))) (by kernel_rfl) ?_ (fun hHeld=>?_)
        ·(try dsimp only)
         go_keep
        refine tk 0 (h:=tk 1 (h:=tk 2 (h:=tk 3 (h:=tk 4 (h:=?_)))));refine rd [5] (rc (fun K hK=>?_) .nil);go_simp;go_at_call 139;refine(zCu _ _ lo hi p (zb (p.s k) j) (zu (p.s k) j) _ ?_).mono ?_
        ·first | exact Hp.out.zRJ dA | exact Hp.out.zRJ dA.drew
        rintro e wa ⟨⟨ta,rfl,fA⟩,eA⟩;obtain rfl:ta=true:=fA.2 fB.out;clear fA;have aA:Below W.heap.size W wa:=(by first | exact eA | exact zK eA);obtain⟨⟨k0,_⟩,⟨k1,_⟩⟩:=jA.out.zRJ aA;have k2:=(aA.cell (zD q0)).trans q0;have k3:=(aA.cell (zD q1)).trans q1
        (try go_wp2_with fail)
        refine hK.out _ _ (by(try dsimp only);go_keep) ?_;clear hK K hHeld;intro hHeld
        try simp only[Act.put,s1,s2,s3]
        refine tk 6 (h:=tk 7 (h:=tk 8 (h:=tk 9 (h:=tk 10 (h:=tk 11 (h:=tk 12 (h:=tk 13 (h:=?_))))))));refine rd [14] (rc (fun K hK=>?_) .nil);go_simp;go_at_call 75;refine(zAQ _ _ 0 _ _ (zb (p.s k) j) _ (zF4 gA.out (cB.out.kept (yu aA none) (by rcases Value.ownBlock _<;>simp)))).mono ?_;rintro e wb ⟨⟨oB,rfl,cA⟩,rfl⟩;rw[zFb]at cA;obtain rfl:oB=false:=zQ cA mC.out;clear cA
        (try go_wp2_with fail)
        refine hK.out _ _ (by(try dsimp only);go_keep) ?_;clear hK K hHeld;intro hHeld
        try simp only[Act.put,s1,s2,s3]
        refine tk 15 (h:=?_);refine wpAnyH_done (by kernel_rfl) ?_ _;have pA:=zA dA aA;have rE:w.heap.size+2<=wb.heap.size:=(by have:=aA.size;omega);obtain⟨m,hm⟩:=Int.eq_ofNat_of_zero_le fB.out.1.2.1;have aF:m<p.n:=(by have:=fB.out.1.2.2.1;omega);have jF:(m:Int)<(p.n:Int):=(by omega);have pC:(zb (p.s k) j).toNat=m:=(by rw[hm];rfl);have jE:=zE (qV HR.out fB.out.1);rw[pC]at jE;have rD:(p.s m).kn=8:=by
         have h0:=fB.out.2.1;rw[pC]at h0;rcases zEi jE.out with h | h
         ·omega
         ·exact h
        have eD:=zE rD;obtain⟨_,_,ua,uc,ha,jD⟩:=Hp.out.1.cells aF;simp only[Option.some.injEq,Addr.mk.injEq,and_true]at ha;obtain⟨rfl,rfl⟩:=ha;have vE:Hid (zR w lo hi (.slice ua 8 uc) 8 (p.s m).ks (p.s m).kb):=(by have:=jD.slot.2.1;rw[rD]at this;exact this);have eF:=zE jD;have Hm:=zE hm;have tB:=zE pC;have iA:=zC wb (.cells #[.int .i64 (zb (p.s k) j)] 2);have kB:=zE ((cB.out.zRJ aA).zRJ iA);have sC:=zE ((jA.out.zRJ aA).zRJ iA);have sB:=zA pA iA;have iF:(wb.alloc (.cells #[.int .i64 (zb (p.s k) j)] 2)).heap.size=wb.heap.size+1:=World.size_alloc _ _;have nC:=zE (World.news_of_block (heap_alloc_last wb (.cells #[.int .i64 (zb (p.s k) j)] 2)));have lF:(m0:Int)<9:=(by omega);clear jD rD hm pC iA cB jA dA aA q0 q1 k0 k1 k3 x0 x1 x2 x3;go_wp2_with (first
         | (at_builtin;refine wpList_append_lies _ rfl _ _ 23 rfl (w.heap.size+2) 2 i0 (.int .i64 0) 1 8 (by kernel_rfl) HI.out.1 HI.out.2.1 HI.out.2.2.1 HI.out.2.2.2 rfl (by decide) (.slice sa (zAM p k (p.s k) j).length sc) (zAM p k (p.s k) j).length (icl (zAM p k (p.s k) j)) rfl kB.out ⟨wb.heap.size,0,none⟩ 1 1 [.int .i64 (zb (p.s k) j)] rfl rfl nC.out (by simp[Value.oneCell']) (by decide) (by unfold maxLen;omega) (by omega) (by omega) _ rfl ?_;intro g4 iB w4 lA bA gC cC)
         | fail)
        have aE:Hid (zF2 w4 (w.heap.size+2) (.slice (some ⟨g4,0,none⟩) ((zAM p k (p.s k) j).length+1) iB) (zBN p k (p.s k) j 0)):=by
         rw[zGM];exact zF2.next lA
        have rC:Below w.heap.size w w4:=sB.grown bA sB.size (fun q hq=>by have:=kB.out.lt hq;omega);have kD:=zE (sC.out.grownT bA (fun q hq=>by have:=kB.out.lt hq;omega));have lE:w.heap.size+2<=w4.heap.size:=(by have:=bA.size;omega);have dE:(zBN p k (p.s k) j 0).Nodup:=(by rw[zGM];exact zDq.2 ⟨mB.out,mC.out⟩);have fE:=zE dE;clear lA bA gC cC kB sC sB pA nC dE k2;obtain⟨_,_,ha,q0,q1⟩:=(bE.out.zRJ rC).cellsT rA;simp only[Option.some.injEq,Addr.mk.injEq,and_true]at ha;obtain⟨rfl,rfl⟩:=ha;rw[<-zCw H8.out rA,Hm.out]at q0;obtain⟨r0,r1,r2,_⟩:=eF.out.zRJ rC;rw[eD.out]at r1;obtain⟨⟨x0,x1⟩,⟨x2,x3⟩⟩:=kD.out
        go_quiet (fail)
        go_wp2
        go_loopw [5,9,11] (fun sv nv i wr=>∃(i' m1:Nat) (sa:Option Addr) (sc:Nat),i'<=8/\i = .int .i64 i'/\nv = .int .i64 m1/\m1<=i'/\(0<m1↔∃i,i<i'/\¬Nil (zb (p.s m) i) (zu (p.s m) i))/\sv = .slice sa (zBN p k (p.s k) j i').length sc/\zF2 wr (w.heap.size+2) sv (zBN p k (p.s k) j i')/\(∀i,i<i'->Nil (zb (p.s m) i) (zu (p.s m) i)\/zEJ p (zb (p.s m) i) (zu (p.s m) i))/\(zBN p k (p.s k) j i').Nodup/\zc wr w.heap.size (.slice (some ⟨b,off,none⟩) p.n c) (.slice a' p.hn c')/\Below w.heap.size w wr/\w.heap.size+2<=wr.heap.size) (fun _ _ i _=>8 - (intOf i).toNat)
        case atStart=>exact⟨0,0,some ⟨g4,0,none⟩,iB,Nat.zero_le _,rfl,rfl,Nat.le_refl _,⟨fun h=>absurd h (Nat.lt_irrefl _),fun ⟨i,hi,_⟩=>absurd hi (Nat.not_lt_zero _)⟩,by rw[zGM,List.length_append];rfl,aE.out.zRJ (zg (Below.refl _ _) _),fun i hi=>absurd hi (Nat.not_lt_zero _),fE.out,kD.out.zRJ (zg (Below.refl _ _) _),zg rC _,lE⟩
        case round=>
         obtain⟨i,m1,sa,sc,sE,rfl,rfl,nF,lB,rfl,sA,oE,aB,vA,gB,tC⟩:=hrel;have tA:=zE lB;have nA:=zE sA;have cD:=zE oE;have bB:=zE aB;have mA:=zE vA;have cE:=zQQ p k (p.s k) (show j<=8 by omega) sE;clear lB sA oE aB vA aE kD rC fE x0 x1 x2 x3 q0 q1 r0 r1 r2 lE;by_cases vB:i<8
         ·have pE:(i:Int)<8:=(by omega);obtain⟨ub,bC,rfl,q0,q1⟩:=(vE.out.zRJ gB).cellsT vB;rw[<-zCw eD.out vB]at q0;rw[<-zEj eD.out vB]at q1;go_wp2_with fail;refine(yg (zb (p.s m) i) (zu (p.s m) i) wr).mono ?_;rintro e W ⟨⟨t,rfl,ht⟩,hb⟩;have dA:=zA gB hb;have jA:=zE (mA.out.zRJ hb);have cB:=zE (nA.out.zRJ hb);have fD:w.heap.size+2<=W.heap.size:=(by have:=hb.size;omega);have fC:=(hb.cell (zD q0)).trans q0;have iC:=(hb.cell (zD q1)).trans q1;clear q0 q1 gB hb nA mA tC;have q0:=fC;have q1:=iC;clear fC iC;by_cases oA:Nil (zb (p.s m) i) (zu (p.s m) i)
          ·have nB:=zE oA;obtain rfl:t=true:=ht.2 oA;clear ht oA;have es:zBN p k (p.s k) j (i+1)=zBN p k (p.s k) j i:=zOy (by rw[tB.out];exact nB.out);go_wp2;go_roundw
           case rel=>
            refine⟨i+1,m1,sa,sc,by omega,by go_num,rfl,by omega,?_,by rw[es],by rw[es];exact cB.out,zo vB cD.out (Or.inl nB.out),by rw[es];exact bB.out,jA.out,dA,fD⟩;exact tA.out.trans ⟨fun ⟨i,hi,h⟩=>⟨i,by omega,h⟩,fun ⟨i',hi,h⟩=>by
             by_cases e:i'=i
             ·subst e;exact absurd nB.out h
             ·exact⟨i',by omega,h⟩⟩
           case measure=>simp[intOf];omega
          ·have nB:=zE oA;obtain rfl:t=false:=zQ ht oA;clear ht oA;have gA:=zE (show(zBN p k (p.s k) j i).length<=maxLen by unfold maxLen;omega);obtain⟨⟨x0,x1⟩,⟨x2,x3⟩⟩:=jA.out;have es:zBN p k (p.s k) j (i+1)=zBN p k (p.s k) j i ++ [zb (p.s m) i]:=(by have:=zPv (p:=p) (rs:=(k:Int)) (s:=p.s k) (j:=j) (i:=i) (by rw[tB.out];exact nB.out);rw[tB.out]at this;exact this);have aD:=zE es;clear es;by_cases hP:zEJ p (zb (p.s m) i) (zu (p.s m) i)
           ·have rB:=zE hP;clear hP;by_cases jB:zb (p.s m) i∈zBN p k (p.s k) j i
            ·have eB:=zE jB;clear jB;go_wp2_with fail;refine wp_region_held_drew (S:=(fun w'=>w'.cell? ⟨w.heap.size,0,none⟩=some (.slice (some ⟨b,off,none⟩) p.n c)/\w'.cell? ⟨w.heap.size,1,none⟩=some (.slice a' p.hn c')/\w'.cell? ⟨ub,bC+i*2,none⟩=some (.int .i64 (zb (p.s m) i))/\w'.cell? ⟨ub,bC+i*2+1,none⟩=some (.int .i64 (zu (p.s m) i)))) (by kernel_rfl) ?_ (fun hHeld=>?_)
             ·(try dsimp only)
              go_keep
             refine tk 0 (h:=tk 1 (h:=tk 2 (h:=tk 3 (h:=tk 4 (h:=?_)))));refine rd [5] (rc (fun K hK=>?_) .nil);go_simp;go_at_call 140;refine(zEV _ _ lo hi p (zb (p.s m) i) (zu (p.s m) i) _ ?_).mono ?_
             ·first | exact Hp.out.zRJ dA | exact Hp.out.zRJ dA.drew
             rintro e wa ⟨⟨ta,rfl,fA⟩,eA⟩;obtain rfl:ta=true:=fA.2 rB.out;clear fA;have aA:Below W.heap.size W wa:=(by first | exact eA | exact zK eA);obtain⟨⟨k0,_⟩,⟨k1,_⟩⟩:=jA.out.zRJ aA;have k2:=(aA.cell (zD q0)).trans q0;have k3:=(aA.cell (zD q1)).trans q1
             (try go_wp2_with fail)
             refine hK.out _ _ (by(try dsimp only);go_keep) ?_;clear hK K hHeld;intro hHeld
             try simp only[Act.put,s1,s2,s3]
             refine tk 6 (h:=tk 7 (h:=tk 8 (h:=tk 9 (h:=tk 10 (h:=tk 11 (h:=tk 12 (h:=tk 13 (h:=?_))))))));refine rd [14] (rc (fun K hK=>?_) .nil);go_simp;go_at_call 75;refine(zAQ _ _ 0 _ _ (zb (p.s m) i) _ (zF4 gA.out (cB.out.kept (yu aA none) (by rcases Value.ownBlock _<;>simp)))).mono ?_;rintro e wb ⟨⟨oB,rfl,cA⟩,rfl⟩;rw[zFb]at cA;obtain rfl:oB=true:=cA.2 eB.out;clear cA
             (try go_wp2_with fail)
             refine hK.out _ _ (by(try dsimp only);go_keep) ?_;clear hK K hHeld;intro hHeld
             try simp only[Act.put,s1,s2,s3]
             refine tk 15 (h:=?_);refine wpAnyH_done (by kernel_rfl) ?_ _;have pA:=zA dA aA;go_wp2;go_ret;refine⟨zG.no fun h=>?_,pA⟩;have hd:=zJK HN.out (h.resolve_left HN.out).2.2 rA (show i+1<=8 by omega) kA.out;have mE:(zBN p k (p.s k) j (i+1)).Nodup:=hd;rw[aD.out]at mE;exact(zDq.1 mE).2 eB.out
            ·have eB:=zE jB;clear jB;go_wp2_with fail;refine wp_region_held_drew (S:=(fun w'=>w'.cell? ⟨w.heap.size,0,none⟩=some (.slice (some ⟨b,off,none⟩) p.n c)/\w'.cell? ⟨w.heap.size,1,none⟩=some (.slice a' p.hn c')/\w'.cell? ⟨ub,bC+i*2,none⟩=some (.int .i64 (zb (p.s m) i))/\w'.cell? ⟨ub,bC+i*2+1,none⟩=some (.int .i64 (zu (p.s m) i)))) (by kernel_rfl) ?_ (fun hHeld=>?_)
             ·(try dsimp only)
              go_keep
             refine tk 0 (h:=tk 1 (h:=tk 2 (h:=tk 3 (h:=tk 4 (h:=?_)))));refine rd [5] (rc (fun K hK=>?_) .nil);go_simp;go_at_call 140;refine(zEV _ _ lo hi p (zb (p.s m) i) (zu (p.s m) i) _ ?_).mono ?_
             ·first | exact Hp.out.zRJ dA | exact Hp.out.zRJ dA.drew
             rintro e wa ⟨⟨ta,rfl,fA⟩,eA⟩;obtain rfl:ta=true:=fA.2 rB.out;clear fA;have aA:Below W.heap.size W wa:=(by first | exact eA | exact zK eA);obtain⟨⟨k0,_⟩,⟨k1,_⟩⟩:=jA.out.zRJ aA;have k2:=(aA.cell (zD q0)).trans q0;have k3:=(aA.cell (zD q1)).trans q1
             (try go_wp2_with fail)
             refine hK.out _ _ (by(try dsimp only);go_keep) ?_;clear hK K hHeld;intro hHeld
             try simp only[Act.put,s1,s2,s3]
             refine tk 6 (h:=tk 7 (h:=tk 8 (h:=tk 9 (h:=tk 10 (h:=tk 11 (h:=tk 12 (h:=tk 13 (h:=?_))))))));refine rd [14] (rc (fun K hK=>?_) .nil);go_simp;go_at_call 75;refine(zAQ _ _ 0 _ _ (zb (p.s m) i) _ (zF4 gA.out (cB.out.kept (yu aA none) (by rcases Value.ownBlock _<;>simp)))).mono ?_;rintro e wb ⟨⟨oB,rfl,cA⟩,rfl⟩;rw[zFb]at cA;obtain rfl:oB=false:=zQ cA eB.out;clear cA
             (try go_wp2_with fail)
             refine hK.out _ _ (by(try dsimp only);go_keep) ?_;clear hK K hHeld;intro hHeld
             try simp only[Act.put,s1,s2,s3]
             refine tk 15 (h:=?_);refine wpAnyH_done (by kernel_rfl) ?_ _;have pA:=zA dA aA;have rE:w.heap.size+2<=wb.heap.size:=(by have:=aA.size;omega);have iA:=zC wb (.cells #[.int .i64 (zb (p.s m) i)] 2);have kB:=zE ((cB.out.zRJ aA).zRJ iA);have sC:=zE ((jA.out.zRJ aA).zRJ iA);have sB:=zA pA iA;have iF:(wb.alloc (.cells #[.int .i64 (zb (p.s m) i)] 2)).heap.size=wb.heap.size+1:=World.size_alloc _ _;have nC:=zE (World.news_of_block (heap_alloc_last wb (.cells #[.int .i64 (zb (p.s m) i)] 2)));have cF:(m1:Int)<9:=(by omega);clear iA cB jA dA aA q0 q1 k0 k1 k3 x0 x1 x2 x3;go_wp2_with (first
              | (at_builtin;refine wpList_append_lies _ rfl _ _ 23 rfl (w.heap.size+2) 2 i0 (.int .i64 0) 1 8 (by kernel_rfl) HI.out.1 HI.out.2.1 HI.out.2.2.1 HI.out.2.2.2 rfl (by decide) (.slice sa (zBN p k (p.s k) j i).length sc) (zBN p k (p.s k) j i).length (icl (zBN p k (p.s k) j i)) rfl kB.out ⟨wb.heap.size,0,none⟩ 1 1 [.int .i64 (zb (p.s m) i)] rfl rfl nC.out (by simp[Value.oneCell']) (by decide) (by unfold maxLen;omega) (by omega) (by omega) _ rfl ?_;intro g4 iB w4 lA bA gC cC)
              | go_in)
             go_roundw
             case rel=>
              refine⟨i+1,m1+1,some ⟨g4,0,none⟩,iB,by omega,by go_num,by go_num,by omega,⟨fun _=>⟨i,by omega,nB.out⟩,fun _=>by omega⟩,by rw[aD.out,List.length_append];rfl,by rw[aD.out];exact zF2.next lA,zo vB cD.out (Or.inr rB.out),by rw[aD.out];exact zDq.2 ⟨bB.out,eB.out⟩,sC.out.grownT bA (fun q hq=>by have:=kB.out.lt hq;omega),sB.grown bA sB.size (fun q hq=>by have:=kB.out.lt hq;omega),by have:=bA.size;omega⟩
             case measure=>simp[intOf];omega
           ·have rB:=zE hP;clear hP;go_wp2_with fail;refine wp_region_held_drew (S:=(fun w'=>w'.cell? ⟨w.heap.size,0,none⟩=some (.slice (some ⟨b,off,none⟩) p.n c)/\w'.cell? ⟨w.heap.size,1,none⟩=some (.slice a' p.hn c')/\w'.cell? ⟨ub,bC+i*2,none⟩=some (.int .i64 (zb (p.s m) i))/\w'.cell? ⟨ub,bC+i*2+1,none⟩=some (.int .i64 (zu (p.s m) i)))) (by kernel_rfl) ?_ (fun hHeld=>?_)
            ·(try dsimp only)
             go_keep
            refine tk 0 (h:=tk 1 (h:=tk 2 (h:=tk 3 (h:=tk 4 (h:=?_)))));refine rd [5] (rc (fun K hK=>?_) .nil);go_simp;go_at_call 140;refine(zEV _ _ lo hi p (zb (p.s m) i) (zu (p.s m) i) _ ?_).mono ?_
            ·first | exact Hp.out.zRJ dA | exact Hp.out.zRJ dA.drew
            rintro e wa ⟨⟨ta,rfl,fA⟩,eA⟩;obtain rfl:ta=false:=zQ fA rB.out;clear fA;have aA:Below W.heap.size W wa:=(by first | exact eA | exact zK eA);obtain⟨⟨k0,_⟩,⟨k1,_⟩⟩:=jA.out.zRJ aA;have k2:=(aA.cell (zD q0)).trans q0;have k3:=(aA.cell (zD q1)).trans q1
            (try go_wp2_with fail)
            refine hK.out _ _ (by(try dsimp only);go_keep) ?_;clear hK K hHeld;intro hHeld
            try simp only[Act.put,s1,s2,s3]
            refine tk 6 (h:=tk 7 (h:=ts 8 (h:=ts 9 (h:=ts 10 (h:=ts 11 (h:=ts 12 (h:=ts 13 (h:=?_))))))));refine rd [14] (rc (fun K hK=>?_) .nil);split
            ·rename_i gD
             exact absurd (show false=true from gD) Bool.false_ne_true
            refine hK.out _ _ (by assumption) (fun hHeld=>?_);clear hK K
            try simp only[Act.put,s1,s2,s3]
            refine tk 15 (h:=?_);refine wpAnyH_done (by kernel_rfl) ?_ _;have pA:=zA dA aA;go_wp2;go_ret;refine⟨zG.no fun h=>?_,pA⟩;rcases(h.resolve_left HN.out).2.1.1 j rA with h | h
            ·exact kA.out h
            ·have h2:Nil (zb (p.s (zb (p.s k) j).toNat) i) (zu (p.s (zb (p.s k) j).toNat) i)\/zEJ p (zb (p.s (zb (p.s k) j).toNat) i) (zu (p.s (zb (p.s k) j).toNat) i):=h.2.1 i vB;rw[tB.out]at h2;rcases h2 with h2 | h2
             ·exact nB.out h2
             ·exact rB.out h2
         ·obtain rfl:i=8:=(by omega);by_cases gE:m1=0
          ·subst gE;have e0:((0:Nat):Int)=0:=rfl;go_wp2;go_ret;refine⟨zG.no fun h=>?_,gB⟩;rcases(h.resolve_left HN.out).2.1.1 j rA with h | h
           ·exact kA.out h
           ·have h2:∃i,i<8/\¬Nil (zb (p.s (zb (p.s k) j).toNat) i) (zu (p.s (zb (p.s k) j).toNat) i):=h.2.2;rw[tB.out]at h2;have:=tA.out.2 h2;omega
          ·have e0:((m1:Int) == 0)=false:=(by simp;omega);have dF:=zE (show 0<m1 by omega);have iD:Hid (zPD p (p.s (zb (p.s k) j).toNat)):=(by rw[tB.out];exact⟨cD.out,tA.out.1 dF.out⟩);clear gE;go_wp2;go_roundw
           case rel=>
            refine⟨j+1,m0+1,sa,sc,by omega,by go_num,by go_num,by omega,⟨fun _=>⟨j,by omega,kA.out⟩,fun _=>by omega⟩,by rw[zEY kA.out],by rw[zEY kA.out];exact nA.out,zo rA pB.out (Or.inr ⟨fB.out,iD.out⟩),by rw[zEY kA.out];exact bB.out,mA.out,gB,tC⟩
           case measure=>simp[intOf];omega
      ·have fB:=zE vC;clear vC;go_wp2_with fail;refine wp_region_held_drew (S:=(fun w'=>w'.cell? ⟨w.heap.size,0,none⟩=some (.slice (some ⟨b,off,none⟩) p.n c)/\w'.cell? ⟨w.heap.size,1,none⟩=some (.slice a' p.hn c')/\w'.cell? ⟨tb,aC+j*2,none⟩=some (.int .i64 (zb (p.s k) j))/\w'.cell? ⟨tb,aC+j*2+1,none⟩=some (.int .i64 (zu (p.s k) j)))) (by kernel_rfl) ?_ (fun hHeld=>?_)
       ·(try dsimp only)
        go_keep
       refine tk 0 (h:=tk 1 (h:=tk 2 (h:=tk 3 (h:=tk 4 (h:=?_)))));refine rd [5] (rc (fun K hK=>?_) .nil);go_simp;go_at_call 139;refine(zCu _ _ lo hi p (zb (p.s k) j) (zu (p.s k) j) _ ?_).mono ?_
       ·first | exact Hp.out.zRJ dA | exact Hp.out.zRJ dA.drew
       rintro e wa ⟨⟨ta,rfl,fA⟩,eA⟩;obtain rfl:ta=false:=zQ fA fB.out;clear fA;have aA:Below W.heap.size W wa:=(by first | exact eA | exact zK eA);obtain⟨⟨k0,_⟩,⟨k1,_⟩⟩:=jA.out.zRJ aA;have k2:=(aA.cell (zD q0)).trans q0;have k3:=(aA.cell (zD q1)).trans q1
       (try go_wp2_with fail)
       refine hK.out _ _ (by(try dsimp only);go_keep) ?_;clear hK K hHeld;intro hHeld
       try simp only[Act.put,s1,s2,s3]
       refine tk 6 (h:=tk 7 (h:=ts 8 (h:=ts 9 (h:=ts 10 (h:=ts 11 (h:=ts 12 (h:=ts 13 (h:=?_))))))));refine rd [14] (rc (fun K hK=>?_) .nil);split
       ·rename_i gD
        exact absurd (show false=true from gD) Bool.false_ne_true
       refine hK.out _ _ (by assumption) (fun hHeld=>?_);clear hK K
       try simp only[Act.put,s1,s2,s3]
       refine tk 15 (h:=?_);refine wpAnyH_done (by kernel_rfl) ?_ _;have pA:=zA dA aA;go_wp2;go_ret;refine⟨zG.no fun h=>?_,pA⟩;rcases(h.resolve_left HN.out).2.1.1 j rA with h | h
       ·exact kA.out h
       ·exact fB.out h.1
    ·obtain rfl:j=8:=(by omega);go_wp2;go_ret;refine⟨⟨_,rfl,?_⟩,gB⟩;have hc:=dC.out;constructor
     ·intro h;refine Or.inr ⟨sD.out,⟨pB.out,hc.1 (by simpa using h)⟩,?_⟩;rw[zID HN.out];exact mB.out
     ·intro h;have:=hc.2 (h.resolve_left HN.out).2.1.2;simpa using this
  ·have sD:=zE dB;obtain rfl:t=false:=zQ ht dB;clear ht dB;go_wp2;go_ret;exact⟨zG.no fun h=>(h.resolve_left HN.out).1 |> sD.out,mD⟩
def zDw(p:zJ)(rs rb:Int)(s:zL)(j:Nat):List (Int×Int):=(rs,rb) :: zAv p s j
def zDA(p:zJ)(rs rb:Int)(s:zL)(j i:Nat):List (Int×Int):=zDw p rs rb s j ++ ((zb s j,zu s j) :: kidsUp (zb (p.s (zb s j).toNat)) (zu (p.s (zb s j).toNat)) i)
theorem zPV{p:zJ}{rs rb:Int}(hz:¬Nil rs rb):zT p rs rb=zDw p rs rb (p.s rs.toNat) 8:=if_neg hz
theorem zLc{p:zJ}{rs rb:Int}{s:zL}{j:Nat}(hn:¬Nil (zb s j) (zu s j)):zDw p rs rb s (j+1)=zDA p rs rb s j 8:=by
 unfold zDw zDA zDw;rw[zAv,zLP hn];rfl
theorem zLZ{p:zJ}{rs rb:Int}{s:zL}{j:Nat}(hn:Nil (zb s j) (zu s j)):zDw p rs rb s (j+1)=zDw p rs rb s j:=by
 unfold zDw;rw[zAv,show zEo p (zb s j) (zu s j) = [] from if_pos hn,List.append_nil]
theorem zHV(p:zJ)(rs rb:Int)(s:zL)(j:Nat):zDA p rs rb s j 0=zDw p rs rb s j ++ [(zb s j,zu s j)]:=rfl
theorem zOb{p:zJ}{rs rb:Int}{s:zL}{j i:Nat}(hn:Nil (zb (p.s (zb s j).toNat) i) (zu (p.s (zb s j).toNat) i)):zDA p rs rb s j (i+1)=zDA p rs rb s j i:=by
 unfold zDA;rw[kidsUp,show one (zb (p.s (zb s j).toNat) i) (zu (p.s (zb s j).toNat) i) = [] from if_pos hn,List.append_nil]
theorem zNi{p:zJ}{rs rb:Int}{s:zL}{j i:Nat}(hn:¬Nil (zb (p.s (zb s j).toNat) i) (zu (p.s (zb s j).toNat) i)):zDA p rs rb s j (i+1)=zDA p rs rb s j i ++ [(zb (p.s (zb s j).toNat) i,zu (p.s (zb s j).toNat) i)]:=by
 unfold zDA;rw[kidsUp,show one (zb (p.s (zb s j).toNat) i) (zu (p.s (zb s j).toNat) i) = [(zb (p.s (zb s j).toNat) i,zu (p.s (zb s j).toNat) i)] from if_neg hn,List.append_assoc];rfl
theorem zNY(p:zJ)(rs rb:Int)(s:zL){j:Nat}(hj:j<=8):(zDw p rs rb s j).length<=73:=by
 have:=zEn p s j;simp only[zDw,List.length_cons];omega
theorem zOh(p:zJ)(rs rb:Int)(s:zL){j i:Nat}(hj:j<=8)(hi:i<=8):(zDA p rs rb s j i).length<=90:=by
 have h1:=zNY p rs rb s hj;have h2:=zAg (zb (p.s (zb s j).toNat)) (zu (p.s (zb s j).toNat)) i;simp only[zDA,List.length_append,List.length_cons];omega
theorem zw.next{w2:World}{base g aA:Nat}{l:List (Int×Int)}{x y:Int}(h:w2.ownsRow base 61 2 (.slice (some ⟨g,0,none⟩) (l.length+1) aA) (l.length+1) (pcl l ++ [.int .i64 x,.int .i64 y])):zw w2 base (.slice (some ⟨g,0,none⟩) (l.length+1) aA) (l ++ [(x,y)]):=by
 unfold zw;rw[zBC,List.length_append];exact h
theorem ye(v0 v1:Value)(lo hi:Nat)(p:zJ)(xs xb:Int)(w:World)(h1:zy w lo hi v0 v1 p)(hR:zv p)(hT:qF p xs xb) :
  Calls Tryz.prog 141 #[.agg #[v0,v1],.agg #[.int .i64 xs,.int .i64 xb]] w fun e w'=>∃v,e = .returned v/\zw w' w.heap.size v (zT p xs xb)/\Below w.heap.size w w':=by
 have Hp:=zE h1;have HR:=zE hR;have HT:=zE hT;obtain⟨a,c,a',c',rfl,rfl⟩:∃a c a' c',v0 = .slice a p.n c/\v1 = .slice a' p.hn c':=by
  obtain⟨⟨_,a,c,h1,_⟩,⟨_,a',c',h3,_⟩⟩:=h1;exact⟨a,c,a',c',h1,h3⟩
 clear h1 hR hT;have nB:=zBs w (.slice a p.n c) (.slice a' p.hn c') (.int .i64 xs) (.int .i64 xb) 33 61;obtain⟨i0,aD,mC⟩:=Option.map_eq_some_iff.1 zAz;simp only[Prod.mk.injEq]at mC;have HI:=zE (And.intro aD mC);clear aD mC;go_enter Tryz.func141,Tryz.ntmps141;have mA:=World.ownsRow_lit (e:=61) (size:=2) (base:=w.heap.size+2) ((w.alloc (.cells #[.slice a p.n c,.slice a' p.hn c'] 33)).alloc (.cells #[.int .i64 xs,.int .i64 xb] 61)) #[] 0 (by rw[nB.2.2.2];omega) (by unfold maxLen;omega) rfl;rw[nB.2.2.2]at mA;have iD:=nB.2.1.zRJ (zC _ (.cells #[] 61));obtain⟨⟨y0,y1⟩,⟨y2,y3⟩⟩:=iD;go_wp2_with fail;clear y0 y1 y2 y3;generalize (w.alloc (.cells #[.slice a p.n c,.slice a' p.hn c'] 33)).alloc (.cells #[.int .i64 xs,.int .i64 xb] 61)=W at nB mA ⊢;obtain⟨hB,hX,rC,hz⟩:=nB;have cA:=zC W (.cells #[] 61);have dC:=zE (show zw (W.alloc (.cells #[] 61)) (w.heap.size+2) (.slice (some ⟨w.heap.size+2,0,none⟩) 0 0) [] from mA);have iC:=hB.zRJ cA;have rB:=hX.zRJ cA;have sB:=zA rC cA;have bD:(W.alloc (.cells #[] 61)).heap.size=w.heap.size+3:=by rw[World.size_alloc,hz]
 clear mA hB hX rC cA;generalize W.alloc (.cells #[] 61)=W0 at dC iC rB sB bD ⊢;refine(yg xs xb W0).mono ?_;rintro e w1 ⟨⟨t,rfl,ht⟩,fB⟩;have bC:=zE (iC.zRJ fB);have aC:=zE (rB.zRJ fB);have tB:=zE (dC.out.zRJ fB);have eC:=zA sB fB;have fD:w.heap.size+3<=w1.heap.size:=by have:=fB.size;omega
 clear iC rB sB fB dC bD hz;by_cases hn:Nil xs xb
 ·have HN:=zE hn;obtain rfl:t=true:=ht.2 hn;clear ht hn;go_wp2;go_ret;refine⟨_,rfl,?_,eC⟩;rw[show zT p xs xb = [] from if_pos HN.out];exact tB.out.mono (by omega)
 ·have HN:=zE hn;obtain rfl:t=false:=zQ ht hn;clear ht hn;have gB:zAy p xs xb:=(HT.out.resolve_left HN.out).1;have jB:=zE (HT.out.resolve_left HN.out).2.1.1;have h8:(p.s xs.toNat).kn=8:=by rcases zDJ HR.out gB.1 with h | h;(have:=gB.2.1;omega);exact h
  obtain⟨k,rfl⟩:=Int.eq_ofNat_of_zero_le gB.1.2.1;have hk:k<p.n:=(by have:=gB.1.2.2.1;omega);have sD:(k:Int)<(p.n:Int):=(by omega);rw[Int.toNat_natCast]at h8 jB;have H8:=zE h8;clear gB;obtain⟨b,off,ka,kc,rfl,oC⟩:=Hp.out.1.cells hk;have tC:Hid (zR w lo hi (.slice ka 8 kc) 8 (p.s k).ks (p.s k).kb):=(by have:=oC.slot.2.1;rw[h8]at this;exact this);have vB:=zE oC;clear oC h8;obtain⟨⟨x0,x1⟩,⟨x2,x3⟩⟩:=bC.out;obtain⟨⟨y0,y1⟩,⟨y2,y3⟩⟩:=aC.out;have cA:=zC w1 (.cells #[.int .i64 (k:Int),.int .i64 xb] 61);have fA:=zE (tB.out.zRJ cA);have vA:=zE (bC.out.zRJ cA);have dD:=zE (aC.out.zRJ cA);have lA:=zA eC cA;have pB:(w1.alloc (.cells #[.int .i64 (k:Int),.int .i64 xb] 61)).heap.size=w1.heap.size+1:=World.size_alloc _ _;have bB:=zE (World.news_of_block (heap_alloc_last w1 (.cells #[.int .i64 (k:Int),.int .i64 xb] 61)));clear cA tB bC aC eC;go_wp2_with (first
   | (at_builtin;refine wpList_append_lies _ rfl _ _ 62 rfl (w.heap.size+2) 61 i0 (.agg #[.int .i64 0,.int .i64 0]) 2 16 (by kernel_rfl) HI.out.1 HI.out.2.1 HI.out.2.2.1 HI.out.2.2.2 rfl (by decide) (.slice (some ⟨w.heap.size+2,0,none⟩) 0 0) 0 [] rfl fA.out ⟨w1.heap.size,0,none⟩ 1 1 [.int .i64 (k:Int),.int .i64 xb] rfl rfl bB.out (by simp[Value.oneCell']) (by decide) (by unfold maxLen;omega) (by omega) (by omega) _ rfl ?_;intro g4 eA w4 bA aA nA oA;have rA:Below w.heap.size w w4:=lA.grown aA lA.size (fun q hq=>(by have:=(fA.out.lt hq).1;omega));have tA:=zE (vA.out.grownT aA (fun q hq=>by have:=(fA.out.lt hq).1;omega));have eD:=zE (dD.out.grownT aA (fun q hq=>by have:=(fA.out.lt hq).1;omega));have z0:=tA.out.1.1;have z1:=eD.out.1.1;have z2:=(vB.out.zRJ rA).c1;rw[H8.out]at z2)
   | go_in)
  have iB:=zE (show zw w4 (w.heap.size+2) (.slice (some ⟨g4,0,none⟩) 1 eA) (zDw p k xb (p.s k) 0)from bA);have kB:w.heap.size+2<=w4.heap.size:=(by have:=aA.size;omega);clear bA aA nA oA fA vA dD lA bB pB fD
  go_loopw [5,7] (fun sv i wr=>∃(j:Nat) (sa:Option Addr) (sc:Nat),j<=8/\i = .int .i64 j/\sv = .slice sa (zDw p k xb (p.s k) j).length sc/\zw wr (w.heap.size+2) sv (zDw p k xb (p.s k) j)/\zc wr w.heap.size (.slice (some ⟨b,off,none⟩) p.n c) (.slice a' p.hn c')/\Below w.heap.size w wr/\w.heap.size+2<=wr.heap.size) (fun _ i _=>8 - (intOf i).toNat)
  case atStart=>exact⟨0,some ⟨g4,0,none⟩,eA,Nat.zero_le _,rfl,rfl,iB.out,tA.out,rA,kB⟩
  case round=>
   obtain⟨j,sa,sc,hj,rfl,rfl,jA,kA,pA,oB⟩:=hrel;have dA:=zE jA;have iA:=zE kA;have gD:=zNY p k xb (p.s k) hj;clear jA kA iB tA eD rA z0 z1 z2 x0 x1 x2 x3 y0 y1 y2 y3 kB;by_cases dB:j<8
   ·have pD:(j:Int)<8:=(by omega);obtain⟨tb,tD,rfl,q0,q1⟩:=(tC.out.zRJ pA).cellsT dB;rw[<-zCw H8.out dB]at q0;rw[<-zEj H8.out dB]at q1;go_wp2_with fail;refine(yg (zb (p.s k) j) (zu (p.s k) j) wr).mono ?_;rintro e W ⟨⟨t,rfl,ht⟩,hb⟩;have cB:=zA pA hb;have aB:=zE (iA.out.zRJ hb);have sA:=zE (dA.out.zRJ hb);have nC:w.heap.size+2<=W.heap.size:=(by have:=hb.size;omega);have sC:=(hb.cell (zD q0)).trans q0;have cD:=(hb.cell (zD q1)).trans q1;clear q0 q1 pA hb dA iA oB;by_cases gA:Nil (zb (p.s k) j) (zu (p.s k) j)
    ·have eB:=zE gA;obtain rfl:t=true:=ht.2 gA;clear ht gA;go_wp2;go_roundw
     case rel=>exact⟨j+1,sa,sc,by omega,by go_num,by rw[zLZ eB.out],by rw[zLZ eB.out];exact sA.out,aB.out,cB,nC⟩
     case measure=>simp[intOf];omega
    ·have eB:=zE gA;obtain rfl:t=false:=zQ ht gA;clear ht gA;have lB:zAy p (zb (p.s k) j) (zu (p.s k) j):=by
      rcases jB.out j dB with h | h
      ·exact absurd h eB.out
      ·exact h.1
     obtain⟨m,hm⟩:=Int.eq_ofNat_of_zero_le lB.1.2.1;have nD:m<p.n:=(by have:=lB.1.2.2.1;omega);have lD:(m:Int)<(p.n:Int):=(by omega);have cC:(zb (p.s k) j).toNat=m:=(by rw[hm];rfl);have pC:(p.s m).kn=8:=by
      have h0:=lB.2.1;have h1:=zDJ HR.out lB.1;rw[cC]at h0 h1;rcases h1 with h | h
      ·omega
      ·exact h
     have lC:=zE pC;obtain⟨_,_,ua,uc,ha,kC⟩:=Hp.out.1.cells nD;simp only[Option.some.injEq,Addr.mk.injEq,and_true]at ha;obtain⟨rfl,rfl⟩:=ha;have jD:Hid (zR w lo hi (.slice ua 8 uc) 8 (p.s m).ks (p.s m).kb):=(by have:=kC.slot.2.1;rw[pC]at this;exact this);have mD:=zE kC;have Hm:=zE hm;have gC:=zE cC;have cA:=zC W (.cells #[.int .i64 (zb (p.s k) j),.int .i64 (zu (p.s k) j)] 61);have fA:=zE (sA.out.zRJ cA);have vA:=zE (aB.out.zRJ cA);have lA:=zA cB cA;have pB:(W.alloc (.cells #[.int .i64 (zb (p.s k) j),.int .i64 (zu (p.s k) j)] 61)).heap.size=W.heap.size+1:=World.size_alloc _ _;have bB:=zE (World.news_of_block (heap_alloc_last W (.cells #[.int .i64 (zb (p.s k) j),.int .i64 (zu (p.s k) j)] 61)));clear kC pC hm cC cA sA aB cB lB;go_wp2_with (first
      | (at_builtin;refine wpList_append_lies _ rfl _ _ 62 rfl (w.heap.size+2) 61 i0 (.agg #[.int .i64 0,.int .i64 0]) 2 16 (by kernel_rfl) HI.out.1 HI.out.2.1 HI.out.2.2.1 HI.out.2.2.2 rfl (by decide) (.slice sa (zDw p k xb (p.s k) j).length sc) (zDw p k xb (p.s k) j).length (pcl (zDw p k xb (p.s k) j)) rfl fA.out ⟨W.heap.size,0,none⟩ 1 1 [.int .i64 (zb (p.s k) j),.int .i64 (zu (p.s k) j)] rfl rfl bB.out (by simp[Value.oneCell']) (by decide) (by unfold maxLen;omega) (by omega) (by omega) _ rfl ?_;intro g4 eA w4 bA aA nA oA)
      | fail)
     have iB:Hid (zw w4 (w.heap.size+2) (.slice (some ⟨g4,0,none⟩) ((zDw p k xb (p.s k) j).length+1) eA) (zDA p k xb (p.s k) j 0)):=by
      rw[zHV];exact zw.next bA
     have rA:Below w.heap.size w w4:=lA.grown aA lA.size (fun q hq=>by have:=(fA.out.lt hq).1;omega);have tA:=zE (vA.out.grownT aA (fun q hq=>by have:=(fA.out.lt hq).1;omega));have kB:w.heap.size+2<=w4.heap.size:=(by have:=aA.size;omega);clear bA aA nA oA fA vA lA bB sC cD pB;obtain⟨_,_,ha,q0,q1⟩:=(tC.out.zRJ rA).cellsT dB;simp only[Option.some.injEq,Addr.mk.injEq,and_true]at ha;obtain⟨rfl,rfl⟩:=ha;rw[<-zCw H8.out dB,Hm.out]at q0;obtain⟨r0,r1,r2,_⟩:=mD.out.zRJ rA;rw[lC.out]at r1;obtain⟨⟨x0,x1⟩,⟨x2,x3⟩⟩:=tA.out
     go_quiet (fail)
     go_wp2
     go_loopw [5,9] (fun sv i wr=>∃(i':Nat) (sa:Option Addr) (sc:Nat),i'<=8/\i = .int .i64 i'/\sv = .slice sa (zDA p k xb (p.s k) j i').length sc/\zw wr (w.heap.size+2) sv (zDA p k xb (p.s k) j i')/\zc wr w.heap.size (.slice (some ⟨b,off,none⟩) p.n c) (.slice a' p.hn c')/\Below w.heap.size w wr/\w.heap.size+2<=wr.heap.size) (fun _ i _=>8 - (intOf i).toNat)
     case atStart=>exact⟨0,some ⟨g4,0,none⟩,eA,Nat.zero_le _,rfl,by rw[zHV,List.length_append];rfl,iB.out.zRJ (zg (Below.refl _ _) _),tA.out.zRJ (zg (Below.refl _ _) _),zg rA _,kB⟩
     case round=>
      obtain⟨i,sa,sc,oD,rfl,rfl,jA,kA,pA,oB⟩:=hrel;have dA:=zE jA;have iA:=zE kA;have vC:=zOh p k xb (p.s k) (show j<=8 by omega) oD;clear jA kA iB tA rA x0 x1 x2 x3 q0 q1 r0 r1 r2 kB;by_cases jC:i<8
      ·have kD:(i:Int)<8:=(by omega);obtain⟨ub,rD,rfl,q0,q1⟩:=(jD.out.zRJ pA).cellsT jC;rw[<-zCw lC.out jC]at q0;rw[<-zEj lC.out jC]at q1;go_wp2_with fail;refine(yg (zb (p.s m) i) (zu (p.s m) i) wr).mono ?_;rintro e W ⟨⟨t,rfl,ht⟩,hb⟩;have cB:=zA pA hb;have aB:=zE (iA.out.zRJ hb);have sA:=zE (dA.out.zRJ hb);have nC:w.heap.size+2<=W.heap.size:=(by have:=hb.size;omega);have sC:=(hb.cell (zD q0)).trans q0;have cD:=(hb.cell (zD q1)).trans q1;clear q0 q1 pA hb dA iA oB;by_cases gA:Nil (zb (p.s m) i) (zu (p.s m) i)
       ·have fC:=zE gA;obtain rfl:t=true:=ht.2 gA;clear ht gA;have es:zDA p k xb (p.s k) j (i+1)=zDA p k xb (p.s k) j i:=zOb (by rw[gC.out];exact fC.out);have mB:=zE es;clear es;go_wp2;go_roundw
        case rel=>exact⟨i+1,sa,sc,by omega,by go_num,by rw[mB.out],by rw[mB.out];exact sA.out,aB.out,cB,nC⟩
        case measure=>simp[intOf];omega
       ·have fC:=zE gA;obtain rfl:t=false:=zQ ht gA;clear ht gA;have es:zDA p k xb (p.s k) j (i+1)=zDA p k xb (p.s k) j i ++ [(zb (p.s m) i,zu (p.s m) i)]:=(by have:=zNi (p:=p) (rs:=(k:Int)) (rb:=xb) (s:=p.s k) (j:=j) (i:=i) (by rw[gC.out];exact fC.out);rw[gC.out]at this;exact this);have mB:=zE es;clear es;have cA:=zC W (.cells #[.int .i64 (zb (p.s m) i),.int .i64 (zu (p.s m) i)] 61);have fA:=zE (sA.out.zRJ cA);have vA:=zE (aB.out.zRJ cA);have lA:=zA cB cA;have pB:(W.alloc (.cells #[.int .i64 (zb (p.s m) i),.int .i64 (zu (p.s m) i)] 61)).heap.size=W.heap.size+1:=World.size_alloc _ _;have bB:=zE (World.news_of_block (heap_alloc_last W (.cells #[.int .i64 (zb (p.s m) i),.int .i64 (zu (p.s m) i)] 61)));clear cA sA aB cB;go_wp2_with (first
         | (at_builtin;refine wpList_append_lies _ rfl _ _ 62 rfl (w.heap.size+2) 61 i0 (.agg #[.int .i64 0,.int .i64 0]) 2 16 (by kernel_rfl) HI.out.1 HI.out.2.1 HI.out.2.2.1 HI.out.2.2.2 rfl (by decide) (.slice sa (zDA p k xb (p.s k) j i).length sc) (zDA p k xb (p.s k) j i).length (pcl (zDA p k xb (p.s k) j i)) rfl fA.out ⟨W.heap.size,0,none⟩ 1 1 [.int .i64 (zb (p.s m) i),.int .i64 (zu (p.s m) i)] rfl rfl bB.out (by simp[Value.oneCell']) (by decide) (by unfold maxLen;omega) (by omega) (by omega) _ rfl ?_;intro g4 eA w4 bA aA nA oA)
         | go_in)
        go_roundw
        case rel=>exact⟨i+1,some ⟨g4,0,none⟩,eA,by omega,by go_num,by rw[mB.out,List.length_append];rfl,by rw[mB.out];exact zw.next bA,vA.out.grownT aA (fun q hq=>by have:=(fA.out.lt hq).1;omega),lA.grown aA lA.size (fun q hq=>by have:=(fA.out.lt hq).1;omega),by have:=aA.size;omega⟩
        case measure=>simp[intOf];omega
      ·obtain rfl:i=8:=(by omega);go_wp2;go_roundw
       case rel=>exact⟨j+1,sa,sc,by omega,by go_num,by rw[zLc eB.out],by rw[zLc eB.out];exact dA.out,iA.out,pA,oB⟩
       case measure=>simp[intOf];omega
   ·obtain rfl:j=8:=(by omega);go_wp2;go_ret;exact⟨_,rfl,by rw[zPV HN.out];exact dA.out.mono (by omega),pA⟩
open Classical in
noncomputable def roomN(f:Nat->zL):Nat->Nat
 | 0=>0
 | k+1=>roomN f k+(if qG (f k)then 1 else 0)
theorem zGl{f:Nat->zL}{k:Nat}(h:qG (f k)):roomN f (k+1)=roomN f k+1:=by simp[roomN,h]
theorem zF8{f:Nat->zL}{k:Nat}(h:¬qG (f k)):roomN f (k+1)=roomN f k:=by simp[roomN,h]
theorem zHk(f:Nat->zL):∀k,roomN f k<=k
 | 0=>Nat.le_refl _
 | k+1=>by
  have:=zHk f k;by_cases h:qG (f k)
  ·rw[zGl h];omega
  ·rw[zF8 h];omega
open Classical in
noncomputable def zNe(p:zJ):Int:=if zv p then(roomN p.s p.n:Int)else 0
structure zEs where
 zRT:Int
 time:Int
 rs:Int
 rb:Int
 dn:Nat
 ds:Nat->Int
 db:Nat->Int
def zQy(s:zm):zEs:=⟨s.zRT,s.time,s.rs,s.rb,s.dn,s.ds,s.db⟩
def zRC(t:Int)(s:qC):zEs:=⟨s.zRT,t,s.rs,s.rb,s.dn,s.ds,s.db⟩
def zO(W:zH)(i:Nat):zEs:=if i<W.pn then zQy (W.zRP i)else zRC W.time (W.zRS (i - W.pn))
def zq(W:zH):Nat:=W.pn+W.sn
theorem qS{W:zH}{i:Nat}(h:i<W.pn):zO W i=zQy (W.zRP i):=if_pos h
theorem yJ(W:zH)(i:Nat):zO W (W.pn+i)=zRC W.time (W.zRS i):=by
 unfold zO;rw[if_neg (by omega),show W.pn+i - W.pn=i by omega]
def yO:zm:=⟨0,ByteArray.empty,ByteArray.empty,0,0,0,0,0,fun _=>0,fun _=>0⟩
open Classical in
noncomputable def zN(W:zH)(x:Int):zm:=if h:∃k,qz W x k then W.zRP h.choose else yO
theorem yB{W:zH}{x:Int}{k:Nat}(h:qz W x k):zN W x=W.zRP k:=by
 unfold zN;rw[dif_pos ⟨k,h⟩,qz.uniq (Exists.choose_spec (⟨k,h⟩:∃k,qz W x k)) h]
theorem zFD{W:zH}{x:Int}(h:∀k,k<W.pn->(W.zRP k).id≠x):zN W x=yO:=by
 unfold zN;rw[dif_neg];rintro⟨k,hk⟩;exact h k hk.1 hk.2.1
theorem zGF{W:zH}{x:Int}:∀{n:Nat},n<=W.pn->(∃k,k<n/\(W.zRP k).id=x)->∃k,qz W x k
 | 0,_,⟨k,hk,_⟩=>absurd hk (Nat.not_lt_zero _)
 | n+1,hn,⟨k,hk,e⟩=>by
  by_cases h:∃j,j<n/\(W.zRP j).id=x
  ·exact zGF (by omega) h
  ·have:k=n:=by
    by_cases h':k<n
    ·exact absurd ⟨k,h',e⟩ h
    ·omega
   subst this;exact⟨k,by omega,e,fun j hj he=>h ⟨j,hj,he⟩⟩
def yV(W:zH)(m:zEs):List (Int×Int):=zT W.zRQ m.rs m.rb
noncomputable def zCp(W:zH)(m:zEs):List (Int×Int):=zT W.zRQ (zN W m.zRT).rs (zN W m.zRT).rb
def zAT(l m:List (Int×Int)):List (Int×Int):=l.filter (fun x=>decide (x∉m))
def qQ(l m:List (Int×Int)):List (Int×Int):=l.filter (fun x=>decide (x∈m))
def zAR(l:List (Int×Int))(t:Int):List (Int×Int):=l.filter (fun x=>decide (t<x.2))
noncomputable def zFF(W:zH)(m:zEs):List (Int×Int):=zAT (yV W m) (zCp W m)
noncomputable def yD(W:zH)(m:zEs):List (Int×Int):=zAR (yV W m) (zN W m.zRT).time
def zDh(n:Nat)(f g:Nat->Int)(l:List (Int×Int)):Prop:=zD9 n f g l.length (zf l) (zh l)
def zNU(now old:List (Int×Int))(t tm:Int):Prop:=∀x,x∈now->x.2<=tm/\(x∈old↔x.2<=t)
def zJG(W:zH)(m:zEs):Prop:=zDh m.dn m.ds m.db (zAT (zCp W m) (yV W m))/\zNU (yV W m) (zCp W m) (zN W m.zRT).time m.time
def zQZ(W:zH)(m:zEs):Prop:=m.rb<=m.time/\zDh (yD W m).length (zf (yD W m)) (zh (yD W m)) (zFF W m)/\zDh m.dn m.ds m.db (zAT (zCp W m) (qQ (yV W m) (zCp W m)))
theorem zON(l m:List (Int×Int)):zAT m (qQ l m)=zAT m l:=by
 unfold zAT qQ;refine List.filter_congr fun x hx=>?_
 rw[decide_eq_decide];simp only[List.mem_filter,decide_eq_true_eq];exact⟨fun h h'=>h ⟨h',hx⟩,fun h h'=>h h'.1⟩
theorem yE{l:List (Int×Int)}{i:Nat}(h:i<l.length):l.getD i (0,0)=l[i]:=by
 rw[List.getD_eq_getElem?_getD,List.getElem?_eq_getElem h,Option.getD_some]
theorem zBR{l:List (Int×Int)}{x y:Int}:PIn l.length (zf l) (zh l) x y↔(x,y)∈l:=by
 constructor
 ·rintro⟨j,hj,e1,e2⟩;unfold zf at e1;unfold zh at e2;rw[yE hj]at e1 e2;have:l[j]=(x,y):=Prod.ext e1 e2;exact this▸List.getElem_mem hj
 ·intro h;obtain⟨j,hj,e⟩:=List.getElem_of_mem h;exact⟨j,hj,by unfold zf;rw[yE hj,e],by unfold zh;rw[yE hj,e]⟩
structure zBH (W:zH):Prop where
 right:zv W.zRQ
 ids:∀k,k<W.pn->(W.zRP k).zRT<(W.zRP k).id
 tree:∀i,i<zq W->qF W.zRQ (zO W i).rs (zO W i).rb
 time:∀i,i<zq W->0<=(zO W i).time
theorem zAY{p:zJ}{rs rb:Int}(hR:zv p)(hT:qF p rs rb){x:Int×Int}(hx:x∈zT p rs rb):zr p x.1 x.2/\x.2<=rb/\¬Has p.hn p.h x.1:=by
 rcases(zFy hR).2 hT with hz | ⟨hP,_,hA⟩
 ·rw[zT,if_pos hz]at hx;simp at hx
 ·have:=zC1 hR hP x hx;exact⟨this.1,this.2,hA.2 x hx⟩
theorem zAe{p:zJ}{rs rb:Int}(hR:zv p)(hT:qF p rs rb):(zT p rs rb).Nodup:=by
 rcases(zFy hR).2 hT with hz | ⟨hP,_,hA⟩
 ·rw[zT,if_pos hz];exact List.nodup_nil
 ·exact hA.1
theorem zBH.old{W:zH}(h:zBH W)(x:Int):qF W.zRQ (zN W x).rs (zN W x).rb:=by
 by_cases hx:∃k,qz W x k
 ·obtain⟨k,hk⟩:=hx;rw[yB hk];have:=h.tree k (by unfold zq;have:=hk.1;omega);rw[qS hk.1]at this;exact this
 ·have:zN W x=yO:=by
   unfold zN;rw[dif_neg hx]
  rw[this];exact Or.inl ⟨rfl,rfl⟩
theorem zOS{p:zJ}{x y:Int}(hR:zv p)(h:zr p x y):zE7 x y:=by
 have hf:=qV hR h;have h1:=hR.1;obtain⟨a,b,c,d⟩:=h;have:=hf.1.2;exact⟨b,by omega,a,by omega⟩
theorem zBK{p:zJ}(hR:zv p){l:List (Int×Int)}(h:∀x,x∈l->zr p x.1 x.2)(hn:l.Nodup)(hl:l.length<=200):qx l.length (zf l) (zh l):=by
 have hs:=(zGK h).2 hn;refine⟨hl,fun i hi=>?_,fun i hi k hk=>?_⟩
 ·unfold zf zh;rw[yE hi];exact zOS hR (h _ (List.getElem_mem hi))
 ·unfold zf;rw[yE hi,yE (show k<l.length by omega)];unfold yI List.Nodup at hs;rw[List.pairwise_map]at hs;exact List.pairwise_iff_getElem.1 hs k i (by omega) hi hk
theorem zKg{p:zJ}(hR:zv p){T:List (Int×Int)}(hT:∀x,x∈T->zr p x.1 x.2)(hn:T.Nodup)(hl:T.length<=200)(P Q:Int×Int->Bool) :
  zDh (T.filter P).length (zf (T.filter P)) (zh (T.filter P)) (T.filter Q)↔∀x,x∈T->P x=Q x:=by
 constructor
 ·rintro⟨_,_,aA,cA⟩;have h1:∀x,x∈T->P x=true->Q x=true:=fun x hx hp=>by
   have hm:x∈T.filter P:=List.mem_filter.2 ⟨hx,hp⟩;obtain⟨j,hj,e⟩:=List.getElem_of_mem hm;have:=cA j hj;rw[zBR]at this;unfold zf zh at this;rw[yE hj,e]at this;exact(List.mem_filter.1 this).2
  have h2:(T.filter Q).filter P=T.filter P:=by
   rw[List.filter_filter];refine List.filter_congr fun x hx=>?_
   cases hp:P x
   ·rfl
   ·rw[h1 x hx hp];rfl
  have h3:((T.filter Q).filter P).length=(T.filter Q).length:=(by rw[h2,aA]);rw[List.length_filter_eq_length_iff]at h3;intro x hx;cases hq:Q x
  ·cases hp:P x
   ·rfl
   ·rw[h1 x hx hp]at hq;exact absurd hq (by simp)
  ·exact h3 x (List.mem_filter.2 ⟨hx,hq⟩)
 ·intro h;have e:T.filter P=T.filter Q:=List.filter_congr h;rw[e];have bA:qx (T.filter Q).length (zf (T.filter Q)) (zh (T.filter Q)):=zBK hR (fun x hx=>hT x (List.mem_filter.1 hx).1) (hn.filter _) (Nat.le_trans (List.length_filter_le _ _) hl);exact⟨bA,bA,rfl,fun i hi=>⟨i,hi,rfl,rfl⟩⟩
theorem zHg{W:zH}(h:zBH W){i:Nat}(hi:i<zq W):zQZ W (zO W i)↔zJG W (zO W i):=by
 generalize hm:zO W i=m;have hT:=h.tree i hi;have dA:=h.time i hi;rw[hm]at hT dA;have bA:(yV W m).length<=200:=by have:=qM W.zRQ m.rs m.rb;unfold yV;omega
 have fA:∀x,x∈yV W m->zr W.zRQ x.1 x.2:=fun x hx=>(zAY h.right hT hx).1
 unfold zQZ zJG;rw[zON];have key:zDh (yD W m).length (zf (yD W m)) (zh (yD W m)) (zFF W m)↔∀x,x∈yV W m->(x∈zCp W m↔x.2<=(zN W m.zRT).time):=by
  unfold yD zFF zAR zAT;rw[zKg h.right fA (zAe h.right hT) bA];refine⟨fun hh x hx=>?_,fun hh x hx=>?_⟩
  ·have:=hh x hx;rw[decide_eq_decide]at this;constructor
   ·intro aA;by_cases cA:(zN W m.zRT).time<x.2
    ·exact absurd aA (this.1 cA)
    ·omega
   ·intro eA;by_cases aA:x∈zCp W m
    ·exact aA
    ·have:=this.2 aA;omega
  ·rw[decide_eq_decide];have:=hh x hx;constructor
   ·intro cA aA;have:=this.1 aA;omega
   ·intro aA;by_cases eA:x.2<=(zN W m.zRT).time
    ·exact absurd (this.2 eA) aA
    ·omega
 rw[key];constructor
 ·rintro⟨h1,h2,h3⟩;exact⟨h3,fun x hx=>⟨by have:=(zAY h.right hT hx).2.1;omega,h2 x hx⟩⟩
 ·rintro⟨h1,h2⟩;refine⟨?_,fun x hx=>(h2 x hx).2,h1⟩;by_cases hz:Nil m.rs m.rb
  ·rw[hz.2];exact dA
  ·have hr:(m.rs,m.rb)∈yV W m:=(by unfold yV zT;rw[if_neg hz];simp);exact(h2 _ hr).1
theorem zN7{W:zH}{m:zEs}(hS:zJG W m):yD W m=zFF W m:=by
 unfold yD zFF zAR zAT;refine List.filter_congr fun x hx=>?_
 rw[decide_eq_decide];have:=(hS.2 x hx).2;constructor
 ·intro h1 h2;have:=this.1 h2;omega
 ·intro h1;by_cases h2:x.2<=(zN W m.zRT).time
  ·exact absurd (this.2 h2) h1
  ·omega
open Classical in
noncomputable def cnt(P:Nat->Prop):Nat->Nat
 | 0=>0
 | k+1=>cnt P k+(if P k then 1 else 0)
theorem zCP{P Q:Nat->Prop}:∀{n:Nat},(∀i,i<n->(P i↔Q i))->cnt P n=cnt Q n
 | 0,_=>rfl
 | n+1,h=>by
  unfold cnt;rw[zCP (fun i hi=>h i (by omega))];by_cases hp:P n
  ·rw[if_pos hp,if_pos ((h n (by omega)).1 hp)]
  ·rw[if_neg hp,if_neg (fun hq=>hp ((h n (by omega)).2 hq))]
theorem zPB{P Q:Nat->Prop}:∀{n:Nat},(∀i,i<n->P i->Q i)->cnt P n<=cnt Q n
 | 0,_=>Nat.le_refl _
 | n+1,h=>by
  unfold cnt;have:=zPB (n:=n) (fun i hi=>h i (by omega));by_cases hp:P n
  ·rw[if_pos hp,if_pos (h n (by omega) hp)];omega
  ·rw[if_neg hp];omega
theorem zIY{P Q:Nat->Prop}:∀{n:Nat},(∀i,i<n->P i->Q i)->(cnt P n=cnt Q n↔∀i,i<n->(P i↔Q i))
 | 0,_=>⟨fun _ i hi=>absurd hi (Nat.not_lt_zero _),fun _=>rfl⟩
 | n+1,h=>by
  refine⟨fun e=>?_,fun e=>zCP e⟩;have aA:=zPB (n:=n) (fun i hi=>h i (by omega));have ih:=zIY (n:=n) (fun i hi=>h i (by omega));unfold cnt at e;have hn:P n↔Q n:=by
   refine⟨h n (by omega),fun hq=>?_⟩;by_cases hp:P n
   ·exact hp
   ·rw[if_neg hp,if_pos hq]at e;omega
  have e':cnt P n=cnt Q n:=by
   by_cases hp:P n
   ·rw[if_pos hp,if_pos (hn.1 hp)]at e;omega
   ·rw[if_neg hp,if_neg (fun hq=>hp (hn.2 hq))]at e;omega
  intro i hi;by_cases e2:i=n
  ·subst e2;exact hn
  ·exact ih.1 e' i (by omega)
theorem zMK{P Q:Nat->Prop}:∀{n:Nat},(∀i,i<n->P i->¬Q i)->cnt (fun i=>P i\/Q i) n=cnt P n+cnt Q n
 | 0,_=>rfl
 | n+1,h=>by
  unfold cnt;rw[zMK (fun i hi=>h i (by omega))];by_cases hp:P n
  ·rw[if_pos (Or.inl hp),if_pos hp,if_neg (h n (by omega) hp)];omega
  ·by_cases hq:Q n
   ·rw[if_pos (Or.inr hq),if_neg hp,if_pos hq];omega
   ·rw[if_neg (fun h=>h.elim hp hq),if_neg hp,if_neg hq];omega
theorem zNR(P:Nat->Prop):∀n,cnt P n+cnt (fun i=>¬P i) n=n
 | 0=>rfl
 | n+1=>by
  have:=zNR P n;unfold cnt;by_cases hp:P n
  ·rw[if_pos hp,if_neg (fun h=>h hp)];omega
  ·rw[if_neg hp,if_pos hp];omega
theorem zIa{P:Nat->Prop}:∀{n:Nat},(∀i,i<n->¬P i)->cnt P n=0
 | 0,_=>rfl
 | n+1,h=>by
  unfold cnt;rw[zIa (fun i hi=>h i (by omega)),if_neg (h n (by omega))]
theorem zNN:∀{n a:Nat},a<n->cnt (fun i=>i=a) n=1
 | 0,a,h=>absurd h (Nat.not_lt_zero _)
 | n+1,a,h=>by
  unfold cnt;by_cases e:n=a
  ·subst e;rw[if_pos rfl,zIa (fun i hi=>by omega)]
  ·rw[if_neg e,zNN (by omega)]
theorem zFv{n:Nat}:∀{l:List Nat},l.Nodup->(∀x,x∈l->x<n)->cnt (fun i=>i∈l) n=l.length
 | [],_,_=>zIa (fun i hi=>by simp)
 | a :: l,hn,hl=>by
  obtain⟨h1,h2⟩:=List.nodup_cons.1 hn;have e1:cnt (fun i=>i∈a :: l) n=cnt (fun i=>i=a\/i∈l) n:=zCP (fun i _=>List.mem_cons);have e2:cnt (fun i=>i=a\/i∈l) n=cnt (fun i=>i=a) n+cnt (fun i=>i∈l) n:=zMK (fun i _ (e:i=a) hi=>h1 (e▸hi));rw[e1,e2,zNN (hl a (by simp)),zFv h2 (fun x hx=>hl x (by simp[hx])),List.length_cons];omega
theorem zK7(f:Nat->zL):∀n,roomN f n=cnt (fun i=>qG (f i)) n
 | 0=>rfl
 | n+1=>by unfold roomN cnt;rw[zK7 f n]
theorem zPl{p:zJ}(hR:zv p):cnt (fun i=>Has p.hn p.h i) p.n=p.hn:=by
 have h:=hR.2.2;have hl:∀x,x∈(List.range p.hn).map (fun j=>(p.h j).toNat)->x<p.n:=by
  intro x hx;obtain⟨j,hj,rfl⟩:=List.mem_map.1 hx;have:=h j (List.mem_range.1 hj);have h1:=this.1;have h2:=this.2.1;omega
 have hn:((List.range p.hn).map (fun j=>(p.h j).toNat)).Nodup:=by
  unfold List.Nodup;rw[List.pairwise_map];refine List.Pairwise.imp_of_mem ?_ (List.pairwise_lt_range);intro a b ha hb aA e;have h1:=h a (List.mem_range.1 ha);have h2:=h b (List.mem_range.1 hb);have:=h1.1;have:=h2.1;exact h2.2.2.2 ⟨a,aA,by omega⟩
 have:=zFv hn hl;rw[List.length_map,List.length_range]at this;refine Eq.trans (zCP (fun i hi=>?_)) this;constructor
 ·rintro⟨j,hj,e⟩;exact List.mem_map.2 ⟨j,List.mem_range.2 hj,by rw[e];simp⟩
 ·intro hx;obtain⟨j,hj,e⟩:=List.mem_map.1 hx;have:=(h j (List.mem_range.1 hj)).1;exact⟨j,List.mem_range.1 hj,by omega⟩
theorem zLq{p:zJ}(hR:zv p):cnt (fun i=>¬qG (p.s i)/\¬Has p.hn p.h i) p.n+roomN p.s p.n+p.hn=p.n:=by
 have h1:=zNR (fun i=>qG (p.s i)\/Has p.hn p.h i) p.n;have h2:cnt (fun i=>qG (p.s i)\/Has p.hn p.h i) p.n=cnt (fun i=>qG (p.s i)) p.n+cnt (fun i=>Has p.hn p.h i) p.n:=zMK (fun i hi hf=>by
  rintro⟨j,hj,e⟩;have:=(hR.2.2 j hj).2.2.1;rw[e]at this;simp only[Int.toNat_natCast]at this;exact this hf)
 rw[zPl hR,<-zK7]at h2;have h3:cnt (fun i=>¬(qG (p.s i)\/Has p.hn p.h i)) p.n=cnt (fun i=>¬qG (p.s i)/\¬Has p.hn p.h i) p.n:=zCP (fun i _=>not_or);omega
def zEf(W:zH):Prop:=∀i,i<W.zRQ.n->((∃m,m<zq W/\∃b,((i:Int),b)∈yV W (zO W m))↔(¬qG (W.zRQ.s i)/\¬Has W.zRQ.hn W.zRQ.h i))
def zGR(W:zH):Prop:=∀i,i<zq W->∀j,j<i->∀x,x∈zFF W (zO W i)->∀y,y∈zFF W (zO W j)->x.1≠y.1
noncomputable def zn(W:zH):Nat->List (Int×Int)
 | 0=>[]
 | k+1=>zn W k ++ yD W (zO W k)
def zFz(W:zH):Prop:=(zn W (zq W)).Nodup/\(zn W (zq W)).length+roomN W.zRQ.s W.zRQ.n+W.zRQ.hn=W.zRQ.n
theorem zDH{W:zH}{x:Int×Int}:∀{k:Nat},x∈zn W k↔∃i,i<k/\x∈yD W (zO W i)
 | 0=>by simp[zn]
 | k+1=>by
  unfold zn;rw[List.mem_append,zDH];constructor
  ·rintro(⟨i,hi,h⟩ | h)
   ·exact⟨i,by omega,h⟩
   ·exact⟨k,by omega,h⟩
  ·rintro⟨i,hi,h⟩;by_cases e:i=k
   ·subst e;exact Or.inr h
   ·exact Or.inl ⟨i,by omega,h⟩
theorem zGv{W:zH}:∀{k:Nat},(∀i,i<k->(yD W (zO W i)).Nodup)->((zn W k).Nodup↔∀i,i<k->∀j,j<i->∀x,x∈yD W (zO W i)->x∉yD W (zO W j))
 | 0,_=>⟨fun _ i hi=>absurd hi (Nat.not_lt_zero _),fun _=>List.nodup_nil⟩
 | k+1,hy=>by
  unfold zn;rw[List.nodup_append,zGv (fun i hi=>hy i (by omega))];constructor
  ·rintro⟨h1,h2,h3⟩ i hi j hj x hx aA;by_cases e:i=k
   ·subst e;exact h3 x (zDH.2 ⟨j,hj,aA⟩) x hx rfl
   ·exact h1 i (by omega) j hj x hx aA
  ·intro h;refine⟨fun i hi=>h i (by omega),hy k (by omega),fun x hx y bA e=>?_⟩;subst e;obtain⟨i,hi,hx⟩:=zDH.1 hx;exact h k (by omega) i hi x bA hx
theorem zLO{W:zH}(h:zBH W){x:Int×Int}:∀(N:Nat) (k:Nat),k<W.pn->(W.zRP k).id<N->0<=(W.zRP k).id->(∀j,j<W.pn->0<=(W.zRP j).id)->x∈yV W (zO W k)->∃i,i<zq W/\x∈zFF W (zO W i)
 | 0,k,hk,h1,h2,_,_=>by omega
 | N+1,k,hk,h1,h2,h0,hx=>by
  by_cases ho:x∈zCp W (zO W k)
  ·have bA:∃j,qz W (zO W k).zRT j:=by
    refine Classical.byContradiction fun aA=>?_
    have:zN W (zO W k).zRT=yO:=(by unfold zN;rw[dif_neg aA]);unfold zCp at ho;rw[this,zT,if_pos ⟨rfl,rfl⟩]at ho;simp at ho
   obtain⟨j,hj⟩:=bA;unfold zCp at ho;rw[yB hj]at ho;have e1:(zO W k).zRT=(W.zRP k).zRT:=(by rw[qS hk];rfl);have:=h.ids k hk;have:=hj.2.1;exact zLO h N j hj.1 (by omega) (h0 j hj.1) h0 (by rw[qS hj.1];exact ho)
  ·exact⟨k,by unfold zq;omega,List.mem_filter.2 ⟨hx,by simpa using ho⟩⟩
theorem zO6{W:zH}(h:zBH W)(h0:∀j,j<W.pn->0<=(W.zRP j).id){x:Int×Int}{m:Nat}(hm:m<zq W)(hx:x∈yV W (zO W m)):∃i,i<zq W/\x∈zFF W (zO W i):=by
 by_cases ho:x∈zCp W (zO W m)
 ·have bA:∃j,qz W (zO W m).zRT j:=by
   refine Classical.byContradiction fun aA=>?_
   have:zN W (zO W m).zRT=yO:=(by unfold zN;rw[dif_neg aA]);unfold zCp at ho;rw[this,zT,if_pos ⟨rfl,rfl⟩]at ho;simp at ho
  obtain⟨j,hj⟩:=bA;unfold zCp at ho;rw[yB hj]at ho;have:=h0 j hj.1;exact zLO h ((W.zRP j).id.toNat+1) j hj.1 (by omega) (h0 j hj.1) h0 (by rw[qS hj.1];exact ho)
 ·exact⟨m,hm,List.mem_filter.2 ⟨hx,by simpa using ho⟩⟩
theorem zJd{W:zH}(h:zBH W)(h0:∀j,j<W.pn->0<=(W.zRP j).id)(hM:∀i,i<zq W->zJG W (zO W i)):zFz W↔zEf W/\zGR W:=by
 have hy:∀i,i<zq W->yD W (zO W i)=zFF W (zO W i):=fun i hi=>zN7 (hM i hi)
 have sA:∀i,i<zq W->(yD W (zO W i)).Nodup:=fun i hi=>(zAe h.right (h.tree i hi)).filter _
 have mA:∀i,i<zq W->∀x,x∈zFF W (zO W i)->x∈yV W (zO W i):=fun i _ x hx=>(List.mem_filter.1 hx).1
 have gA:∀i,i<zq W->∀x,x∈yV W (zO W i)->zr W.zRQ x.1 x.2/\¬Has W.zRQ.hn W.zRQ.h x.1:=fun i hi x hx=>⟨(zAY h.right (h.tree i hi) hx).1,(zAY h.right (h.tree i hi) hx).2.2⟩
 have fA:∀x y:Int×Int,zr W.zRQ x.1 x.2->zr W.zRQ y.1 y.2->x.1=y.1->x=y:=fun x y hx eA e=>by
  have a1:=hx.2.2.2;have a2:=eA.2.2.2;rw[e]at a1;exact Prod.ext e (a1.symm.trans a2)
 have hA:(zn W (zq W)).Nodup↔zGR W:=by
  rw[zGv sA];unfold zGR;constructor
  ·intro hh i hi j hj x hx y eA e;have tA:=fA x y (gA i hi x (mA i hi x hx)).1 (gA j (by omega) y (mA j (by omega) y eA)).1 e;subst tA;exact hh i hi j hj x (by rw[hy i hi];exact hx) (by rw[hy j (by omega)];exact eA)
  ·intro hh i hi j hj x hx rA;exact hh i hi j hj x (by rw[<-hy i hi];exact hx) x (by rw[<-hy j (by omega)];exact rA) rfl
 have aA:∀x,x∈zn W (zq W)↔∃m,m<zq W/\x∈yV W (zO W m):=fun x=>by
  rw[zDH];constructor
  ·rintro⟨i,hi,hx⟩;rw[hy i hi]at hx;exact⟨i,hi,mA i hi x hx⟩
  ·rintro⟨m,hm,hx⟩;obtain⟨i,hi,hx⟩:=zO6 h h0 hm hx;exact⟨i,hi,by rw[hy i hi];exact hx⟩
 unfold zFz;rw[hA];constructor
 ·rintro⟨ha,oA⟩;refine⟨?_,ha⟩;have bA:=hA.2 ha;have dA:∀x,x∈zn W (zq W)->zr W.zRQ x.1 x.2:=fun x hx=>by
   obtain⟨m,hm,hx⟩:=(aA x).1 hx;exact(gA m hm x hx).1
  have hl:∀x,x∈(zn W (zq W)).map (fun x=>x.1.toNat)->x<W.zRQ.n:=by
   intro x hx;obtain⟨y,eA,rfl⟩:=List.mem_map.1 hx;have:=dA y eA;have h1:=this.2.1;have h2:=this.2.2.1;omega
  have kA:((zn W (zq W)).map (fun x=>x.1.toNat)).Nodup:=by
   unfold List.Nodup;rw[List.pairwise_map];refine List.Pairwise.imp_of_mem ?_ bA;intro a b jA nA lA e;have p1:=dA a jA;have p2:=dA b nA;have:=p1.2.1;have:=p2.2.1;exact lA (fA a b p1 p2 (by omega))
  have hc:=zFv kA hl;rw[List.length_map]at hc;have hr:=zLq h.right;have cA:∀i,i<W.zRQ.n->(i∈(zn W (zq W)).map (fun x=>x.1.toNat)↔∃m,m<zq W/\∃b,((i:Int),b)∈yV W (zO W m)):=by
   intro i hi;rw[List.mem_map];constructor
   ·rintro⟨x,hx,e⟩;have:=(dA x hx).2.1;obtain⟨m,hm,hx⟩:=(aA x).1 hx;exact⟨m,hm,x.2,by rw[show(i:Int)=x.1 by omega];exact hx⟩
   ·rintro⟨m,hm,b,hx⟩;exact⟨(i,b),(aA _).2 ⟨m,hm,hx⟩,by simp⟩
  have iA:∀i,i<W.zRQ.n->i∈(zn W (zq W)).map (fun x=>x.1.toNat)->¬qG (W.zRQ.s i)/\¬Has W.zRQ.hn W.zRQ.h i:=by
   intro i hi hx;obtain⟨m,hm,b,hx⟩:=(cA i hi).1 hx;have:=gA m hm _ hx;refine⟨fun hf=>?_,this.2⟩;have h1:=this.1.1;have h2:=this.1.2.2.2;simp only[Int.toNat_natCast]at h2;rw[hf.1]at h2;simp only at h1 h2;omega
  have:=(zIY iA).1 (by rw[hc];omega);intro i hi;rw[<-cA i hi];exact this i hi
 ·rintro⟨pA,ha⟩;refine⟨ha,?_⟩;have bA:=hA.2 ha;have dA:∀x,x∈zn W (zq W)->zr W.zRQ x.1 x.2:=fun x hx=>by
   obtain⟨m,hm,hx⟩:=(aA x).1 hx;exact(gA m hm x hx).1
  have hl:∀x,x∈(zn W (zq W)).map (fun x=>x.1.toNat)->x<W.zRQ.n:=by
   intro x hx;obtain⟨y,eA,rfl⟩:=List.mem_map.1 hx;have:=dA y eA;have h1:=this.2.1;have h2:=this.2.2.1;omega
  have kA:((zn W (zq W)).map (fun x=>x.1.toNat)).Nodup:=by
   unfold List.Nodup;rw[List.pairwise_map];refine List.Pairwise.imp_of_mem ?_ bA;intro a b jA nA lA e;have p1:=dA a jA;have p2:=dA b nA;have:=p1.2.1;have:=p2.2.1;exact lA (fA a b p1 p2 (by omega))
  have hc:=zFv kA hl;rw[List.length_map]at hc;have hr:=zLq h.right;have cA:∀i,i<W.zRQ.n->(i∈(zn W (zq W)).map (fun x=>x.1.toNat)↔∃m,m<zq W/\∃b,((i:Int),b)∈yV W (zO W m)):=by
   intro i hi;rw[List.mem_map];constructor
   ·rintro⟨x,hx,e⟩;have:=(dA x hx).2.1;obtain⟨m,hm,hx⟩:=(aA x).1 hx;exact⟨m,hm,x.2,by rw[show(i:Int)=x.1 by omega];exact hx⟩
   ·rintro⟨m,hm,b,hx⟩;exact⟨(i,b),(aA _).2 ⟨m,hm,hx⟩,by simp⟩
  have:=zCP (P:=fun i=>i∈(zn W (zq W)).map (fun x=>x.1.toNat)) (Q:=fun i=>¬qG (W.zRQ.s i)/\¬Has W.zRQ.hn W.zRQ.h i) (n:=W.zRQ.n) (fun i hi=>(cA i hi).trans (pA i hi));omega
end Go.Proofs.YtmgeglgboadfiaaGreatDoor
