/- What spec.l02Right and spec.TreeRight answer. -/
import Derived.Test.YtmgeglgboadfiaaGreatDoorT4
set_option linter.unusedVariables false
set_option maxRecDepth 20000
set_option maxHeartbeats 4000000
namespace Go.Proofs.YtmgeglgboadfiaaGreatDoor
open Go.RowKit
theorem zPR:(Tryz.prog.info? 2).map (fun i=>(i.zero,i.size,i.bytes))=some (some (.int .i64 0),1,8):=by kernel_rfl
def zFc(w:World)(base:Nat)(v:Value)(l:List Int):Prop:=w.ownsRow base 2 1 v l.length (icl l)
theorem zFc.zRJ{w w1:World}{base:Nat}{v:Value}{l:List Int}(h:zFc w base v l)(hb:Below w.heap.size w w1):zFc w1 base v l:=
 World.ownsRow.kept h (yu hb none) (by cases v.ownBlock<;>simp)
theorem zFc.next{w2:World}{base g aA:Nat}{l:List Int}{x:Int}(h:w2.ownsRow base 2 1 (.slice (some ⟨g,0,none⟩) (l.length+1) aA) (l.length+1) (icl l ++ [.int .i64 x])):zFc w2 base (.slice (some ⟨g,0,none⟩) (l.length+1) aA) (l ++ [x]):=by
 unfold zFc;rw[zMH,List.length_append];exact h
theorem zFc.lt{w:World}{base:Nat}{v:Value}{l:List Int}(h:zFc w base v l){q:Nat}(hq:v.ownBlock=some q):base<=q:=by
 rcases h.2 with⟨rfl,_⟩ | ⟨g,bA,aA,rfl,hb,hg,_⟩
 ·simp[Value.ownBlock]at hq
 ·simp only[Value.ownBlock,Option.some.injEq]at hq;subst hq;exact hb
theorem zc.grownT{w w1:World}{b:Nat}{x y:Value}{row:Option Nat}(h:zc w b x y)(hg:w.grownBy w1 row)(aA:∀q,row=some q->b<q):zc w1 b x y:=
 h.zRR (S:=fun k=>row=some k) ⟨hg.os,hg.tape,hg.output,hg.size,fun k hk aA=>hg.block k hk (fun e=>aA e.symm)⟩ (fun e=>by have:=aA b e;omega)
theorem zCD(v0 v1:Value)(lo hi:Nat)(p:zJ)(xs xb:Int)(w:World)(h1:zy w lo hi v0 v1 p)(hR:zv p) :
  Calls Tryz.prog 71 #[.agg #[v0,v1],.agg #[.int .i64 xs,.int .i64 xb]] w fun e w'=>zG (qF p xs xb) e/\Below w.heap.size w w':=by
 have Hp:=zE h1;have HR:=zE hR;obtain⟨a,c,a',c',rfl,rfl⟩:∃a c a' c',v0 = .slice a p.n c/\v1 = .slice a' p.hn c':=by
  obtain⟨⟨_,a,c,h1,_⟩,⟨_,a',c',h3,_⟩⟩:=h1;exact⟨a,c,a',c',h1,h3⟩
 clear h1 hR;have fE:=zBq w (.slice a p.n c) (.slice a' p.hn c') (.int .i64 xs) (.int .i64 xb) 33 61;obtain⟨i0,kE,kD⟩:=Option.map_eq_some_iff.1 zPR;simp only[Prod.mk.injEq]at kD;have HI:=zE (And.intro kE kD);clear kE kD;go_enter Tryz.func71,Tryz.ntmps71;go_wp2_with fail;generalize (w.alloc (.cells #[.slice a p.n c,.slice a' p.hn c'] 33)).alloc (.cells #[.int .i64 xs,.int .i64 xb] 61)=W at fE ⊢;obtain⟨hB,hX,eA,hz⟩:=fE;refine(ye xs xb W).mono ?_;rintro e w1 ⟨⟨t,rfl,ht⟩,mC⟩;have oD:=zE (hB.zRJ mC);have jD:=zE (hX.zRJ mC);have rC:=zA eA mC;have gF:=mC.size;clear hB hX eA mC;by_cases hn:Nil xs xb
 ·have HN:=zE hn;obtain rfl:t=true:=ht.2 hn;clear ht hn;go_wp2;go_ret;exact⟨zG.yes (Or.inl HN.out),rC⟩
 ·have HN:=zE hn;obtain rfl:t=false:=zQ ht hn;clear ht hn;obtain⟨⟨x0,x1⟩,⟨x2,x3⟩⟩:=oD.out;obtain⟨⟨y0,y1⟩,⟨y2,y3⟩⟩:=jD.out;go_wp2_with fail;refine(zC0 _ _ lo hi p xs xb _ (Hp.out.zRJ rC)).mono ?_;rintro e w2 ⟨⟨t,rfl,ht⟩,jC⟩;have eD:=zE (oD.out.zRJ jC);have sD:=zE (jD.out.zRJ jC);have cD:=zA rC jC;have jF:w.heap.size+2<=w2.heap.size:=(by have:=jC.size;omega);clear jC rC oD jD x0 x1 x2 x3 y0 y1 y2 y3 hz gF;by_cases vA:zAw p xs xb
  ·have vD:=zE vA;obtain rfl:t=true:=ht.2 vA;have Hf:=zE (qV HR.out vA.1);have h8:(p.s xs.toNat).kn=8:=by rcases zDJ HR.out vA.1 with h | h;(have:=vA.2.1;omega);exact h
   obtain⟨k,rfl⟩:=Int.eq_ofNat_of_zero_le vA.1.2.1;have hk:k<p.n:=(by have:=vA.1.2.2.1;omega);have kF:(k:Int)<(p.n:Int):=(by omega);rw[Int.toNat_natCast]at Hf h8;have H8:=zE h8;clear ht vA;obtain⟨b,off,ka,kc,rfl,nD⟩:=Hp.out.1.cells hk;have lE:Hid (zR w lo hi (.slice ka 8 kc) 8 (p.s k).ks (p.s k).kb):=(by have:=nD.slot.2.1;rw[h8]at this;exact this);obtain⟨q0,q1,q2,_⟩:=nD.zRJ cD;rw[h8]at q1;clear h8 nD;obtain⟨⟨x0,x1⟩,⟨x2,x3⟩⟩:=eD.out;obtain⟨⟨y0,y1⟩,⟨y2,y3⟩⟩:=sD.out;have iA:=zC w2 (.cells #[.int .i64 (k:Int)] 2);have oE:=zE (show zFc (w2.alloc (.cells #[.int .i64 (k:Int)] 2)) (w.heap.size+2) (.slice (some ⟨w2.heap.size,0,none⟩) 1 1) (zAJ p k (p.s k) 0)from World.ownsRow_lit (e:=2) (size:=1) w2 #[.int .i64 (k:Int)] 1 jF (by unfold maxLen;omega) rfl);have pD:=zE (eD.out.zRJ iA);have jE:=zA cD iA;have c0:=(iA.cell (zD q0)).trans q0;have c1:=(iA.cell (zD q1)).trans q1;obtain⟨⟨z0,z1⟩,⟨z2,z3⟩⟩:=pD.out;obtain⟨⟨z4,z5⟩,⟨z6,z7⟩⟩:=sD.out.zRJ iA;clear iA;go_wp2
   go_loopw [5,6,8] (fun sv nv i wr=>∃(j m:Nat) (sa:Option Addr) (sc:Nat),j<=8/\i = .int .i64 j/\nv = .int .i64 m/\m<=j/\(0<m↔∃i,i<j/\¬Nil (zb (p.s k) i) (zu (p.s k) i))/\sv = .slice sa (zAJ p k (p.s k) j).length sc/\zFc wr (w.heap.size+2) sv (zAJ p k (p.s k) j)/\(∀i,i<j->zQT p (p.s k) i)/\(zAJ p k (p.s k) j).Nodup/\zc wr w.heap.size (.slice (some ⟨b,off,none⟩) p.n c) (.slice a' p.hn c')/\Below w.heap.size w wr/\w.heap.size+2<=wr.heap.size) (fun _ _ i _=>8 - (intOf i).toNat)
   case atStart=>exact⟨0,0,_,_,Nat.zero_le _,rfl,rfl,Nat.le_refl _,⟨fun h=>absurd h (Nat.lt_irrefl _),fun ⟨i,hi,_⟩=>absurd hi (Nat.not_lt_zero _)⟩,rfl,oE.out,fun i hi=>absurd hi (Nat.not_lt_zero _),by simp[zAJ,zAu,yI],pD.out,jE,by rw[World.size_alloc];omega⟩
   case round=>
    obtain⟨j,m0,sa,sc,hj,rfl,rfl,mF,kC,rfl,aB,dC,sA,eB,fB,pC⟩:=hrel;have eC:=zE kC;have mA:=zE aB;have oB:=zE dC;have pB:=zE sA;have oA:=zE eB;have dF:=zLx p k (p.s k) hj;clear kC aB dC sA eB oE pD jE c0 c1 z0 z1 z2 z3 z4 z5 z6 z7 x0 x1 x2 x3 y0 y1 y2 y3 q0 q1 q2 eD sD;by_cases rA:j<8
    ·have tE:(j:Int)<8:=(by omega);obtain⟨tb,bC,rfl,q0,q1⟩:=(lE.out.zRJ fB).cellsT rA;rw[<-zCy H8.out rA]at q0;rw[<-zEZ H8.out rA]at q1;go_wp2_with fail;refine(ye (zb (p.s k) j) (zu (p.s k) j) wr).mono ?_;rintro e W ⟨⟨t,rfl,ht⟩,hb⟩;have dA:=zA fB hb;have kA:=zE (oA.out.zRJ hb);have cB:=zE (mA.out.zRJ hb);have dD:w.heap.size+2<=W.heap.size:=(by have:=hb.size;omega);have gC:=(hb.cell (zD q0)).trans q0;have cC:=(hb.cell (zD q1)).trans q1;clear q0 q1 fB hb mA oA pC;have q0:=gC;have q1:=cC;clear gC cC;by_cases nA:Nil (zb (p.s k) j) (zu (p.s k) j)
     ·have jA:=zE nA;obtain rfl:t=true:=ht.2 nA;clear ht nA;go_wp2;go_roundw
      case rel=>
       refine⟨j+1,m0,sa,sc,by omega,by go_num,rfl,by omega,?_,by rw[zGP jA.out],by rw[zGP jA.out];exact cB.out,zo rA oB.out (Or.inl jA.out),by rw[zGP jA.out];exact pB.out,kA.out,dA,dD⟩;exact eC.out.trans ⟨fun ⟨i,hi,h⟩=>⟨i,by omega,h⟩,fun ⟨i,hi,h⟩=>by
        by_cases e:i=j
        ·subst e;exact absurd jA.out h
        ·exact⟨i,by omega,h⟩⟩
      case measure=>simp[intOf];omega
     ·have jA:=zE nA;obtain rfl:t=false:=zQ ht nA;clear ht nA;have fA:=zE (show(zAJ p k (p.s k) j).length<=maxLen by unfold maxLen;omega);obtain⟨⟨x0,x1⟩,⟨x2,x3⟩⟩:=kA.out;by_cases sC:zAw p (zb (p.s k) j) (zu (p.s k) j)
      ·have gB:=zE sC;clear sC;by_cases aD:zb (p.s k) j∈zAJ p k (p.s k) j
       ·have fC:=zE aD;clear aD;go_wp2_with fail;refine wp_region_held_drew (S:=(fun w'=>w'.cell? ⟨w.heap.size,0,none⟩=some (.slice (some ⟨b,off,none⟩) p.n c)/\w'.cell? ⟨w.heap.size,1,none⟩=some (.slice a' p.hn c')/\w'.cell? ⟨tb,bC+j*2,none⟩=some (.int .i64 (zb (p.s k) j))/\w'.cell? ⟨tb,bC+j*2+1,none⟩=some (.int .i64 (zu (p.s k) j)))) (by kernel_rfl) ?_ (fun hHeld=>?_)
        ·(try dsimp only)
         go_keep
        refine tk 0 (h:=tk 1 (h:=tk 2 (h:=tk 3 (h:=tk 4 (h:=?_)))));refine rd [5] (rc (fun K hK=>?_) .nil);go_simp;go_at_call 139;refine(zC0 _ _ lo hi p (zb (p.s k) j) (zu (p.s k) j) _ ?_).mono ?_
        ·first | exact Hp.out.zRJ dA | exact Hp.out.zRJ dA.drew
        rintro e wa ⟨⟨ta,rfl,gA⟩,eA⟩;obtain rfl:ta=true:=gA.2 gB.out;clear gA;have aA:Below W.heap.size W wa:=(by first | exact eA | exact zK eA);obtain⟨⟨k0,_⟩,⟨k1,_⟩⟩:=kA.out.zRJ aA;have k2:=(aA.cell (zD q0)).trans q0;have k3:=(aA.cell (zD q1)).trans q1
        (try go_wp2_with fail)
        refine hK.out _ _ (by(try dsimp only);go_keep) ?_;clear hK K hHeld;intro hHeld
        try simp only[Act.put,s1,s2,s3]
        refine tk 6 (h:=tk 7 (h:=tk 8 (h:=tk 9 (h:=tk 10 (h:=tk 11 (h:=tk 12 (h:=tk 13 (h:=?_))))))));refine rd [14] (rc (fun K hK=>?_) .nil);go_simp;go_at_call 75;refine(zAT _ _ 0 _ _ (zb (p.s k) j) _ (zFs fA.out (cB.out.kept (yu aA none) (by rcases Value.ownBlock _<;>simp)))).mono ?_;rintro e wb ⟨⟨nB,rfl,cA⟩,rfl⟩;rw[zFj]at cA;obtain rfl:nB=true:=cA.2 fC.out;clear cA
        (try go_wp2_with fail)
        refine hK.out _ _ (by(try dsimp only);go_keep) ?_;clear hK K hHeld;intro hHeld
        try simp only[Act.put,s1,s2,s3]
        refine tk 15 (h:=?_);refine wpAnyH_done (by kernel_rfl) ?_ _;have pA:=zA dA aA;go_wp2;go_ret;refine⟨zG.no fun h=>?_,pA⟩;have hd:=zJB HN.out (h.resolve_left HN.out).2.2 rA (Nat.zero_le _) jA.out;exact(zDn.1 (show(zAJ p k (p.s k) j ++ [zb (p.s k) j]).Nodup from hd)).2 fC.out
       ·have fC:=zE aD;clear aD;go_wp2_with fail;refine wp_region_held_drew (S:=(fun w'=>w'.cell? ⟨w.heap.size,0,none⟩=some (.slice (some ⟨b,off,none⟩) p.n c)/\w'.cell? ⟨w.heap.size,1,none⟩=some (.slice a' p.hn c')/\w'.cell? ⟨tb,bC+j*2,none⟩=some (.int .i64 (zb (p.s k) j))/\w'.cell? ⟨tb,bC+j*2+1,none⟩=some (.int .i64 (zu (p.s k) j)))) (by kernel_rfl) ?_ (fun hHeld=>?_)
        ·(try dsimp only)
         go_keep
        refine tk 0 (h:=tk 1 (h:=tk 2 (h:=tk 3 (h:=tk 4 (h:=?_)))));refine rd [5] (rc (fun K hK=>?_) .nil);go_simp;go_at_call 139;refine(zC0 _ _ lo hi p (zb (p.s k) j) (zu (p.s k) j) _ ?_).mono ?_
        ·first | exact Hp.out.zRJ dA | exact Hp.out.zRJ dA.drew
        rintro e wa ⟨⟨ta,rfl,gA⟩,eA⟩;obtain rfl:ta=true:=gA.2 gB.out;clear gA;have aA:Below W.heap.size W wa:=(by first | exact eA | exact zK eA);obtain⟨⟨k0,_⟩,⟨k1,_⟩⟩:=kA.out.zRJ aA;have k2:=(aA.cell (zD q0)).trans q0;have k3:=(aA.cell (zD q1)).trans q1
        (try go_wp2_with fail)
        refine hK.out _ _ (by(try dsimp only);go_keep) ?_;clear hK K hHeld;intro hHeld
        try simp only[Act.put,s1,s2,s3]
        refine tk 6 (h:=tk 7 (h:=tk 8 (h:=tk 9 (h:=tk 10 (h:=tk 11 (h:=tk 12 (h:=tk 13 (h:=?_))))))));refine rd [14] (rc (fun K hK=>?_) .nil);go_simp;go_at_call 75;refine(zAT _ _ 0 _ _ (zb (p.s k) j) _ (zFs fA.out (cB.out.kept (yu aA none) (by rcases Value.ownBlock _<;>simp)))).mono ?_;rintro e wb ⟨⟨nB,rfl,cA⟩,rfl⟩;rw[zFj]at cA;obtain rfl:nB=false:=zQ cA fC.out;clear cA
        (try go_wp2_with fail)
        refine hK.out _ _ (by(try dsimp only);go_keep) ?_;clear hK K hHeld;intro hHeld
        try simp only[Act.put,s1,s2,s3]
        refine tk 15 (h:=?_);refine wpAnyH_done (by kernel_rfl) ?_ _;have pA:=zA dA aA;have eF:w.heap.size+2<=wb.heap.size:=(by have:=aA.size;omega);obtain⟨m,hm⟩:=Int.eq_ofNat_of_zero_le gB.out.1.2.1;have sE:m<p.n:=(by have:=gB.out.1.2.2.1;omega);have iF:(m:Int)<(p.n:Int):=(by omega);have tC:(zb (p.s k) j).toNat=m:=(by rw[hm];rfl);have aE:=zE (qV HR.out gB.out.1);rw[tC]at aE;have gD:(p.s m).kn=8:=by
         have h0:=gB.out.2.1;rw[tC]at h0;rcases zEY aE.out with h | h
         ·omega
         ·exact h
        have iD:=zE gD;obtain⟨_,_,ua,uc,ha,lD⟩:=Hp.out.1.cells sE;simp only[Option.some.injEq,Addr.mk.injEq,and_true]at ha;obtain⟨rfl,rfl⟩:=ha;have aF:Hid (zR w lo hi (.slice ua 8 uc) 8 (p.s m).ks (p.s m).kb):=(by have:=lD.slot.2.1;rw[gD]at this;exact this);have bF:=zE lD;have Hm:=zE hm;have tB:=zE tC;have iA:=zC wb (.cells #[.int .i64 (zb (p.s k) j)] 2);have lB:=zE ((cB.out.zRJ aA).zRJ iA);have vC:=zE ((kA.out.zRJ aA).zRJ iA);have rB:=zA pA iA;have fF:(wb.alloc (.cells #[.int .i64 (zb (p.s k) j)] 2)).heap.size=wb.heap.size+1:=World.size_alloc _ _;have bD:=zE (World.news_of_block (heap_alloc_last wb (.cells #[.int .i64 (zb (p.s k) j)] 2)));have nF:(m0:Int)<9:=(by omega);clear lD gD hm tC iA cB kA dA aA q0 q1 k0 k1 k3 x0 x1 x2 x3;go_wp2_with (first
         |(at_builtin;refine wpList_append_lies _ rfl _ _ 23 rfl (w.heap.size+2) 2 i0 (.int .i64 0) 1 8 (by kernel_rfl) HI.out.1 HI.out.2.1 HI.out.2.2.1 HI.out.2.2.2 rfl (by decide) (.slice sa (zAJ p k (p.s k) j).length sc) (zAJ p k (p.s k) j).length (icl (zAJ p k (p.s k) j)) rfl lB.out ⟨wb.heap.size,0,none⟩ 1 1 [.int .i64 (zb (p.s k) j)] rfl rfl bD.out (by simp[Value.oneCell']) (by decide) (by unfold maxLen;omega) (by omega) (by omega) _ rfl ?_;intro g4 iB w4 lA bA lC iC)
         |fail)
        have gE:Hid (zFc w4 (w.heap.size+2) (.slice (some ⟨g4,0,none⟩) ((zAJ p k (p.s k) j).length+1) iB) (zBN p k (p.s k) j 0)):=by
         rw[zGF];exact zFc.next lA
        have nC:Below w.heap.size w w4:=rB.grown bA rB.size (fun q hq=>by have:=lB.out.lt hq;omega);have rD:=zE (vC.out.grownT bA (fun q hq=>by have:=lB.out.lt hq;omega));have eE:w.heap.size+2<=w4.heap.size:=(by have:=bA.size;omega);have bE:(zBN p k (p.s k) j 0).Nodup:=(by rw[zGF];exact zDn.2 ⟨pB.out,fC.out⟩);have dE:=zE bE;clear lA bA lC iC lB vC rB pA bD bE k2;obtain⟨_,_,ha,q0,q1⟩:=(lE.out.zRJ nC).cellsT rA;simp only[Option.some.injEq,Addr.mk.injEq,and_true]at ha;obtain⟨rfl,rfl⟩:=ha;rw[<-zCy H8.out rA,Hm.out]at q0;obtain⟨r0,r1,r2,_⟩:=bF.out.zRJ nC;rw[iD.out]at r1;obtain⟨⟨x0,x1⟩,⟨x2,x3⟩⟩:=rD.out
        go_quiet (fail)
        go_wp2
        go_loopw [5,9,11] (fun sv nv i wr=>∃(i' m1:Nat) (sa:Option Addr) (sc:Nat),i'<=8/\i = .int .i64 i'/\nv = .int .i64 m1/\m1<=i'/\(0<m1↔∃i,i<i'/\¬Nil (zb (p.s m) i) (zu (p.s m) i))/\sv = .slice sa (zBN p k (p.s k) j i').length sc/\zFc wr (w.heap.size+2) sv (zBN p k (p.s k) j i')/\(∀i,i<i'->Nil (zb (p.s m) i) (zu (p.s m) i)\/zD7 p (zb (p.s m) i) (zu (p.s m) i))/\(zBN p k (p.s k) j i').Nodup/\zc wr w.heap.size (.slice (some ⟨b,off,none⟩) p.n c) (.slice a' p.hn c')/\Below w.heap.size w wr/\w.heap.size+2<=wr.heap.size) (fun _ _ i _=>8 - (intOf i).toNat)
        case atStart=>exact⟨0,0,some ⟨g4,0,none⟩,iB,Nat.zero_le _,rfl,rfl,Nat.le_refl _,⟨fun h=>absurd h (Nat.lt_irrefl _),fun ⟨i,hi,_⟩=>absurd hi (Nat.not_lt_zero _)⟩,by rw[zGF,List.length_append];rfl,gE.out.zRJ (zg (Below.refl _ _) _),fun i hi=>absurd hi (Nat.not_lt_zero _),dE.out,rD.out.zRJ (zg (Below.refl _ _) _),zg nC _,eE⟩
        case round=>
         obtain⟨i,m1,sa,sc,pE,rfl,rfl,lF,kB,rfl,aB,cE,sA,eB,fB,pC⟩:=hrel;have bB:=zE kB;have mA:=zE aB;have tD:=zE cE;have tA:=zE sA;have oA:=zE eB;have mE:=zQK p k (p.s k) (show j<=8 by omega) pE;clear kB aB cE sA eB gE rD nC dE x0 x1 x2 x3 q0 q1 r0 r1 r2 eE;by_cases aC:i<8
         ·have cF:(i:Int)<8:=(by omega);obtain⟨ub,sB,rfl,q0,q1⟩:=(aF.out.zRJ fB).cellsT aC;rw[<-zCy iD.out aC]at q0;rw[<-zEZ iD.out aC]at q1;go_wp2_with fail;refine(ye (zb (p.s m) i) (zu (p.s m) i) wr).mono ?_;rintro e W ⟨⟨t,rfl,ht⟩,hb⟩;have dA:=zA fB hb;have kA:=zE (oA.out.zRJ hb);have cB:=zE (mA.out.zRJ hb);have dD:w.heap.size+2<=W.heap.size:=(by have:=hb.size;omega);have gC:=(hb.cell (zD q0)).trans q0;have cC:=(hb.cell (zD q1)).trans q1;clear q0 q1 fB hb mA oA pC;have q0:=gC;have q1:=cC;clear gC cC;by_cases nA:Nil (zb (p.s m) i) (zu (p.s m) i)
          ·have mB:=zE nA;obtain rfl:t=true:=ht.2 nA;clear ht nA;have es:zBN p k (p.s k) j (i+1)=zBN p k (p.s k) j i:=zPZ (by rw[tB.out];exact mB.out);go_wp2;go_roundw
           case rel=>
            refine⟨i+1,m1,sa,sc,by omega,by go_num,rfl,by omega,?_,by rw[es],by rw[es];exact cB.out,zo aC tD.out (Or.inl mB.out),by rw[es];exact tA.out,kA.out,dA,dD⟩;exact bB.out.trans ⟨fun ⟨i,hi,h⟩=>⟨i,by omega,h⟩,fun ⟨i',hi,h⟩=>by
             by_cases e:i'=i
             ·subst e;exact absurd mB.out h
             ·exact⟨i',by omega,h⟩⟩
           case measure=>simp[intOf];omega
          ·have mB:=zE nA;obtain rfl:t=false:=zQ ht nA;clear ht nA;have fA:=zE (show(zBN p k (p.s k) j i).length<=maxLen by unfold maxLen;omega);obtain⟨⟨x0,x1⟩,⟨x2,x3⟩⟩:=kA.out;have es:zBN p k (p.s k) j (i+1)=zBN p k (p.s k) j i ++ [zb (p.s m) i]:=(by have:=zOp (p:=p) (rs:=(k:Int)) (s:=p.s k) (j:=j) (i:=i) (by rw[tB.out];exact mB.out);rw[tB.out]at this;exact this);have oC:=zE es;clear es;by_cases hP:zD7 p (zb (p.s m) i) (zu (p.s m) i)
           ·have vB:=zE hP;clear hP;by_cases jB:zb (p.s m) i∈zBN p k (p.s k) j i
            ·have dB:=zE jB;clear jB;go_wp2_with fail;refine wp_region_held_drew (S:=(fun w'=>w'.cell? ⟨w.heap.size,0,none⟩=some (.slice (some ⟨b,off,none⟩) p.n c)/\w'.cell? ⟨w.heap.size,1,none⟩=some (.slice a' p.hn c')/\w'.cell? ⟨ub,sB+i*2,none⟩=some (.int .i64 (zb (p.s m) i))/\w'.cell? ⟨ub,sB+i*2+1,none⟩=some (.int .i64 (zu (p.s m) i)))) (by kernel_rfl) ?_ (fun hHeld=>?_)
             ·(try dsimp only)
              go_keep
             refine tk 0 (h:=tk 1 (h:=tk 2 (h:=tk 3 (h:=tk 4 (h:=?_)))));refine rd [5] (rc (fun K hK=>?_) .nil);go_simp;go_at_call 140;refine(zEO _ _ lo hi p (zb (p.s m) i) (zu (p.s m) i) _ ?_).mono ?_
             ·first | exact Hp.out.zRJ dA | exact Hp.out.zRJ dA.drew
             rintro e wa ⟨⟨ta,rfl,gA⟩,eA⟩;obtain rfl:ta=true:=gA.2 vB.out;clear gA;have aA:Below W.heap.size W wa:=(by first | exact eA | exact zK eA);obtain⟨⟨k0,_⟩,⟨k1,_⟩⟩:=kA.out.zRJ aA;have k2:=(aA.cell (zD q0)).trans q0;have k3:=(aA.cell (zD q1)).trans q1
             (try go_wp2_with fail)
             refine hK.out _ _ (by(try dsimp only);go_keep) ?_;clear hK K hHeld;intro hHeld
             try simp only[Act.put,s1,s2,s3]
             refine tk 6 (h:=tk 7 (h:=tk 8 (h:=tk 9 (h:=tk 10 (h:=tk 11 (h:=tk 12 (h:=tk 13 (h:=?_))))))));refine rd [14] (rc (fun K hK=>?_) .nil);go_simp;go_at_call 75;refine(zAT _ _ 0 _ _ (zb (p.s m) i) _ (zFs fA.out (cB.out.kept (yu aA none) (by rcases Value.ownBlock _<;>simp)))).mono ?_;rintro e wb ⟨⟨nB,rfl,cA⟩,rfl⟩;rw[zFj]at cA;obtain rfl:nB=true:=cA.2 dB.out;clear cA
             (try go_wp2_with fail)
             refine hK.out _ _ (by(try dsimp only);go_keep) ?_;clear hK K hHeld;intro hHeld
             try simp only[Act.put,s1,s2,s3]
             refine tk 15 (h:=?_);refine wpAnyH_done (by kernel_rfl) ?_ _;have pA:=zA dA aA;go_wp2;go_ret;refine⟨zG.no fun h=>?_,pA⟩;have hd:=zJB HN.out (h.resolve_left HN.out).2.2 rA (show i+1<=8 by omega) jA.out;have iE:(zBN p k (p.s k) j (i+1)).Nodup:=hd;rw[oC.out]at iE;exact(zDn.1 iE).2 dB.out
            ·have dB:=zE jB;clear jB;go_wp2_with fail;refine wp_region_held_drew (S:=(fun w'=>w'.cell? ⟨w.heap.size,0,none⟩=some (.slice (some ⟨b,off,none⟩) p.n c)/\w'.cell? ⟨w.heap.size,1,none⟩=some (.slice a' p.hn c')/\w'.cell? ⟨ub,sB+i*2,none⟩=some (.int .i64 (zb (p.s m) i))/\w'.cell? ⟨ub,sB+i*2+1,none⟩=some (.int .i64 (zu (p.s m) i)))) (by kernel_rfl) ?_ (fun hHeld=>?_)
             ·(try dsimp only)
              go_keep
             refine tk 0 (h:=tk 1 (h:=tk 2 (h:=tk 3 (h:=tk 4 (h:=?_)))));refine rd [5] (rc (fun K hK=>?_) .nil);go_simp;go_at_call 140;refine(zEO _ _ lo hi p (zb (p.s m) i) (zu (p.s m) i) _ ?_).mono ?_
             ·first | exact Hp.out.zRJ dA | exact Hp.out.zRJ dA.drew
             rintro e wa ⟨⟨ta,rfl,gA⟩,eA⟩;obtain rfl:ta=true:=gA.2 vB.out;clear gA;have aA:Below W.heap.size W wa:=(by first | exact eA | exact zK eA);obtain⟨⟨k0,_⟩,⟨k1,_⟩⟩:=kA.out.zRJ aA;have k2:=(aA.cell (zD q0)).trans q0;have k3:=(aA.cell (zD q1)).trans q1
             (try go_wp2_with fail)
             refine hK.out _ _ (by(try dsimp only);go_keep) ?_;clear hK K hHeld;intro hHeld
             try simp only[Act.put,s1,s2,s3]
             refine tk 6 (h:=tk 7 (h:=tk 8 (h:=tk 9 (h:=tk 10 (h:=tk 11 (h:=tk 12 (h:=tk 13 (h:=?_))))))));refine rd [14] (rc (fun K hK=>?_) .nil);go_simp;go_at_call 75;refine(zAT _ _ 0 _ _ (zb (p.s m) i) _ (zFs fA.out (cB.out.kept (yu aA none) (by rcases Value.ownBlock _<;>simp)))).mono ?_;rintro e wb ⟨⟨nB,rfl,cA⟩,rfl⟩;rw[zFj]at cA;obtain rfl:nB=false:=zQ cA dB.out;clear cA
             (try go_wp2_with fail)
             refine hK.out _ _ (by(try dsimp only);go_keep) ?_;clear hK K hHeld;intro hHeld
             try simp only[Act.put,s1,s2,s3]
             refine tk 15 (h:=?_);refine wpAnyH_done (by kernel_rfl) ?_ _;have pA:=zA dA aA;have eF:w.heap.size+2<=wb.heap.size:=(by have:=aA.size;omega);have iA:=zC wb (.cells #[.int .i64 (zb (p.s m) i)] 2);have lB:=zE ((cB.out.zRJ aA).zRJ iA);have vC:=zE ((kA.out.zRJ aA).zRJ iA);have rB:=zA pA iA;have fF:(wb.alloc (.cells #[.int .i64 (zb (p.s m) i)] 2)).heap.size=wb.heap.size+1:=World.size_alloc _ _;have bD:=zE (World.news_of_block (heap_alloc_last wb (.cells #[.int .i64 (zb (p.s m) i)] 2)));have rE:(m1:Int)<9:=(by omega);clear iA cB kA dA aA q0 q1 k0 k1 k3 x0 x1 x2 x3;go_wp2_with (first
              |(at_builtin;refine wpList_append_lies _ rfl _ _ 23 rfl (w.heap.size+2) 2 i0 (.int .i64 0) 1 8 (by kernel_rfl) HI.out.1 HI.out.2.1 HI.out.2.2.1 HI.out.2.2.2 rfl (by decide) (.slice sa (zBN p k (p.s k) j i).length sc) (zBN p k (p.s k) j i).length (icl (zBN p k (p.s k) j i)) rfl lB.out ⟨wb.heap.size,0,none⟩ 1 1 [.int .i64 (zb (p.s m) i)] rfl rfl bD.out (by simp[Value.oneCell']) (by decide) (by unfold maxLen;omega) (by omega) (by omega) _ rfl ?_;intro g4 iB w4 lA bA lC iC)
              |go_in)
             go_roundw
             case rel=>
              refine⟨i+1,m1+1,some ⟨g4,0,none⟩,iB,by omega,by go_num,by go_num,by omega,⟨fun _=>⟨i,by omega,mB.out⟩,fun _=>by omega⟩,by rw[oC.out,List.length_append];rfl,by rw[oC.out];exact zFc.next lA,zo aC tD.out (Or.inr vB.out),by rw[oC.out];exact zDn.2 ⟨tA.out,dB.out⟩,vC.out.grownT bA (fun q hq=>by have:=lB.out.lt hq;omega),rB.grown bA rB.size (fun q hq=>by have:=lB.out.lt hq;omega),by have:=bA.size;omega⟩
             case measure=>simp[intOf];omega
           ·have vB:=zE hP;clear hP;go_wp2_with fail;refine wp_region_held_drew (S:=(fun w'=>w'.cell? ⟨w.heap.size,0,none⟩=some (.slice (some ⟨b,off,none⟩) p.n c)/\w'.cell? ⟨w.heap.size,1,none⟩=some (.slice a' p.hn c')/\w'.cell? ⟨ub,sB+i*2,none⟩=some (.int .i64 (zb (p.s m) i))/\w'.cell? ⟨ub,sB+i*2+1,none⟩=some (.int .i64 (zu (p.s m) i)))) (by kernel_rfl) ?_ (fun hHeld=>?_)
            ·(try dsimp only)
             go_keep
            refine tk 0 (h:=tk 1 (h:=tk 2 (h:=tk 3 (h:=tk 4 (h:=?_)))));refine rd [5] (rc (fun K hK=>?_) .nil);go_simp;go_at_call 140;refine(zEO _ _ lo hi p (zb (p.s m) i) (zu (p.s m) i) _ ?_).mono ?_
            ·first | exact Hp.out.zRJ dA | exact Hp.out.zRJ dA.drew
            rintro e wa ⟨⟨ta,rfl,gA⟩,eA⟩;obtain rfl:ta=false:=zQ gA vB.out;clear gA;have aA:Below W.heap.size W wa:=(by first | exact eA | exact zK eA);obtain⟨⟨k0,_⟩,⟨k1,_⟩⟩:=kA.out.zRJ aA;have k2:=(aA.cell (zD q0)).trans q0;have k3:=(aA.cell (zD q1)).trans q1
            (try go_wp2_with fail)
            refine hK.out _ _ (by(try dsimp only);go_keep) ?_;clear hK K hHeld;intro hHeld
            try simp only[Act.put,s1,s2,s3]
            refine tk 6 (h:=tk 7 (h:=ts 8 (h:=ts 9 (h:=ts 10 (h:=ts 11 (h:=ts 12 (h:=ts 13 (h:=?_))))))));refine rd [14] (rc (fun K hK=>?_) .nil);split
            ·rename_i fD
             exact absurd (show false=true from fD) Bool.false_ne_true
            refine hK.out _ _ (by assumption) (fun hHeld=>?_);clear hK K
            try simp only[Act.put,s1,s2,s3]
            refine tk 15 (h:=?_);refine wpAnyH_done (by kernel_rfl) ?_ _;have pA:=zA dA aA;go_wp2;go_ret;refine⟨zG.no fun h=>?_,pA⟩;rcases(h.resolve_left HN.out).2.1.1 j rA with h | h
            ·exact jA.out h
            ·have h2:Nil (zb (p.s (zb (p.s k) j).toNat) i) (zu (p.s (zb (p.s k) j).toNat) i)\/zD7 p (zb (p.s (zb (p.s k) j).toNat) i) (zu (p.s (zb (p.s k) j).toNat) i):=h.2.1 i aC;rw[tB.out]at h2;rcases h2 with h2 | h2
             ·exact mB.out h2
             ·exact vB.out h2
         ·obtain rfl:i=8:=(by omega);by_cases nE:m1=0
          ·subst nE;have e0:((0:Nat):Int)=0:=rfl;go_wp2;go_ret;refine⟨zG.no fun h=>?_,fB⟩;rcases(h.resolve_left HN.out).2.1.1 j rA with h | h
           ·exact jA.out h
           ·have h2:∃i,i<8/\¬Nil (zb (p.s (zb (p.s k) j).toNat) i) (zu (p.s (zb (p.s k) j).toNat) i):=h.2.2;rw[tB.out]at h2;have:=bB.out.2 h2;omega
          ·have e0:((m1:Int) == 0)=false:=(by simp;omega);have vE:=zE (show 0<m1 by omega);have mD:Hid (zOg p (p.s (zb (p.s k) j).toNat)):=(by rw[tB.out];exact⟨tD.out,bB.out.1 vE.out⟩);clear nE;go_wp2;go_roundw
           case rel=>
            refine⟨j+1,m0+1,sa,sc,by omega,by go_num,by go_num,by omega,⟨fun _=>⟨j,by omega,jA.out⟩,fun _=>by omega⟩,by rw[zEW jA.out],by rw[zEW jA.out];exact mA.out,zo rA oB.out (Or.inr ⟨gB.out,mD.out⟩),by rw[zEW jA.out];exact tA.out,oA.out,fB,pC⟩
           case measure=>simp[intOf];omega
      ·have gB:=zE sC;clear sC;go_wp2_with fail;refine wp_region_held_drew (S:=(fun w'=>w'.cell? ⟨w.heap.size,0,none⟩=some (.slice (some ⟨b,off,none⟩) p.n c)/\w'.cell? ⟨w.heap.size,1,none⟩=some (.slice a' p.hn c')/\w'.cell? ⟨tb,bC+j*2,none⟩=some (.int .i64 (zb (p.s k) j))/\w'.cell? ⟨tb,bC+j*2+1,none⟩=some (.int .i64 (zu (p.s k) j)))) (by kernel_rfl) ?_ (fun hHeld=>?_)
       ·(try dsimp only)
        go_keep
       refine tk 0 (h:=tk 1 (h:=tk 2 (h:=tk 3 (h:=tk 4 (h:=?_)))));refine rd [5] (rc (fun K hK=>?_) .nil);go_simp;go_at_call 139;refine(zC0 _ _ lo hi p (zb (p.s k) j) (zu (p.s k) j) _ ?_).mono ?_
       ·first | exact Hp.out.zRJ dA | exact Hp.out.zRJ dA.drew
       rintro e wa ⟨⟨ta,rfl,gA⟩,eA⟩;obtain rfl:ta=false:=zQ gA gB.out;clear gA;have aA:Below W.heap.size W wa:=(by first | exact eA | exact zK eA);obtain⟨⟨k0,_⟩,⟨k1,_⟩⟩:=kA.out.zRJ aA;have k2:=(aA.cell (zD q0)).trans q0;have k3:=(aA.cell (zD q1)).trans q1
       (try go_wp2_with fail)
       refine hK.out _ _ (by(try dsimp only);go_keep) ?_;clear hK K hHeld;intro hHeld
       try simp only[Act.put,s1,s2,s3]
       refine tk 6 (h:=tk 7 (h:=ts 8 (h:=ts 9 (h:=ts 10 (h:=ts 11 (h:=ts 12 (h:=ts 13 (h:=?_))))))));refine rd [14] (rc (fun K hK=>?_) .nil);split
       ·rename_i fD
        exact absurd (show false=true from fD) Bool.false_ne_true
       refine hK.out _ _ (by assumption) (fun hHeld=>?_);clear hK K
       try simp only[Act.put,s1,s2,s3]
       refine tk 15 (h:=?_);refine wpAnyH_done (by kernel_rfl) ?_ _;have pA:=zA dA aA;go_wp2;go_ret;refine⟨zG.no fun h=>?_,pA⟩;rcases(h.resolve_left HN.out).2.1.1 j rA with h | h
       ·exact jA.out h
       ·exact gB.out h.1
    ·obtain rfl:j=8:=(by omega);go_wp2;go_ret;refine⟨⟨_,rfl,?_⟩,fB⟩;have hc:=eC.out;constructor
     ·intro h;refine Or.inr ⟨vD.out,⟨oB.out,hc.1 (by simpa using h)⟩,?_⟩;rw[zHY HN.out];exact pB.out
     ·intro h;have:=hc.2 (h.resolve_left HN.out).2.1.2;simpa using this
  ·have vD:=zE vA;obtain rfl:t=false:=zQ ht vA;clear ht vA;go_wp2;go_ret;exact⟨zG.no fun h=>(h.resolve_left HN.out).1 |> vD.out,cD⟩
def zDv(p:zJ)(rs rb:Int)(s:zL)(j:Nat):List (Int×Int):=(rs,rb) :: zAu p s j
def zC5(p:zJ)(rs rb:Int)(s:zL)(j i:Nat):List (Int×Int):=zDv p rs rb s j ++ ((zb s j,zu s j) :: kidsUp (zb (p.s (zb s j).toNat)) (zu (p.s (zb s j).toNat)) i)
theorem zOz{p:zJ}{rs rb:Int}(hz:¬Nil rs rb):zT p rs rb=zDv p rs rb (p.s rs.toNat) 8:=if_neg hz
theorem zLo{p:zJ}{rs rb:Int}{s:zL}{j:Nat}(hn:¬Nil (zb s j) (zu s j)):zDv p rs rb s (j+1)=zC5 p rs rb s j 8:=by
 unfold zDv zC5 zDv;rw[zAu,zMF hn];rfl
theorem zLw{p:zJ}{rs rb:Int}{s:zL}{j:Nat}(hn:Nil (zb s j) (zu s j)):zDv p rs rb s (j+1)=zDv p rs rb s j:=by
 unfold zDv;rw[zAu,show zEu p (zb s j) (zu s j) = [] from if_pos hn,List.append_nil]
theorem zHq(p:zJ)(rs rb:Int)(s:zL)(j:Nat):zC5 p rs rb s j 0=zDv p rs rb s j ++ [(zb s j,zu s j)]:=rfl
theorem zOK{p:zJ}{rs rb:Int}{s:zL}{j i:Nat}(hn:Nil (zb (p.s (zb s j).toNat) i) (zu (p.s (zb s j).toNat) i)):zC5 p rs rb s j (i+1)=zC5 p rs rb s j i:=by
 unfold zC5;rw[kidsUp,show one (zb (p.s (zb s j).toNat) i) (zu (p.s (zb s j).toNat) i) = [] from if_pos hn,List.append_nil]
theorem zN0{p:zJ}{rs rb:Int}{s:zL}{j i:Nat}(hn:¬Nil (zb (p.s (zb s j).toNat) i) (zu (p.s (zb s j).toNat) i)):zC5 p rs rb s j (i+1)=zC5 p rs rb s j i ++ [(zb (p.s (zb s j).toNat) i,zu (p.s (zb s j).toNat) i)]:=by
 unfold zC5;rw[kidsUp,show one (zb (p.s (zb s j).toNat) i) (zu (p.s (zb s j).toNat) i) = [(zb (p.s (zb s j).toNat) i,zu (p.s (zb s j).toNat) i)] from if_neg hn,List.append_assoc];rfl
theorem zNc(p:zJ)(rs rb:Int)(s:zL){j:Nat}(hj:j<=8):(zDv p rs rb s j).length<=73:=by
 have:=zEg p s j;simp only[zDv,List.length_cons];omega
theorem zPa(p:zJ)(rs rb:Int)(s:zL){j i:Nat}(hj:j<=8)(hi:i<=8):(zC5 p rs rb s j i).length<=90:=by
 have h1:=zNc p rs rb s hj;have h2:=zAh (zb (p.s (zb s j).toNat)) (zu (p.s (zb s j).toNat)) i;simp only[zC5,List.length_append,List.length_cons];omega
theorem zw.next{w2:World}{base g aA:Nat}{l:List (Int×Int)}{x y:Int}(h:w2.ownsRow base 61 2 (.slice (some ⟨g,0,none⟩) (l.length+1) aA) (l.length+1) (pcl l ++ [.int .i64 x,.int .i64 y])):zw w2 base (.slice (some ⟨g,0,none⟩) (l.length+1) aA) (l ++ [(x,y)]):=by
 unfold zw;rw[zA6,List.length_append];exact h
theorem yf(v0 v1:Value)(lo hi:Nat)(p:zJ)(xs xb:Int)(w:World)(h1:zy w lo hi v0 v1 p)(hR:zv p)(hT:qF p xs xb) :
  Calls Tryz.prog 141 #[.agg #[v0,v1],.agg #[.int .i64 xs,.int .i64 xb]] w fun e w'=>∃v,e = .returned v/\zw w' w.heap.size v (zT p xs xb)/\Below w.heap.size w w':=by
 have Hp:=zE h1;have HR:=zE hR;have HT:=zE hT;obtain⟨a,c,a',c',rfl,rfl⟩:∃a c a' c',v0 = .slice a p.n c/\v1 = .slice a' p.hn c':=by
  obtain⟨⟨_,a,c,h1,_⟩,⟨_,a',c',h3,_⟩⟩:=h1;exact⟨a,c,a',c',h1,h3⟩
 clear h1 hR hT;have kB:=zBq w (.slice a p.n c) (.slice a' p.hn c') (.int .i64 xs) (.int .i64 xb) 33 61;obtain⟨i0,tC,cC⟩:=Option.map_eq_some_iff.1 zAz;simp only[Prod.mk.injEq]at cC;have HI:=zE (And.intro tC cC);clear tC cC;go_enter Tryz.func141,Tryz.ntmps141;have mA:=World.ownsRow_lit (e:=61) (size:=2) (base:=w.heap.size+2) ((w.alloc (.cells #[.slice a p.n c,.slice a' p.hn c'] 33)).alloc (.cells #[.int .i64 xs,.int .i64 xb] 61)) #[] 0 (by rw[kB.2.2.2];omega) (by unfold maxLen;omega) rfl;rw[kB.2.2.2]at mA;have fD:=kB.2.1.zRJ (zC _ (.cells #[] 61));obtain⟨⟨y0,y1⟩,⟨y2,y3⟩⟩:=fD;go_wp2_with fail;clear y0 y1 y2 y3;generalize (w.alloc (.cells #[.slice a p.n c,.slice a' p.hn c'] 33)).alloc (.cells #[.int .i64 xs,.int .i64 xb] 61)=W at kB mA ⊢;obtain⟨hB,hX,dD,hz⟩:=kB;have cA:=zC W (.cells #[] 61);have jC:=zE (show zw (W.alloc (.cells #[] 61)) (w.heap.size+2) (.slice (some ⟨w.heap.size+2,0,none⟩) 0 0) [] from mA);have lC:=hB.zRJ cA;have bC:=hX.zRJ cA;have fC:=zA dD cA;have eD:(W.alloc (.cells #[] 61)).heap.size=w.heap.size+3:=by rw[World.size_alloc,hz]
 clear mA hB hX dD cA;generalize W.alloc (.cells #[] 61)=W0 at jC lC bC fC eD ⊢;refine(ye xs xb W0).mono ?_;rintro e w1 ⟨⟨t,rfl,ht⟩,fB⟩;have eC:=zE (lC.zRJ fB);have aC:=zE (bC.zRJ fB);have nC:=zE (jC.out.zRJ fB);have rB:=zA fC fB;have lD:w.heap.size+3<=w1.heap.size:=by have:=fB.size;omega
 clear lC bC fC fB jC eD hz;by_cases hn:Nil xs xb
 ·have HN:=zE hn;obtain rfl:t=true:=ht.2 hn;clear ht hn;go_wp2;go_ret;refine⟨_,rfl,?_,rB⟩;rw[show zT p xs xb = [] from if_pos HN.out];exact nC.out.mono (by omega)
 ·have HN:=zE hn;obtain rfl:t=false:=zQ ht hn;clear ht hn;have mB:zAw p xs xb:=(HT.out.resolve_left HN.out).1;have jB:=zE (HT.out.resolve_left HN.out).2.1.1;have h8:(p.s xs.toNat).kn=8:=by rcases zDJ HR.out mB.1 with h | h;(have:=mB.2.1;omega);exact h
  obtain⟨k,rfl⟩:=Int.eq_ofNat_of_zero_le mB.1.2.1;have hk:k<p.n:=(by have:=mB.1.2.2.1;omega);have sD:(k:Int)<(p.n:Int):=(by omega);rw[Int.toNat_natCast]at h8 jB;have H8:=zE h8;clear mB;obtain⟨b,off,ka,kc,rfl,oC⟩:=Hp.out.1.cells hk;have aD:Hid (zR w lo hi (.slice ka 8 kc) 8 (p.s k).ks (p.s k).kb):=(by have:=oC.slot.2.1;rw[h8]at this;exact this);have dC:=zE oC;clear oC h8;obtain⟨⟨x0,x1⟩,⟨x2,x3⟩⟩:=eC.out;obtain⟨⟨y0,y1⟩,⟨y2,y3⟩⟩:=aC.out;have cA:=zC w1 (.cells #[.int .i64 (k:Int),.int .i64 xb] 61);have fA:=zE (nC.out.zRJ cA);have sA:=zE (eC.out.zRJ cA);have cD:=zE (aC.out.zRJ cA);have lA:=zA rB cA;have pB:(w1.alloc (.cells #[.int .i64 (k:Int),.int .i64 xb] 61)).heap.size=w1.heap.size+1:=World.size_alloc _ _;have aB:=zE (World.news_of_block (heap_alloc_last w1 (.cells #[.int .i64 (k:Int),.int .i64 xb] 61)));clear cA nC eC aC rB;go_wp2_with (first
   |(at_builtin;refine wpList_append_lies _ rfl _ _ 62 rfl (w.heap.size+2) 61 i0 (.agg #[.int .i64 0,.int .i64 0]) 2 16 (by kernel_rfl) HI.out.1 HI.out.2.1 HI.out.2.2.1 HI.out.2.2.2 rfl (by decide) (.slice (some ⟨w.heap.size+2,0,none⟩) 0 0) 0 [] rfl fA.out ⟨w1.heap.size,0,none⟩ 1 1 [.int .i64 (k:Int),.int .i64 xb] rfl rfl aB.out (by simp[Value.oneCell']) (by decide) (by unfold maxLen;omega) (by omega) (by omega) _ rfl ?_;intro g4 dA w4 bA aA nA oA;have rA:Below w.heap.size w w4:=lA.grown aA lA.size (fun q hq=>(by have:=(fA.out.lt hq).1;omega));have vA:=zE (sA.out.grownT aA (fun q hq=>by have:=(fA.out.lt hq).1;omega));have rC:=zE (cD.out.grownT aA (fun q hq=>by have:=(fA.out.lt hq).1;omega));have z0:=vA.out.1.1;have z1:=rC.out.1.1;have z2:=(dC.out.zRJ rA).c1;rw[H8.out]at z2)
   |go_in)
  have gB:=zE (show zw w4 (w.heap.size+2) (.slice (some ⟨g4,0,none⟩) 1 dA) (zDv p k xb (p.s k) 0)from bA);have nB:w.heap.size+2<=w4.heap.size:=(by have:=aA.size;omega);clear bA aA nA oA fA sA cD lA aB pB lD
  go_loopw [5,7] (fun sv i wr=>∃(j:Nat) (sa:Option Addr) (sc:Nat),j<=8/\i = .int .i64 j/\sv = .slice sa (zDv p k xb (p.s k) j).length sc/\zw wr (w.heap.size+2) sv (zDv p k xb (p.s k) j)/\zc wr w.heap.size (.slice (some ⟨b,off,none⟩) p.n c) (.slice a' p.hn c')/\Below w.heap.size w wr/\w.heap.size+2<=wr.heap.size) (fun _ i _=>8 - (intOf i).toNat)
  case atStart=>exact⟨0,some ⟨g4,0,none⟩,dA,Nat.zero_le _,rfl,rfl,gB.out,vA.out,rA,nB⟩
  case round=>
   obtain⟨j,sa,sc,hj,rfl,rfl,kA,jA,pA,oB⟩:=hrel;have eA:=zE kA;have iA:=zE jA;have pD:=zNc p k xb (p.s k) hj;clear kA jA gB vA rC rA z0 z1 z2 x0 x1 x2 x3 y0 y1 y2 y3 nB;by_cases dB:j<8
   ·have kD:(j:Int)<8:=(by omega);obtain⟨tb,tD,rfl,q0,q1⟩:=(aD.out.zRJ pA).cellsT dB;rw[<-zCy H8.out dB]at q0;rw[<-zEZ H8.out dB]at q1;go_wp2_with fail;refine(ye (zb (p.s k) j) (zu (p.s k) j) wr).mono ?_;rintro e W ⟨⟨t,rfl,ht⟩,hb⟩;have tA:=zA pA hb;have cB:=zE (iA.out.zRJ hb);have bB:=zE (eA.out.zRJ hb);have iC:w.heap.size+2<=W.heap.size:=(by have:=hb.size;omega);have sC:=(hb.cell (zD q0)).trans q0;have vC:=(hb.cell (zD q1)).trans q1;clear q0 q1 pA hb eA iA oB;by_cases gA:Nil (zb (p.s k) j) (zu (p.s k) j)
    ·have eB:=zE gA;obtain rfl:t=true:=ht.2 gA;clear ht gA;go_wp2;go_roundw
     case rel=>exact⟨j+1,sa,sc,by omega,by go_num,by rw[zLw eB.out],by rw[zLw eB.out];exact bB.out,cB.out,tA,iC⟩
     case measure=>simp[intOf];omega
    ·have eB:=zE gA;obtain rfl:t=false:=zQ ht gA;clear ht gA;have iB:zAw p (zb (p.s k) j) (zu (p.s k) j):=by
      rcases jB.out j dB with h | h
      ·exact absurd h eB.out
      ·exact h.1
     obtain⟨m,hm⟩:=Int.eq_ofNat_of_zero_le iB.1.2.1;have jD:m<p.n:=(by have:=iB.1.2.2.1;omega);have nD:(m:Int)<(p.n:Int):=(by omega);have vB:(zb (p.s k) j).toNat=m:=(by rw[hm];rfl);have sB:(p.s m).kn=8:=by
      have h0:=iB.2.1;have h1:=zDJ HR.out iB.1;rw[vB]at h0 h1;rcases h1 with h | h
      ·omega
      ·exact h
     have tB:=zE sB;obtain⟨_,_,ua,uc,ha,gC⟩:=Hp.out.1.cells jD;simp only[Option.some.injEq,Addr.mk.injEq,and_true]at ha;obtain⟨rfl,rfl⟩:=ha;have oD:Hid (zR w lo hi (.slice ua 8 uc) 8 (p.s m).ks (p.s m).kb):=(by have:=gC.slot.2.1;rw[sB]at this;exact this);have gD:=zE gC;have Hm:=zE hm;have kC:=zE vB;have cA:=zC W (.cells #[.int .i64 (zb (p.s k) j),.int .i64 (zu (p.s k) j)] 61);have fA:=zE (bB.out.zRJ cA);have sA:=zE (cB.out.zRJ cA);have lA:=zA tA cA;have pB:(W.alloc (.cells #[.int .i64 (zb (p.s k) j),.int .i64 (zu (p.s k) j)] 61)).heap.size=W.heap.size+1:=World.size_alloc _ _;have aB:=zE (World.news_of_block (heap_alloc_last W (.cells #[.int .i64 (zb (p.s k) j),.int .i64 (zu (p.s k) j)] 61)));clear gC sB hm vB cA bB cB tA iB;go_wp2_with (first
      |(at_builtin;refine wpList_append_lies _ rfl _ _ 62 rfl (w.heap.size+2) 61 i0 (.agg #[.int .i64 0,.int .i64 0]) 2 16 (by kernel_rfl) HI.out.1 HI.out.2.1 HI.out.2.2.1 HI.out.2.2.2 rfl (by decide) (.slice sa (zDv p k xb (p.s k) j).length sc) (zDv p k xb (p.s k) j).length (pcl (zDv p k xb (p.s k) j)) rfl fA.out ⟨W.heap.size,0,none⟩ 1 1 [.int .i64 (zb (p.s k) j),.int .i64 (zu (p.s k) j)] rfl rfl aB.out (by simp[Value.oneCell']) (by decide) (by unfold maxLen;omega) (by omega) (by omega) _ rfl ?_;intro g4 dA w4 bA aA nA oA)
      |fail)
     have gB:Hid (zw w4 (w.heap.size+2) (.slice (some ⟨g4,0,none⟩) ((zDv p k xb (p.s k) j).length+1) dA) (zC5 p k xb (p.s k) j 0)):=by
      rw[zHq];exact zw.next bA
     have rA:Below w.heap.size w w4:=lA.grown aA lA.size (fun q hq=>by have:=(fA.out.lt hq).1;omega);have vA:=zE (sA.out.grownT aA (fun q hq=>by have:=(fA.out.lt hq).1;omega));have nB:w.heap.size+2<=w4.heap.size:=(by have:=aA.size;omega);clear bA aA nA oA fA sA lA aB sC vC pB;obtain⟨_,_,ha,q0,q1⟩:=(aD.out.zRJ rA).cellsT dB;simp only[Option.some.injEq,Addr.mk.injEq,and_true]at ha;obtain⟨rfl,rfl⟩:=ha;rw[<-zCy H8.out dB,Hm.out]at q0;obtain⟨r0,r1,r2,_⟩:=gD.out.zRJ rA;rw[tB.out]at r1;obtain⟨⟨x0,x1⟩,⟨x2,x3⟩⟩:=vA.out
     go_quiet (fail)
     go_wp2
     go_loopw [5,9] (fun sv i wr=>∃(i':Nat) (sa:Option Addr) (sc:Nat),i'<=8/\i = .int .i64 i'/\sv = .slice sa (zC5 p k xb (p.s k) j i').length sc/\zw wr (w.heap.size+2) sv (zC5 p k xb (p.s k) j i')/\zc wr w.heap.size (.slice (some ⟨b,off,none⟩) p.n c) (.slice a' p.hn c')/\Below w.heap.size w wr/\w.heap.size+2<=wr.heap.size) (fun _ i _=>8 - (intOf i).toNat)
     case atStart=>exact⟨0,some ⟨g4,0,none⟩,dA,Nat.zero_le _,rfl,by rw[zHq,List.length_append];rfl,gB.out.zRJ (zg (Below.refl _ _) _),vA.out.zRJ (zg (Below.refl _ _) _),zg rA _,nB⟩
     case round=>
      obtain⟨i,sa,sc,iD,rfl,rfl,kA,jA,pA,oB⟩:=hrel;have eA:=zE kA;have iA:=zE jA;have bD:=zPa p k xb (p.s k) (show j<=8 by omega) iD;clear kA jA gB vA rA x0 x1 x2 x3 q0 q1 r0 r1 r2 nB;by_cases mC:i<8
      ·have mD:(i:Int)<8:=(by omega);obtain⟨ub,rD,rfl,q0,q1⟩:=(oD.out.zRJ pA).cellsT mC;rw[<-zCy tB.out mC]at q0;rw[<-zEZ tB.out mC]at q1;go_wp2_with fail;refine(ye (zb (p.s m) i) (zu (p.s m) i) wr).mono ?_;rintro e W ⟨⟨t,rfl,ht⟩,hb⟩;have tA:=zA pA hb;have cB:=zE (iA.out.zRJ hb);have bB:=zE (eA.out.zRJ hb);have iC:w.heap.size+2<=W.heap.size:=(by have:=hb.size;omega);have sC:=(hb.cell (zD q0)).trans q0;have vC:=(hb.cell (zD q1)).trans q1;clear q0 q1 pA hb eA iA oB;by_cases gA:Nil (zb (p.s m) i) (zu (p.s m) i)
       ·have pC:=zE gA;obtain rfl:t=true:=ht.2 gA;clear ht gA;have es:zC5 p k xb (p.s k) j (i+1)=zC5 p k xb (p.s k) j i:=zOK (by rw[kC.out];exact pC.out);have lB:=zE es;clear es;go_wp2;go_roundw
        case rel=>exact⟨i+1,sa,sc,by omega,by go_num,by rw[lB.out],by rw[lB.out];exact bB.out,cB.out,tA,iC⟩
        case measure=>simp[intOf];omega
       ·have pC:=zE gA;obtain rfl:t=false:=zQ ht gA;clear ht gA;have es:zC5 p k xb (p.s k) j (i+1)=zC5 p k xb (p.s k) j i ++ [(zb (p.s m) i,zu (p.s m) i)]:=(by have:=zN0 (p:=p) (rs:=(k:Int)) (rb:=xb) (s:=p.s k) (j:=j) (i:=i) (by rw[kC.out];exact pC.out);rw[kC.out]at this;exact this);have lB:=zE es;clear es;have cA:=zC W (.cells #[.int .i64 (zb (p.s m) i),.int .i64 (zu (p.s m) i)] 61);have fA:=zE (bB.out.zRJ cA);have sA:=zE (cB.out.zRJ cA);have lA:=zA tA cA;have pB:(W.alloc (.cells #[.int .i64 (zb (p.s m) i),.int .i64 (zu (p.s m) i)] 61)).heap.size=W.heap.size+1:=World.size_alloc _ _;have aB:=zE (World.news_of_block (heap_alloc_last W (.cells #[.int .i64 (zb (p.s m) i),.int .i64 (zu (p.s m) i)] 61)));clear cA bB cB tA;go_wp2_with (first
         |(at_builtin;refine wpList_append_lies _ rfl _ _ 62 rfl (w.heap.size+2) 61 i0 (.agg #[.int .i64 0,.int .i64 0]) 2 16 (by kernel_rfl) HI.out.1 HI.out.2.1 HI.out.2.2.1 HI.out.2.2.2 rfl (by decide) (.slice sa (zC5 p k xb (p.s k) j i).length sc) (zC5 p k xb (p.s k) j i).length (pcl (zC5 p k xb (p.s k) j i)) rfl fA.out ⟨W.heap.size,0,none⟩ 1 1 [.int .i64 (zb (p.s m) i),.int .i64 (zu (p.s m) i)] rfl rfl aB.out (by simp[Value.oneCell']) (by decide) (by unfold maxLen;omega) (by omega) (by omega) _ rfl ?_;intro g4 dA w4 bA aA nA oA)
         |go_in)
        go_roundw
        case rel=>exact⟨i+1,some ⟨g4,0,none⟩,dA,by omega,by go_num,by rw[lB.out,List.length_append];rfl,by rw[lB.out];exact zw.next bA,sA.out.grownT aA (fun q hq=>by have:=(fA.out.lt hq).1;omega),lA.grown aA lA.size (fun q hq=>by have:=(fA.out.lt hq).1;omega),by have:=aA.size;omega⟩
        case measure=>simp[intOf];omega
      ·obtain rfl:i=8:=(by omega);go_wp2;go_roundw
       case rel=>exact⟨j+1,sa,sc,by omega,by go_num,by rw[zLo eB.out],by rw[zLo eB.out];exact eA.out,iA.out,pA,oB⟩
       case measure=>simp[intOf];omega
   ·obtain rfl:j=8:=(by omega);go_wp2;go_ret;exact⟨_,rfl,by rw[zOz HN.out];exact eA.out.mono (by omega),pA⟩
open Classical in
noncomputable def roomN(f:Nat->zL):Nat->Nat
 |0=>0
 |k+1=>roomN f k+(if qG (f k)then 1 else 0)
theorem zGh{f:Nat->zL}{k:Nat}(h:qG (f k)):roomN f (k+1)=roomN f k+1:=by simp[roomN,h]
theorem zF2{f:Nat->zL}{k:Nat}(h:¬qG (f k)):roomN f (k+1)=roomN f k:=by simp[roomN,h]
theorem zHk(f:Nat->zL):∀k,roomN f k<=k
 |0=>Nat.le_refl _
 |k+1=>by
  have:=zHk f k;by_cases h:qG (f k)
  ·rw[zGh h];omega
  ·rw[zF2 h];omega
open Classical in
noncomputable def zNS(p:zJ):Int:=if zv p then(roomN p.s p.n:Int)else 0
structure zEp where
 zRT:Int
 time:Int
 rs:Int
 rb:Int
 dn:Nat
 ds:Nat->Int
 db:Nat->Int
def zRE(s:zm):zEp:=⟨s.zRT,s.time,s.rs,s.rb,s.dn,s.ds,s.db⟩
def zQ5(t:Int)(s:qC):zEp:=⟨s.zRT,t,s.rs,s.rb,s.dn,s.ds,s.db⟩
def zO(W:zH)(i:Nat):zEp:=if i<W.pn then zRE (W.zRP i)else zQ5 W.time (W.zRS (i - W.pn))
def zq(W:zH):Nat:=W.pn+W.sn
theorem qT{W:zH}{i:Nat}(h:i<W.pn):zO W i=zRE (W.zRP i):=if_pos h
theorem yK(W:zH)(i:Nat):zO W (W.pn+i)=zQ5 W.time (W.zRS i):=by
 unfold zO;rw[if_neg (by omega),show W.pn+i - W.pn=i by omega]
def yP:zm:=⟨0,ByteArray.empty,ByteArray.empty,0,0,0,0,0,fun _=>0,fun _=>0⟩
open Classical in
noncomputable def zN(W:zH)(x:Int):zm:=if h:∃k,yA W x k then W.zRP h.choose else yP
theorem yB{W:zH}{x:Int}{k:Nat}(h:yA W x k):zN W x=W.zRP k:=by
 unfold zN;rw[dif_pos ⟨k,h⟩,yA.uniq (Exists.choose_spec (⟨k,h⟩:∃k,yA W x k)) h]
theorem zFE{W:zH}{x:Int}(h:∀k,k<W.pn->(W.zRP k).id≠x):zN W x=yP:=by
 unfold zN;rw[dif_neg];rintro⟨k,hk⟩;exact h k hk.1 hk.2.1
theorem zGe{W:zH}{x:Int}:∀{n:Nat},n<=W.pn->(∃k,k<n/\(W.zRP k).id=x)->∃k,yA W x k
 |0,_,⟨k,hk,_⟩=>absurd hk (Nat.not_lt_zero _)
 |n+1,hn,⟨k,hk,e⟩=>by
  by_cases h:∃j,j<n/\(W.zRP j).id=x
  ·exact zGe (by omega) h
  ·have:k=n:=by
    by_cases h':k<n
    ·exact absurd ⟨k,h',e⟩ h
    ·omega
   subst this;exact⟨k,by omega,e,fun j hj he=>h ⟨j,hj,he⟩⟩
def yU(W:zH)(m:zEp):List (Int×Int):=zT W.zRQ m.rs m.rb
noncomputable def zCp(W:zH)(m:zEp):List (Int×Int):=zT W.zRQ (zN W m.zRT).rs (zN W m.zRT).rb
def zAQ(l m:List (Int×Int)):List (Int×Int):=l.filter (fun x=>decide (x∉m))
def qQ(l m:List (Int×Int)):List (Int×Int):=l.filter (fun x=>decide (x∈m))
def zAS(l:List (Int×Int))(t:Int):List (Int×Int):=l.filter (fun x=>decide (t<x.2))
noncomputable def zFN(W:zH)(m:zEp):List (Int×Int):=zAQ (yU W m) (zCp W m)
noncomputable def yD(W:zH)(m:zEp):List (Int×Int):=zAS (yU W m) (zN W m.zRT).time
def zDW(n:Nat)(f g:Nat->Int)(l:List (Int×Int)):Prop:=zD2 n f g l.length (zf l) (zh l)
def zND(now old:List (Int×Int))(t tm:Int):Prop:=∀x,x∈now->x.2<=tm/\(x∈old↔x.2<=t)
def zJM(W:zH)(m:zEp):Prop:=zDW m.dn m.ds m.db (zAQ (zCp W m) (yU W m))/\zND (yU W m) (zCp W m) (zN W m.zRT).time m.time
def zQa(W:zH)(m:zEp):Prop:=m.rb<=m.time/\zDW (yD W m).length (zf (yD W m)) (zh (yD W m)) (zFN W m)/\zDW m.dn m.ds m.db (zAQ (zCp W m) (qQ (yU W m) (zCp W m)))
theorem zNn(l m:List (Int×Int)):zAQ m (qQ l m)=zAQ m l:=by
 unfold zAQ qQ;refine List.filter_congr fun x hx=>?_
 rw[decide_eq_decide];simp only[List.mem_filter,decide_eq_true_eq];exact⟨fun h h'=>h ⟨h',hx⟩,fun h h'=>h h'.1⟩
theorem yE{l:List (Int×Int)}{i:Nat}(h:i<l.length):l.getD i (0,0)=l[i]:=by
 rw[List.getD_eq_getElem?_getD,List.getElem?_eq_getElem h,Option.getD_some]
theorem zBQ{l:List (Int×Int)}{x y:Int}:PIn l.length (zf l) (zh l) x y↔(x,y)∈l:=by
 constructor
 ·rintro⟨j,hj,e1,e2⟩;unfold zf at e1;unfold zh at e2;rw[yE hj]at e1 e2;have:l[j]=(x,y):=Prod.ext e1 e2;exact this▸List.getElem_mem hj
 ·intro h;obtain⟨j,hj,e⟩:=List.getElem_of_mem h;exact⟨j,hj,by unfold zf;rw[yE hj,e],by unfold zh;rw[yE hj,e]⟩
structure zBH (W:zH):Prop where
 right:zv W.zRQ
 ids:∀k,k<W.pn->(W.zRP k).zRT<(W.zRP k).id
 tree:∀i,i<zq W->qF W.zRQ (zO W i).rs (zO W i).rb
 time:∀i,i<zq W->0<=(zO W i).time
theorem zAW{p:zJ}{rs rb:Int}(hR:zv p)(hT:qF p rs rb){x:Int×Int}(hx:x∈zT p rs rb):zr p x.1 x.2/\x.2<=rb/\¬Has p.hn p.h x.1:=by
 rcases(zFq hR).2 hT with hz | ⟨hP,_,hA⟩
 ·rw[zT,if_pos hz]at hx;simp at hx
 ·have:=zC1 hR hP x hx;exact⟨this.1,this.2,hA.2 x hx⟩
theorem zAd{p:zJ}{rs rb:Int}(hR:zv p)(hT:qF p rs rb):(zT p rs rb).Nodup:=by
 rcases(zFq hR).2 hT with hz | ⟨hP,_,hA⟩
 ·rw[zT,if_pos hz];exact List.nodup_nil
 ·exact hA.1
theorem zBH.old{W:zH}(h:zBH W)(x:Int):qF W.zRQ (zN W x).rs (zN W x).rb:=by
 by_cases hx:∃k,yA W x k
 ·obtain⟨k,hk⟩:=hx;rw[yB hk];have:=h.tree k (by unfold zq;have:=hk.1;omega);rw[qT hk.1]at this;exact this
 ·have:zN W x=yP:=by
   unfold zN;rw[dif_neg hx]
  rw[this];exact Or.inl ⟨rfl,rfl⟩
theorem zOb{p:zJ}{x y:Int}(hR:zv p)(h:zr p x y):zE0 x y:=by
 have hf:=qV hR h;have h1:=hR.1;obtain⟨a,b,c,d⟩:=h;have:=hf.1.2;exact⟨b,by omega,a,by omega⟩
theorem zBL{p:zJ}(hR:zv p){l:List (Int×Int)}(h:∀x,x∈l->zr p x.1 x.2)(hn:l.Nodup)(hl:l.length<=200):qx l.length (zf l) (zh l):=by
 have hs:=(zGX h).2 hn;refine⟨hl,fun i hi=>?_,fun i hi k hk=>?_⟩
 ·unfold zf zh;rw[yE hi];exact zOb hR (h _ (List.getElem_mem hi))
 ·unfold zf;rw[yE hi,yE (show k<l.length by omega)];unfold yI List.Nodup at hs;rw[List.pairwise_map]at hs;exact List.pairwise_iff_getElem.1 hs k i (by omega) hi hk
theorem zKZ{p:zJ}(hR:zv p){T:List (Int×Int)}(hT:∀x,x∈T->zr p x.1 x.2)(hn:T.Nodup)(hl:T.length<=200)(P Q:Int×Int->Bool) :
  zDW (T.filter P).length (zf (T.filter P)) (zh (T.filter P)) (T.filter Q)↔∀x,x∈T->P x=Q x:=by
 constructor
 ·rintro⟨_,_,aA,cA⟩;have h1:∀x,x∈T->P x=true->Q x=true:=fun x hx hp=>by
   have hm:x∈T.filter P:=List.mem_filter.2 ⟨hx,hp⟩;obtain⟨j,hj,e⟩:=List.getElem_of_mem hm;have:=cA j hj;rw[zBQ]at this;unfold zf zh at this;rw[yE hj,e]at this;exact(List.mem_filter.1 this).2
  have h2:(T.filter Q).filter P=T.filter P:=by
   rw[List.filter_filter];refine List.filter_congr fun x hx=>?_
   cases hp:P x
   ·rfl
   ·rw[h1 x hx hp];rfl
  have h3:((T.filter Q).filter P).length=(T.filter Q).length:=(by rw[h2,aA]);rw[List.length_filter_eq_length_iff]at h3;intro x hx;cases hq:Q x
  ·cases hp:P x
   ·rfl
   ·rw[h1 x hx hp]at hq;exact absurd hq (by simp)
  ·exact h3 x (List.mem_filter.2 ⟨hx,hq⟩)
 ·intro h;have e:T.filter P=T.filter Q:=List.filter_congr h;rw[e];have bA:qx (T.filter Q).length (zf (T.filter Q)) (zh (T.filter Q)):=zBL hR (fun x hx=>hT x (List.mem_filter.1 hx).1) (hn.filter _) (Nat.le_trans (List.length_filter_le _ _) hl);exact⟨bA,bA,rfl,fun i hi=>⟨i,hi,rfl,rfl⟩⟩
theorem zIb{W:zH}(h:zBH W){i:Nat}(hi:i<zq W):zQa W (zO W i)↔zJM W (zO W i):=by
 generalize hm:zO W i=m;have hT:=h.tree i hi;have dA:=h.time i hi;rw[hm]at hT dA;have bA:(yU W m).length<=200:=by have:=qN W.zRQ m.rs m.rb;unfold yU;omega
 have fA:∀x,x∈yU W m->zr W.zRQ x.1 x.2:=fun x hx=>(zAW h.right hT hx).1
 unfold zQa zJM;rw[zNn];have key:zDW (yD W m).length (zf (yD W m)) (zh (yD W m)) (zFN W m)↔∀x,x∈yU W m->(x∈zCp W m↔x.2<=(zN W m.zRT).time):=by
  unfold yD zFN zAS zAQ;rw[zKZ h.right fA (zAd h.right hT) bA];refine⟨fun hh x hx=>?_,fun hh x hx=>?_⟩
  ·have:=hh x hx;rw[decide_eq_decide]at this;constructor
   ·intro aA;by_cases eA:(zN W m.zRT).time<x.2
    ·exact absurd aA (this.1 eA)
    ·omega
   ·intro cA;by_cases aA:x∈zCp W m
    ·exact aA
    ·have:=this.2 aA;omega
  ·rw[decide_eq_decide];have:=hh x hx;constructor
   ·intro eA aA;have:=this.1 aA;omega
   ·intro aA;by_cases cA:x.2<=(zN W m.zRT).time
    ·exact absurd (this.2 cA) aA
    ·omega
 rw[key];constructor
 ·rintro⟨h1,h2,h3⟩;exact⟨h3,fun x hx=>⟨by have:=(zAW h.right hT hx).2.1;omega,h2 x hx⟩⟩
 ·rintro⟨h1,h2⟩;refine⟨?_,fun x hx=>(h2 x hx).2,h1⟩;by_cases hz:Nil m.rs m.rb
  ·rw[hz.2];exact dA
  ·have hr:(m.rs,m.rb)∈yU W m:=(by unfold yU zT;rw[if_neg hz];simp);exact(h2 _ hr).1
theorem zOI{W:zH}{m:zEp}(hS:zJM W m):yD W m=zFN W m:=by
 unfold yD zFN zAS zAQ;refine List.filter_congr fun x hx=>?_
 rw[decide_eq_decide];have:=(hS.2 x hx).2;constructor
 ·intro h1 h2;have:=this.1 h2;omega
 ·intro h1;by_cases h2:x.2<=(zN W m.zRT).time
  ·exact absurd (this.2 h2) h1
  ·omega
open Classical in
noncomputable def cnt(P:Nat->Prop):Nat->Nat
 |0=>0
 |k+1=>cnt P k+(if P k then 1 else 0)
theorem zCM{P Q:Nat->Prop}:∀{n:Nat},(∀i,i<n->(P i↔Q i))->cnt P n=cnt Q n
 |0,_=>rfl
 |n+1,h=>by
  unfold cnt;rw[zCM (fun i hi=>h i (by omega))];by_cases hp:P n
  ·rw[if_pos hp,if_pos ((h n (by omega)).1 hp)]
  ·rw[if_neg hp,if_neg (fun hq=>hp ((h n (by omega)).2 hq))]
theorem zPw{P Q:Nat->Prop}:∀{n:Nat},(∀i,i<n->P i->Q i)->cnt P n<=cnt Q n
 |0,_=>Nat.le_refl _
 |n+1,h=>by
  unfold cnt;have:=zPw (n:=n) (fun i hi=>h i (by omega));by_cases hp:P n
  ·rw[if_pos hp,if_pos (h n (by omega) hp)];omega
  ·rw[if_neg hp];omega
theorem zHd{P Q:Nat->Prop}:∀{n:Nat},(∀i,i<n->P i->Q i)->(cnt P n=cnt Q n↔∀i,i<n->(P i↔Q i))
 |0,_=>⟨fun _ i hi=>absurd hi (Nat.not_lt_zero _),fun _=>rfl⟩
 |n+1,h=>by
  refine⟨fun e=>?_,fun e=>zCM e⟩;have aA:=zPw (n:=n) (fun i hi=>h i (by omega));have ih:=zHd (n:=n) (fun i hi=>h i (by omega));unfold cnt at e;have hn:P n↔Q n:=by
   refine⟨h n (by omega),fun hq=>?_⟩;by_cases hp:P n
   ·exact hp
   ·rw[if_neg hp,if_pos hq]at e;omega
  have e':cnt P n=cnt Q n:=by
   by_cases hp:P n
   ·rw[if_pos hp,if_pos (hn.1 hp)]at e;omega
   ·rw[if_neg hp,if_neg (fun hq=>hp (hn.2 hq))]at e;omega
  intro i hi;by_cases e2:i=n
  ·subst e2;exact hn
  ·exact ih.1 e' i (by omega)
theorem zMq{P Q:Nat->Prop}:∀{n:Nat},(∀i,i<n->P i->¬Q i)->cnt (fun i=>P i\/Q i) n=cnt P n+cnt Q n
 |0,_=>rfl
 |n+1,h=>by
  unfold cnt;rw[zMq (fun i hi=>h i (by omega))];by_cases hp:P n
  ·rw[if_pos (Or.inl hp),if_pos hp,if_neg (h n (by omega) hp)];omega
  ·by_cases hq:Q n
   ·rw[if_pos (Or.inr hq),if_neg hp,if_pos hq];omega
   ·rw[if_neg (fun h=>h.elim hp hq),if_neg hp,if_neg hq];omega
theorem zNM(P:Nat->Prop):∀n,cnt P n+cnt (fun i=>¬P i) n=n
 |0=>rfl
 |n+1=>by
  have:=zNM P n;unfold cnt;by_cases hp:P n
  ·rw[if_pos hp,if_neg (fun h=>h hp)];omega
  ·rw[if_neg hp,if_pos hp];omega
theorem zH0{P:Nat->Prop}:∀{n:Nat},(∀i,i<n->¬P i)->cnt P n=0
 |0,_=>rfl
 |n+1,h=>by
  unfold cnt;rw[zH0 (fun i hi=>h i (by omega)),if_neg (h n (by omega))]
theorem zNP:∀{n a:Nat},a<n->cnt (fun i=>i=a) n=1
 |0,a,h=>absurd h (Nat.not_lt_zero _)
 |n+1,a,h=>by
  unfold cnt;by_cases e:n=a
  ·subst e;rw[if_pos rfl,zH0 (fun i hi=>by omega)]
  ·rw[if_neg e,zNP (by omega)]
theorem zGA{n:Nat}:∀{l:List Nat},l.Nodup->(∀x,x∈l->x<n)->cnt (fun i=>i∈l) n=l.length
 |[],_,_=>zH0 (fun i hi=>by simp)
 |a :: l,hn,hl=>by
  obtain⟨h1,h2⟩:=List.nodup_cons.1 hn;have e1:cnt (fun i=>i∈a :: l) n=cnt (fun i=>i=a\/i∈l) n:=zCM (fun i _=>List.mem_cons);have e2:cnt (fun i=>i=a\/i∈l) n=cnt (fun i=>i=a) n+cnt (fun i=>i∈l) n:=zMq (fun i _ (e:i=a) hi=>h1 (e▸hi));rw[e1,e2,zNP (hl a (by simp)),zGA h2 (fun x hx=>hl x (by simp[hx])),List.length_cons];omega
theorem zLU(f:Nat->zL):∀n,roomN f n=cnt (fun i=>qG (f i)) n
 |0=>rfl
 |n+1=>by unfold roomN cnt;rw[zLU f n]
theorem zO7{p:zJ}(hR:zv p):cnt (fun i=>Has p.hn p.h i) p.n=p.hn:=by
 have h:=hR.2.2;have hl:∀x,x∈(List.range p.hn).map (fun j=>(p.h j).toNat)->x<p.n:=by
  intro x hx;obtain⟨j,hj,rfl⟩:=List.mem_map.1 hx;have:=h j (List.mem_range.1 hj);have h1:=this.1;have h2:=this.2.1;omega
 have hn:((List.range p.hn).map (fun j=>(p.h j).toNat)).Nodup:=by
  unfold List.Nodup;rw[List.pairwise_map];refine List.Pairwise.imp_of_mem ?_ (List.pairwise_lt_range);intro a b ha hb aA e;have h1:=h a (List.mem_range.1 ha);have h2:=h b (List.mem_range.1 hb);have:=h1.1;have:=h2.1;exact h2.2.2.2 ⟨a,aA,by omega⟩
 have:=zGA hn hl;rw[List.length_map,List.length_range]at this;refine Eq.trans (zCM (fun i hi=>?_)) this;constructor
 ·rintro⟨j,hj,e⟩;exact List.mem_map.2 ⟨j,List.mem_range.2 hj,by rw[e];simp⟩
 ·intro hx;obtain⟨j,hj,e⟩:=List.mem_map.1 hx;have:=(h j (List.mem_range.1 hj)).1;exact⟨j,List.mem_range.1 hj,by omega⟩
theorem zLi{p:zJ}(hR:zv p):cnt (fun i=>¬qG (p.s i)/\¬Has p.hn p.h i) p.n+roomN p.s p.n+p.hn=p.n:=by
 have h1:=zNM (fun i=>qG (p.s i)\/Has p.hn p.h i) p.n;have h2:cnt (fun i=>qG (p.s i)\/Has p.hn p.h i) p.n=cnt (fun i=>qG (p.s i)) p.n+cnt (fun i=>Has p.hn p.h i) p.n:=zMq (fun i hi hf=>by
  rintro⟨j,hj,e⟩;have:=(hR.2.2 j hj).2.2.1;rw[e]at this;simp only[Int.toNat_natCast]at this;exact this hf)
 rw[zO7 hR,<-zLU]at h2;have h3:cnt (fun i=>¬(qG (p.s i)\/Has p.hn p.h i)) p.n=cnt (fun i=>¬qG (p.s i)/\¬Has p.hn p.h i) p.n:=zCM (fun i _=>not_or);omega
def zEc(W:zH):Prop:=∀i,i<W.zRQ.n->((∃m,m<zq W/\∃b,((i:Int),b)∈yU W (zO W m))↔(¬qG (W.zRQ.s i)/\¬Has W.zRQ.hn W.zRQ.h i))
def zGW(W:zH):Prop:=∀i,i<zq W->∀j,j<i->∀x,x∈zFN W (zO W i)->∀y,y∈zFN W (zO W j)->x.1≠y.1
noncomputable def zn(W:zH):Nat->List (Int×Int)
 |0=>[]
 |k+1=>zn W k ++ yD W (zO W k)
def zFe(W:zH):Prop:=(zn W (zq W)).Nodup/\(zn W (zq W)).length+roomN W.zRQ.s W.zRQ.n+W.zRQ.hn=W.zRQ.n
theorem zDF{W:zH}{x:Int×Int}:∀{k:Nat},x∈zn W k↔∃i,i<k/\x∈yD W (zO W i)
 |0=>by simp[zn]
 |k+1=>by
  unfold zn;rw[List.mem_append,zDF];constructor
  ·rintro(⟨i,hi,h⟩ | h)
   ·exact⟨i,by omega,h⟩
   ·exact⟨k,by omega,h⟩
  ·rintro⟨i,hi,h⟩;by_cases e:i=k
   ·subst e;exact Or.inr h
   ·exact Or.inl ⟨i,by omega,h⟩
theorem zGz{W:zH}:∀{k:Nat},(∀i,i<k->(yD W (zO W i)).Nodup)->((zn W k).Nodup↔∀i,i<k->∀j,j<i->∀x,x∈yD W (zO W i)->x∉yD W (zO W j))
 |0,_=>⟨fun _ i hi=>absurd hi (Nat.not_lt_zero _),fun _=>List.nodup_nil⟩
 |k+1,hy=>by
  unfold zn;rw[List.nodup_append,zGz (fun i hi=>hy i (by omega))];constructor
  ·rintro⟨h1,h2,h3⟩ i hi j hj x hx aA;by_cases e:i=k
   ·subst e;exact h3 x (zDF.2 ⟨j,hj,aA⟩) x hx rfl
   ·exact h1 i (by omega) j hj x hx aA
  ·intro h;refine⟨fun i hi=>h i (by omega),hy k (by omega),fun x hx y bA e=>?_⟩;subst e;obtain⟨i,hi,hx⟩:=zDF.1 hx;exact h k (by omega) i hi x bA hx
theorem zK1{W:zH}(h:zBH W){x:Int×Int}:∀(N:Nat) (k:Nat),k<W.pn->(W.zRP k).id<N->0<=(W.zRP k).id->(∀j,j<W.pn->0<=(W.zRP j).id)->x∈yU W (zO W k)->∃i,i<zq W/\x∈zFN W (zO W i)
 |0,k,hk,h1,h2,_,_=>by omega
 |N+1,k,hk,h1,h2,h0,hx=>by
  by_cases ho:x∈zCp W (zO W k)
  ·have bA:∃j,yA W (zO W k).zRT j:=by
    refine Classical.byContradiction fun aA=>?_
    have:zN W (zO W k).zRT=yP:=(by unfold zN;rw[dif_neg aA]);unfold zCp at ho;rw[this,zT,if_pos ⟨rfl,rfl⟩]at ho;simp at ho
   obtain⟨j,hj⟩:=bA;unfold zCp at ho;rw[yB hj]at ho;have e1:(zO W k).zRT=(W.zRP k).zRT:=(by rw[qT hk];rfl);have:=h.ids k hk;have:=hj.2.1;exact zK1 h N j hj.1 (by omega) (h0 j hj.1) h0 (by rw[qT hj.1];exact ho)
  ·exact⟨k,by unfold zq;omega,List.mem_filter.2 ⟨hx,by simpa using ho⟩⟩
theorem zOm{W:zH}(h:zBH W)(h0:∀j,j<W.pn->0<=(W.zRP j).id){x:Int×Int}{m:Nat}(hm:m<zq W)(hx:x∈yU W (zO W m)):∃i,i<zq W/\x∈zFN W (zO W i):=by
 by_cases ho:x∈zCp W (zO W m)
 ·have bA:∃j,yA W (zO W m).zRT j:=by
   refine Classical.byContradiction fun aA=>?_
   have:zN W (zO W m).zRT=yP:=(by unfold zN;rw[dif_neg aA]);unfold zCp at ho;rw[this,zT,if_pos ⟨rfl,rfl⟩]at ho;simp at ho
  obtain⟨j,hj⟩:=bA;unfold zCp at ho;rw[yB hj]at ho;have:=h0 j hj.1;exact zK1 h ((W.zRP j).id.toNat+1) j hj.1 (by omega) (h0 j hj.1) h0 (by rw[qT hj.1];exact ho)
 ·exact⟨m,hm,List.mem_filter.2 ⟨hx,by simpa using ho⟩⟩
theorem zJC{W:zH}(h:zBH W)(h0:∀j,j<W.pn->0<=(W.zRP j).id)(hM:∀i,i<zq W->zJM W (zO W i)):zFe W↔zEc W/\zGW W:=by
 have hy:∀i,i<zq W->yD W (zO W i)=zFN W (zO W i):=fun i hi=>zOI (hM i hi)
 have rA:∀i,i<zq W->(yD W (zO W i)).Nodup:=fun i hi=>(zAd h.right (h.tree i hi)).filter _
 have lA:∀i,i<zq W->∀x,x∈zFN W (zO W i)->x∈yU W (zO W i):=fun i _ x hx=>(List.mem_filter.1 hx).1
 have gA:∀i,i<zq W->∀x,x∈yU W (zO W i)->zr W.zRQ x.1 x.2/\¬Has W.zRQ.hn W.zRQ.h x.1:=fun i hi x hx=>⟨(zAW h.right (h.tree i hi) hx).1,(zAW h.right (h.tree i hi) hx).2.2⟩
 have fA:∀x y:Int×Int,zr W.zRQ x.1 x.2->zr W.zRQ y.1 y.2->x.1=y.1->x=y:=fun x y hx eA e=>by
  have a1:=hx.2.2.2;have a2:=eA.2.2.2;rw[e]at a1;exact Prod.ext e (a1.symm.trans a2)
 have hA:(zn W (zq W)).Nodup↔zGW W:=by
  rw[zGz rA];unfold zGW;constructor
  ·intro hh i hi j hj x hx y eA e;have oA:=fA x y (gA i hi x (lA i hi x hx)).1 (gA j (by omega) y (lA j (by omega) y eA)).1 e;subst oA;exact hh i hi j hj x (by rw[hy i hi];exact hx) (by rw[hy j (by omega)];exact eA)
  ·intro hh i hi j hj x hx tA;exact hh i hi j hj x (by rw[<-hy i hi];exact hx) x (by rw[<-hy j (by omega)];exact tA) rfl
 have aA:∀x,x∈zn W (zq W)↔∃m,m<zq W/\x∈yU W (zO W m):=fun x=>by
  rw[zDF];constructor
  ·rintro⟨i,hi,hx⟩;rw[hy i hi]at hx;exact⟨i,hi,lA i hi x hx⟩
  ·rintro⟨m,hm,hx⟩;obtain⟨i,hi,hx⟩:=zOm h h0 hm hx;exact⟨i,hi,by rw[hy i hi];exact hx⟩
 unfold zFe;rw[hA];constructor
 ·rintro⟨ha,sA⟩;refine⟨?_,ha⟩;have bA:=hA.2 ha;have dA:∀x,x∈zn W (zq W)->zr W.zRQ x.1 x.2:=fun x hx=>by
   obtain⟨m,hm,hx⟩:=(aA x).1 hx;exact(gA m hm x hx).1
  have hl:∀x,x∈(zn W (zq W)).map (fun x=>x.1.toNat)->x<W.zRQ.n:=by
   intro x hx;obtain⟨y,eA,rfl⟩:=List.mem_map.1 hx;have:=dA y eA;have h1:=this.2.1;have h2:=this.2.2.1;omega
  have iA:((zn W (zq W)).map (fun x=>x.1.toNat)).Nodup:=by
   unfold List.Nodup;rw[List.pairwise_map];refine List.Pairwise.imp_of_mem ?_ bA;intro a b nA kA mA e;have p1:=dA a nA;have p2:=dA b kA;have:=p1.2.1;have:=p2.2.1;exact mA (fA a b p1 p2 (by omega))
  have hc:=zGA iA hl;rw[List.length_map]at hc;have hr:=zLi h.right;have cA:∀i,i<W.zRQ.n->(i∈(zn W (zq W)).map (fun x=>x.1.toNat)↔∃m,m<zq W/\∃b,((i:Int),b)∈yU W (zO W m)):=by
   intro i hi;rw[List.mem_map];constructor
   ·rintro⟨x,hx,e⟩;have:=(dA x hx).2.1;obtain⟨m,hm,hx⟩:=(aA x).1 hx;exact⟨m,hm,x.2,by rw[show(i:Int)=x.1 by omega];exact hx⟩
   ·rintro⟨m,hm,b,hx⟩;exact⟨(i,b),(aA _).2 ⟨m,hm,hx⟩,by simp⟩
  have jA:∀i,i<W.zRQ.n->i∈(zn W (zq W)).map (fun x=>x.1.toNat)->¬qG (W.zRQ.s i)/\¬Has W.zRQ.hn W.zRQ.h i:=by
   intro i hi hx;obtain⟨m,hm,b,hx⟩:=(cA i hi).1 hx;have:=gA m hm _ hx;refine⟨fun hf=>?_,this.2⟩;have h1:=this.1.1;have h2:=this.1.2.2.2;simp only[Int.toNat_natCast]at h2;rw[hf.1]at h2;simp only at h1 h2;omega
  have:=(zHd jA).1 (by rw[hc];omega);intro i hi;rw[<-cA i hi];exact this i hi
 ·rintro⟨pA,ha⟩;refine⟨ha,?_⟩;have bA:=hA.2 ha;have dA:∀x,x∈zn W (zq W)->zr W.zRQ x.1 x.2:=fun x hx=>by
   obtain⟨m,hm,hx⟩:=(aA x).1 hx;exact(gA m hm x hx).1
  have hl:∀x,x∈(zn W (zq W)).map (fun x=>x.1.toNat)->x<W.zRQ.n:=by
   intro x hx;obtain⟨y,eA,rfl⟩:=List.mem_map.1 hx;have:=dA y eA;have h1:=this.2.1;have h2:=this.2.2.1;omega
  have iA:((zn W (zq W)).map (fun x=>x.1.toNat)).Nodup:=by
   unfold List.Nodup;rw[List.pairwise_map];refine List.Pairwise.imp_of_mem ?_ bA;intro a b nA kA mA e;have p1:=dA a nA;have p2:=dA b kA;have:=p1.2.1;have:=p2.2.1;exact mA (fA a b p1 p2 (by omega))
  have hc:=zGA iA hl;rw[List.length_map]at hc;have hr:=zLi h.right;have cA:∀i,i<W.zRQ.n->(i∈(zn W (zq W)).map (fun x=>x.1.toNat)↔∃m,m<zq W/\∃b,((i:Int),b)∈yU W (zO W m)):=by
   intro i hi;rw[List.mem_map];constructor
   ·rintro⟨x,hx,e⟩;have:=(dA x hx).2.1;obtain⟨m,hm,hx⟩:=(aA x).1 hx;exact⟨m,hm,x.2,by rw[show(i:Int)=x.1 by omega];exact hx⟩
   ·rintro⟨m,hm,b,hx⟩;exact⟨(i,b),(aA _).2 ⟨m,hm,hx⟩,by simp⟩
  have:=zCM (P:=fun i=>i∈(zn W (zq W)).map (fun x=>x.1.toNat)) (Q:=fun i=>¬qG (W.zRQ.s i)/\¬Has W.zRQ.hn W.zRQ.h i) (n:=W.zRQ.n) (fun i hi=>(cA i hi).trans (pA i hi));omega
end Go.Proofs.YtmgeglgboadfiaaGreatDoor
