/- What spec.l02Right and spec.TreeRight answer. -/
import Derived.Test.YtmgeglgboadfiaaGreatDoorT4
set_option linter.unusedVariables false
set_option maxRecDepth 20000
set_option maxHeartbeats 4000000
namespace Go.Proofs.YtmgeglgboadfiaaGreatDoor
open Go.RowKit
theorem zO5:(Tryz.prog.info? 2).map (fun i=>(i.zero,i.size,i.bytes))=some (some (.int .i64 0),1,8):=by kernel_rfl
def zFo(w:World)(base:Nat)(v:Value)(l:List Int):Prop:=w.ownsRow base 2 1 v l.length (icl l)
theorem zFo.zRJ{w w1:World}{base:Nat}{v:Value}{l:List Int}(h:zFo w base v l)(hb:Below w.heap.size w w1):zFo w1 base v l:=
 World.ownsRow.kept h (yu hb none) (by cases v.ownBlock<;>simp)
theorem zFo.next{w2:World}{base g aA:Nat}{l:List Int}{x:Int}(h:w2.ownsRow base 2 1 (.slice (some ⟨g,0,none⟩) (l.length+1) aA) (l.length+1) (icl l ++ [.int .i64 x])):zFo w2 base (.slice (some ⟨g,0,none⟩) (l.length+1) aA) (l ++ [x]):=by
 unfold zFo;rw[zMO,List.length_append];exact h
theorem zFo.lt{w:World}{base:Nat}{v:Value}{l:List Int}(h:zFo w base v l){q:Nat}(hq:v.ownBlock=some q):base<=q:=by
 rcases h.2 with⟨rfl,_⟩ | ⟨g,bA,aA,rfl,hb,hg,_⟩
 ·simp[Value.ownBlock]at hq
 ·simp only[Value.ownBlock,Option.some.injEq]at hq;subst hq;exact hb
theorem zc.grownT{w w1:World}{b:Nat}{x y:Value}{row:Option Nat}(h:zc w b x y)(hg:w.grownBy w1 row)(aA:∀q,row=some q->b<q):zc w1 b x y:=
 h.zRR (S:=fun k=>row=some k) ⟨hg.os,hg.tape,hg.output,hg.size,fun k hk aA=>hg.block k hk (fun e=>aA e.symm)⟩ (fun e=>by have:=aA b e;omega)
theorem zCD(v0 v1:Value)(lo hi:Nat)(p:zJ)(xs xb:Int)(w:World)(h1:zy w lo hi v0 v1 p)(hR:zv p) :
  Calls Tryz.prog 71 #[.agg #[v0,v1],.agg #[.int .i64 xs,.int .i64 xb]] w fun e w'=>zG (qG p xs xb) e/\Below w.heap.size w w':=by
 have Hp:=zE h1;have HR:=zE hR;obtain⟨a,c,a',c',rfl,rfl⟩:∃a c a' c',v0 = .slice a p.n c/\v1 = .slice a' p.hn c':=by
  obtain⟨⟨_,a,c,h1,_⟩,⟨_,a',c',h3,_⟩⟩:=h1;exact⟨a,c,a',c',h1,h3⟩
 clear h1 hR;have iE:=zBq w (.slice a p.n c) (.slice a' p.hn c') (.int .i64 xs) (.int .i64 xb) 33 61;obtain⟨i0,kE,gD⟩:=Option.map_eq_some_iff.1 zO5;simp only[Prod.mk.injEq]at gD;have HI:=zE (And.intro kE gD);clear kE gD;go_enter Tryz.func71,Tryz.ntmps71;go_wp2_with fail;generalize (w.alloc (.cells #[.slice a p.n c,.slice a' p.hn c'] 33)).alloc (.cells #[.int .i64 xs,.int .i64 xb] 61)=W at iE ⊢;obtain⟨hB,hX,eA,hz⟩:=iE;refine(yf xs xb W).mono ?_;rintro e w1 ⟨⟨t,rfl,ht⟩,gC⟩;have iD:=zE (hB.zRJ gC);have cD:=zE (hX.zRJ gC);have aD:=zA eA gC;have jF:=gC.size;clear hB hX eA gC;by_cases hn:Nil xs xb
 ·have HN:=zE hn;obtain rfl:t=true:=ht.2 hn;clear ht hn;go_wp2;go_ret;exact⟨zG.yes (Or.inl HN.out),aD⟩
 ·have HN:=zE hn;obtain rfl:t=false:=zQ ht hn;clear ht hn;obtain⟨⟨x0,x1⟩,⟨x2,x3⟩⟩:=iD.out;obtain⟨⟨y0,y1⟩,⟨y2,y3⟩⟩:=cD.out;go_wp2_with fail;refine(zCz _ _ lo hi p xs xb _ (Hp.out.zRJ aD)).mono ?_;rintro e w2 ⟨⟨t,rfl,ht⟩,dC⟩;have dD:=zE (iD.out.zRJ dC);have mD:=zE (cD.out.zRJ dC);have tD:=zA aD dC;have fF:w.heap.size+2<=w2.heap.size:=(by have:=dC.size;omega);clear dC aD iD cD x0 x1 x2 x3 y0 y1 y2 y3 hz jF;by_cases eB:zAy p xs xb
  ·have vD:=zE eB;obtain rfl:t=true:=ht.2 eB;have Hf:=zE (qU HR.out eB.1);have h8:(p.s xs.toNat).kn=8:=by rcases zDC HR.out eB.1 with h | h;(have:=eB.2.1;omega);exact h
   obtain⟨k,rfl⟩:=Int.eq_ofNat_of_zero_le eB.1.2.1;have hk:k<p.n:=(by have:=eB.1.2.2.1;omega);have lF:(k:Int)<(p.n:Int):=(by omega);rw[Int.toNat_natCast]at Hf h8;have H8:=zE h8;clear ht eB;obtain⟨b,off,ka,kc,rfl,rD⟩:=Hp.out.1.cells hk;have eE:Hid (zU w lo hi (.slice ka 8 kc) 8 (p.s k).ks (p.s k).kb):=(by have:=rD.slot.2.1;rw[h8]at this;exact this);obtain⟨q0,q1,q2,_⟩:=rD.zRJ tD;rw[h8]at q1;clear h8 rD;obtain⟨⟨x0,x1⟩,⟨x2,x3⟩⟩:=dD.out;obtain⟨⟨y0,y1⟩,⟨y2,y3⟩⟩:=mD.out;have iA:=zC w2 (.cells #[.int .i64 (k:Int)] 2);have fE:=zE (show zFo (w2.alloc (.cells #[.int .i64 (k:Int)] 2)) (w.heap.size+2) (.slice (some ⟨w2.heap.size,0,none⟩) 1 1) (zAJ p k (p.s k) 0)from World.ownsRow_lit (e:=2) (size:=1) w2 #[.int .i64 (k:Int)] 1 fF (by unfold maxLen;omega) rfl);have sD:=zE (dD.out.zRJ iA);have lE:=zA tD iA;have c0:=(iA.cell (zD q0)).trans q0;have c1:=(iA.cell (zD q1)).trans q1;obtain⟨⟨z0,z1⟩,⟨z2,z3⟩⟩:=sD.out;obtain⟨⟨z4,z5⟩,⟨z6,z7⟩⟩:=mD.out.zRJ iA;clear iA;go_wp2
   go_loopw [5,6,8] (fun sv nv i wr=>∃(j m:Nat) (sa:Option Addr) (sc:Nat),j<=8/\i = .int .i64 j/\nv = .int .i64 m/\m<=j/\(0<m↔∃i,i<j/\¬Nil (zb (p.s k) i) (zu (p.s k) i))/\sv = .slice sa (zAJ p k (p.s k) j).length sc/\zFo wr (w.heap.size+2) sv (zAJ p k (p.s k) j)/\(∀i,i<j->zQb p (p.s k) i)/\(zAJ p k (p.s k) j).Nodup/\zc wr w.heap.size (.slice (some ⟨b,off,none⟩) p.n c) (.slice a' p.hn c')/\Below w.heap.size w wr/\w.heap.size+2<=wr.heap.size) (fun _ _ i _=>8 - (intOf i).toNat)
   case atStart=>exact⟨0,0,_,_,Nat.zero_le _,rfl,rfl,Nat.le_refl _,⟨fun h=>absurd h (Nat.lt_irrefl _),fun ⟨i,hi,_⟩=>absurd hi (Nat.not_lt_zero _)⟩,rfl,fE.out,fun i hi=>absurd hi (Nat.not_lt_zero _),by simp[zAJ,zAv,yK],sD.out,lE,by rw[World.size_alloc];omega⟩
   case round=>
    obtain⟨j,m0,sa,sc,hj,rfl,rfl,nF,mC,rfl,tA,fC,aB,vA,fB,tC⟩:=hrel;have cC:=zE mC;have oA:=zE tA;have oB:=zE fC;have mB:=zE aB;have nA:=zE vA;have dF:=zL7 p k (p.s k) hj;clear mC tA fC aB vA fE sD lE c0 c1 z0 z1 z2 z3 z4 z5 z6 z7 x0 x1 x2 x3 y0 y1 y2 y3 q0 q1 q2 dD mD;by_cases rA:j<8
    ·have cF:(j:Int)<8:=(by omega);obtain⟨tb,rB,rfl,q0,q1⟩:=(eE.out.zRJ fB).cellsT rA;rw[<-zCu H8.out rA]at q0;rw[<-zEb H8.out rA]at q1;go_wp2_with fail;refine(yf (zb (p.s k) j) (zu (p.s k) j) wr).mono ?_;rintro e W ⟨⟨t,rfl,ht⟩,hb⟩;have dA:=zA fB hb;have jA:=zE (nA.out.zRJ hb);have cB:=zE (oA.out.zRJ hb);have kD:w.heap.size+2<=W.heap.size:=(by have:=hb.size;omega);have kC:=(hb.cell (zD q0)).trans q0;have eC:=(hb.cell (zD q1)).trans q1;clear q0 q1 fB hb oA nA tC;have q0:=kC;have q1:=eC;clear kC eC;by_cases mA:Nil (zb (p.s k) j) (zu (p.s k) j)
     ·have kA:=zE mA;obtain rfl:t=true:=ht.2 mA;clear ht mA;go_wp2;go_roundw
      case rel=>
       refine⟨j+1,m0,sa,sc,by omega,by go_num,rfl,by omega,?_,by rw[zGS kA.out],by rw[zGS kA.out];exact cB.out,zo rA oB.out (Or.inl kA.out),by rw[zGS kA.out];exact mB.out,jA.out,dA,kD⟩;exact cC.out.trans ⟨fun ⟨i,hi,h⟩=>⟨i,by omega,h⟩,fun ⟨i,hi,h⟩=>by
        by_cases e:i=j
        ·subst e;exact absurd kA.out h
        ·exact⟨i,by omega,h⟩⟩
      case measure=>simp[intOf];omega
     ·have kA:=zE mA;obtain rfl:t=false:=zQ ht mA;clear ht mA;have fA:=zE (show(zAJ p k (p.s k) j).length<=maxLen by unfold maxLen;omega);obtain⟨⟨x0,x1⟩,⟨x2,x3⟩⟩:=jA.out;by_cases oC:zAy p (zb (p.s k) j) (zu (p.s k) j)
      ·have gB:=zE oC;clear oC;by_cases sC:zb (p.s k) j∈zAJ p k (p.s k) j
       ·have lC:=zE sC;clear sC;go_wp2_with fail;refine wp_region_held_drew (S:=(fun w'=>w'.cell? ⟨w.heap.size,0,none⟩=some (.slice (some ⟨b,off,none⟩) p.n c)/\w'.cell? ⟨w.heap.size,1,none⟩=some (.slice a' p.hn c')/\w'.cell? ⟨tb,rB+j*2,none⟩=some (.int .i64 (zb (p.s k) j))/\w'.cell? ⟨tb,rB+j*2+1,none⟩=some (.int .i64 (zu (p.s k) j)))) (by kernel_rfl) ?_ (fun hHeld=>?_)
        ·(try dsimp only)
         go_keep
        refine tk 0 (h:=tk 1 (h:=tk 2 (h:=tk 3 (h:=tk 4 (h:=?_)))));refine rd [5] (rc (fun K hK=>?_) .nil);go_simp;go_at_call 139;refine(zCz _ _ lo hi p (zb (p.s k) j) (zu (p.s k) j) _ ?_).mono ?_
        ·first | exact Hp.out.zRJ dA | exact Hp.out.zRJ dA.drew
        rintro e wa ⟨⟨ta,rfl,gA⟩,eA⟩;obtain rfl:ta=true:=gA.2 gB.out;clear gA;have aA:Below W.heap.size W wa:=(by first | exact eA | exact zK eA);obtain⟨⟨k0,_⟩,⟨k1,_⟩⟩:=jA.out.zRJ aA;have k2:=(aA.cell (zD q0)).trans q0;have k3:=(aA.cell (zD q1)).trans q1
        (try go_wp2_with fail)
        refine hK.out _ _ (by(try dsimp only);go_keep) ?_;clear hK K hHeld;intro hHeld
        try simp only[Act.put,s1,s2,s3]
        refine tk 6 (h:=tk 7 (h:=tk 8 (h:=tk 9 (h:=tk 10 (h:=tk 11 (h:=tk 12 (h:=tk 13 (h:=?_))))))));refine rd [14] (rc (fun K hK=>?_) .nil);go_simp;go_at_call 75;refine(zAQ _ _ 0 _ _ (zb (p.s k) j) _ (zF0 fA.out (cB.out.kept (yu aA none) (by rcases Value.ownBlock _<;>simp)))).mono ?_;rintro e wb ⟨⟨nB,rfl,cA⟩,rfl⟩;rw[zF5]at cA;obtain rfl:nB=true:=cA.2 lC.out;clear cA
        (try go_wp2_with fail)
        refine hK.out _ _ (by(try dsimp only);go_keep) ?_;clear hK K hHeld;intro hHeld
        try simp only[Act.put,s1,s2,s3]
        refine tk 15 (h:=?_);refine wpAnyH_done (by kernel_rfl) ?_ _;have pA:=zA dA aA;go_wp2;go_ret;refine⟨zG.no fun h=>?_,pA⟩;have hd:=zJk HN.out (h.resolve_left HN.out).2.2 rA (Nat.zero_le _) kA.out;exact(zDg.1 (show(zAJ p k (p.s k) j ++ [zb (p.s k) j]).Nodup from hd)).2 lC.out
       ·have lC:=zE sC;clear sC;go_wp2_with fail;refine wp_region_held_drew (S:=(fun w'=>w'.cell? ⟨w.heap.size,0,none⟩=some (.slice (some ⟨b,off,none⟩) p.n c)/\w'.cell? ⟨w.heap.size,1,none⟩=some (.slice a' p.hn c')/\w'.cell? ⟨tb,rB+j*2,none⟩=some (.int .i64 (zb (p.s k) j))/\w'.cell? ⟨tb,rB+j*2+1,none⟩=some (.int .i64 (zu (p.s k) j)))) (by kernel_rfl) ?_ (fun hHeld=>?_)
        ·(try dsimp only)
         go_keep
        refine tk 0 (h:=tk 1 (h:=tk 2 (h:=tk 3 (h:=tk 4 (h:=?_)))));refine rd [5] (rc (fun K hK=>?_) .nil);go_simp;go_at_call 139;refine(zCz _ _ lo hi p (zb (p.s k) j) (zu (p.s k) j) _ ?_).mono ?_
        ·first | exact Hp.out.zRJ dA | exact Hp.out.zRJ dA.drew
        rintro e wa ⟨⟨ta,rfl,gA⟩,eA⟩;obtain rfl:ta=true:=gA.2 gB.out;clear gA;have aA:Below W.heap.size W wa:=(by first | exact eA | exact zK eA);obtain⟨⟨k0,_⟩,⟨k1,_⟩⟩:=jA.out.zRJ aA;have k2:=(aA.cell (zD q0)).trans q0;have k3:=(aA.cell (zD q1)).trans q1
        (try go_wp2_with fail)
        refine hK.out _ _ (by(try dsimp only);go_keep) ?_;clear hK K hHeld;intro hHeld
        try simp only[Act.put,s1,s2,s3]
        refine tk 6 (h:=tk 7 (h:=tk 8 (h:=tk 9 (h:=tk 10 (h:=tk 11 (h:=tk 12 (h:=tk 13 (h:=?_))))))));refine rd [14] (rc (fun K hK=>?_) .nil);go_simp;go_at_call 75;refine(zAQ _ _ 0 _ _ (zb (p.s k) j) _ (zF0 fA.out (cB.out.kept (yu aA none) (by rcases Value.ownBlock _<;>simp)))).mono ?_;rintro e wb ⟨⟨nB,rfl,cA⟩,rfl⟩;rw[zF5]at cA;obtain rfl:nB=false:=zQ cA lC.out;clear cA
        (try go_wp2_with fail)
        refine hK.out _ _ (by(try dsimp only);go_keep) ?_;clear hK K hHeld;intro hHeld
        try simp only[Act.put,s1,s2,s3]
        refine tk 15 (h:=?_);refine wpAnyH_done (by kernel_rfl) ?_ _;have pA:=zA dA aA;have aF:w.heap.size+2<=wb.heap.size:=(by have:=aA.size;omega);obtain⟨m,hm⟩:=Int.eq_ofNat_of_zero_le gB.out.1.2.1;have vE:m<p.n:=(by have:=gB.out.1.2.2.1;omega);have bF:(m:Int)<(p.n:Int):=(by omega);have bD:(zb (p.s k) j).toNat=m:=(by rw[hm];rfl);have nE:=zE (qU HR.out gB.out.1);rw[bD]at nE;have fD:(p.s m).kn=8:=by
         have h0:=gB.out.2.1;rw[bD]at h0;rcases zEc nE.out with h | h
         ·omega
         ·exact h
        have oD:=zE fD;obtain⟨_,_,ua,uc,ha,nD⟩:=Hp.out.1.cells vE;simp only[Option.some.injEq,Addr.mk.injEq,and_true]at ha;obtain⟨rfl,rfl⟩:=ha;have iF:Hid (zU w lo hi (.slice ua 8 uc) 8 (p.s m).ks (p.s m).kb):=(by have:=nD.slot.2.1;rw[fD]at this;exact this);have gF:=zE nD;have Hm:=zE hm;have tB:=zE bD;have iA:=zC wb (.cells #[.int .i64 (zb (p.s k) j)] 2);have kB:=zE ((cB.out.zRJ aA).zRJ iA);have nC:=zE ((jA.out.zRJ aA).zRJ iA);have vB:=zA pA iA;have pE:(wb.alloc (.cells #[.int .i64 (zb (p.s k) j)] 2)).heap.size=wb.heap.size+1:=World.size_alloc _ _;have vC:=zE (World.news_of_block (heap_alloc_last wb (.cells #[.int .i64 (zb (p.s k) j)] 2)));have kF:(m0:Int)<9:=(by omega);clear nD fD hm bD iA cB jA dA aA q0 q1 k0 k1 k3 x0 x1 x2 x3;go_wp2_with (first
         | (at_builtin;refine wpList_append_lies _ rfl _ _ 23 rfl (w.heap.size+2) 2 i0 (.int .i64 0) 1 8 (by kernel_rfl) HI.out.1 HI.out.2.1 HI.out.2.2.1 HI.out.2.2.2 rfl (by decide) (.slice sa (zAJ p k (p.s k) j).length sc) (zAJ p k (p.s k) j).length (icl (zAJ p k (p.s k) j)) rfl kB.out ⟨wb.heap.size,0,none⟩ 1 1 [.int .i64 (zb (p.s k) j)] rfl rfl vC.out (by simp[Value.oneCell']) (by decide) (by unfold maxLen;omega) (by omega) (by omega) _ rfl ?_;intro g4 iB w4 lA bA jC iC)
         | fail)
        have aE:Hid (zFo w4 (w.heap.size+2) (.slice (some ⟨g4,0,none⟩) ((zAJ p k (p.s k) j).length+1) iB) (zBN p k (p.s k) j 0)):=by
         rw[zGL];exact zFo.next lA
        have rC:Below w.heap.size w w4:=vB.grown bA vB.size (fun q hq=>by have:=kB.out.lt hq;omega);have eD:=zE (nC.out.grownT bA (fun q hq=>by have:=kB.out.lt hq;omega));have bE:w.heap.size+2<=w4.heap.size:=(by have:=bA.size;omega);have jE:(zBN p k (p.s k) j 0).Nodup:=(by rw[zGL];exact zDg.2 ⟨mB.out,lC.out⟩);have mE:=zE jE;clear lA bA jC iC kB nC vB pA vC jE k2;obtain⟨_,_,ha,q0,q1⟩:=(eE.out.zRJ rC).cellsT rA;simp only[Option.some.injEq,Addr.mk.injEq,and_true]at ha;obtain⟨rfl,rfl⟩:=ha;rw[<-zCu H8.out rA,Hm.out]at q0;obtain⟨r0,r1,r2,_⟩:=gF.out.zRJ rC;rw[oD.out]at r1;obtain⟨⟨x0,x1⟩,⟨x2,x3⟩⟩:=eD.out
        go_quiet (fail)
        go_wp2
        go_loopw [5,9,11] (fun sv nv i wr=>∃(i' m1:Nat) (sa:Option Addr) (sc:Nat),i'<=8/\i = .int .i64 i'/\nv = .int .i64 m1/\m1<=i'/\(0<m1↔∃i,i<i'/\¬Nil (zb (p.s m) i) (zu (p.s m) i))/\sv = .slice sa (zBN p k (p.s k) j i').length sc/\zFo wr (w.heap.size+2) sv (zBN p k (p.s k) j i')/\(∀i,i<i'->Nil (zb (p.s m) i) (zu (p.s m) i)\/zEE p (zb (p.s m) i) (zu (p.s m) i))/\(zBN p k (p.s k) j i').Nodup/\zc wr w.heap.size (.slice (some ⟨b,off,none⟩) p.n c) (.slice a' p.hn c')/\Below w.heap.size w wr/\w.heap.size+2<=wr.heap.size) (fun _ _ i _=>8 - (intOf i).toNat)
        case atStart=>exact⟨0,0,some ⟨g4,0,none⟩,iB,Nat.zero_le _,rfl,rfl,Nat.le_refl _,⟨fun h=>absurd h (Nat.lt_irrefl _),fun ⟨i,hi,_⟩=>absurd hi (Nat.not_lt_zero _)⟩,by rw[zGL,List.length_append];rfl,aE.out.zRJ (zg (Below.refl _ _) _),fun i hi=>absurd hi (Nat.not_lt_zero _),mE.out,eD.out.zRJ (zg (Below.refl _ _) _),zg rC _,bE⟩
        case round=>
         obtain⟨i,m1,sa,sc,eF,rfl,rfl,mF,lB,rfl,tA,oE,aB,vA,fB,tC⟩:=hrel;have sA:=zE lB;have oA:=zE tA;have jD:=zE oE;have dB:=zE aB;have nA:=zE vA;have dE:=zP5 p k (p.s k) (show j<=8 by omega) eF;clear lB tA oE aB vA aE eD rC mE x0 x1 x2 x3 q0 q1 r0 r1 r2 bE;by_cases sB:i<8
         ·have rE:(i:Int)<8:=(by omega);obtain⟨ub,bC,rfl,q0,q1⟩:=(iF.out.zRJ fB).cellsT sB;rw[<-zCu oD.out sB]at q0;rw[<-zEb oD.out sB]at q1;go_wp2_with fail;refine(yf (zb (p.s m) i) (zu (p.s m) i) wr).mono ?_;rintro e W ⟨⟨t,rfl,ht⟩,hb⟩;have dA:=zA fB hb;have jA:=zE (nA.out.zRJ hb);have cB:=zE (oA.out.zRJ hb);have kD:w.heap.size+2<=W.heap.size:=(by have:=hb.size;omega);have kC:=(hb.cell (zD q0)).trans q0;have eC:=(hb.cell (zD q1)).trans q1;clear q0 q1 fB hb oA nA tC;have q0:=kC;have q1:=eC;clear kC eC;by_cases mA:Nil (zb (p.s m) i) (zu (p.s m) i)
          ·have pB:=zE mA;obtain rfl:t=true:=ht.2 mA;clear ht mA;have es:zBN p k (p.s k) j (i+1)=zBN p k (p.s k) j i:=zPU (by rw[tB.out];exact pB.out);go_wp2;go_roundw
           case rel=>
            refine⟨i+1,m1,sa,sc,by omega,by go_num,rfl,by omega,?_,by rw[es],by rw[es];exact cB.out,zo sB jD.out (Or.inl pB.out),by rw[es];exact dB.out,jA.out,dA,kD⟩;exact sA.out.trans ⟨fun ⟨i,hi,h⟩=>⟨i,by omega,h⟩,fun ⟨i',hi,h⟩=>by
             by_cases e:i'=i
             ·subst e;exact absurd pB.out h
             ·exact⟨i',by omega,h⟩⟩
           case measure=>simp[intOf];omega
          ·have pB:=zE mA;obtain rfl:t=false:=zQ ht mA;clear ht mA;have fA:=zE (show(zBN p k (p.s k) j i).length<=maxLen by unfold maxLen;omega);obtain⟨⟨x0,x1⟩,⟨x2,x3⟩⟩:=jA.out;have es:zBN p k (p.s k) j (i+1)=zBN p k (p.s k) j i ++ [zb (p.s m) i]:=(by have:=zOs (p:=p) (rs:=(k:Int)) (s:=p.s k) (j:=j) (i:=i) (by rw[tB.out];exact pB.out);rw[tB.out]at this;exact this);have pC:=zE es;clear es;by_cases hP:zEE p (zb (p.s m) i) (zu (p.s m) i)
           ·have aC:=zE hP;clear hP;by_cases jB:zb (p.s m) i∈zBN p k (p.s k) j i
            ·have bB:=zE jB;clear jB;go_wp2_with fail;refine wp_region_held_drew (S:=(fun w'=>w'.cell? ⟨w.heap.size,0,none⟩=some (.slice (some ⟨b,off,none⟩) p.n c)/\w'.cell? ⟨w.heap.size,1,none⟩=some (.slice a' p.hn c')/\w'.cell? ⟨ub,bC+i*2,none⟩=some (.int .i64 (zb (p.s m) i))/\w'.cell? ⟨ub,bC+i*2+1,none⟩=some (.int .i64 (zu (p.s m) i)))) (by kernel_rfl) ?_ (fun hHeld=>?_)
             ·(try dsimp only)
              go_keep
             refine tk 0 (h:=tk 1 (h:=tk 2 (h:=tk 3 (h:=tk 4 (h:=?_)))));refine rd [5] (rc (fun K hK=>?_) .nil);go_simp;go_at_call 140;refine(zES _ _ lo hi p (zb (p.s m) i) (zu (p.s m) i) _ ?_).mono ?_
             ·first | exact Hp.out.zRJ dA | exact Hp.out.zRJ dA.drew
             rintro e wa ⟨⟨ta,rfl,gA⟩,eA⟩;obtain rfl:ta=true:=gA.2 aC.out;clear gA;have aA:Below W.heap.size W wa:=(by first | exact eA | exact zK eA);obtain⟨⟨k0,_⟩,⟨k1,_⟩⟩:=jA.out.zRJ aA;have k2:=(aA.cell (zD q0)).trans q0;have k3:=(aA.cell (zD q1)).trans q1
             (try go_wp2_with fail)
             refine hK.out _ _ (by(try dsimp only);go_keep) ?_;clear hK K hHeld;intro hHeld
             try simp only[Act.put,s1,s2,s3]
             refine tk 6 (h:=tk 7 (h:=tk 8 (h:=tk 9 (h:=tk 10 (h:=tk 11 (h:=tk 12 (h:=tk 13 (h:=?_))))))));refine rd [14] (rc (fun K hK=>?_) .nil);go_simp;go_at_call 75;refine(zAQ _ _ 0 _ _ (zb (p.s m) i) _ (zF0 fA.out (cB.out.kept (yu aA none) (by rcases Value.ownBlock _<;>simp)))).mono ?_;rintro e wb ⟨⟨nB,rfl,cA⟩,rfl⟩;rw[zF5]at cA;obtain rfl:nB=true:=cA.2 bB.out;clear cA
             (try go_wp2_with fail)
             refine hK.out _ _ (by(try dsimp only);go_keep) ?_;clear hK K hHeld;intro hHeld
             try simp only[Act.put,s1,s2,s3]
             refine tk 15 (h:=?_);refine wpAnyH_done (by kernel_rfl) ?_ _;have pA:=zA dA aA;go_wp2;go_ret;refine⟨zG.no fun h=>?_,pA⟩;have hd:=zJk HN.out (h.resolve_left HN.out).2.2 rA (show i+1<=8 by omega) kA.out;have cE:(zBN p k (p.s k) j (i+1)).Nodup:=hd;rw[pC.out]at cE;exact(zDg.1 cE).2 bB.out
            ·have bB:=zE jB;clear jB;go_wp2_with fail;refine wp_region_held_drew (S:=(fun w'=>w'.cell? ⟨w.heap.size,0,none⟩=some (.slice (some ⟨b,off,none⟩) p.n c)/\w'.cell? ⟨w.heap.size,1,none⟩=some (.slice a' p.hn c')/\w'.cell? ⟨ub,bC+i*2,none⟩=some (.int .i64 (zb (p.s m) i))/\w'.cell? ⟨ub,bC+i*2+1,none⟩=some (.int .i64 (zu (p.s m) i)))) (by kernel_rfl) ?_ (fun hHeld=>?_)
             ·(try dsimp only)
              go_keep
             refine tk 0 (h:=tk 1 (h:=tk 2 (h:=tk 3 (h:=tk 4 (h:=?_)))));refine rd [5] (rc (fun K hK=>?_) .nil);go_simp;go_at_call 140;refine(zES _ _ lo hi p (zb (p.s m) i) (zu (p.s m) i) _ ?_).mono ?_
             ·first | exact Hp.out.zRJ dA | exact Hp.out.zRJ dA.drew
             rintro e wa ⟨⟨ta,rfl,gA⟩,eA⟩;obtain rfl:ta=true:=gA.2 aC.out;clear gA;have aA:Below W.heap.size W wa:=(by first | exact eA | exact zK eA);obtain⟨⟨k0,_⟩,⟨k1,_⟩⟩:=jA.out.zRJ aA;have k2:=(aA.cell (zD q0)).trans q0;have k3:=(aA.cell (zD q1)).trans q1
             (try go_wp2_with fail)
             refine hK.out _ _ (by(try dsimp only);go_keep) ?_;clear hK K hHeld;intro hHeld
             try simp only[Act.put,s1,s2,s3]
             refine tk 6 (h:=tk 7 (h:=tk 8 (h:=tk 9 (h:=tk 10 (h:=tk 11 (h:=tk 12 (h:=tk 13 (h:=?_))))))));refine rd [14] (rc (fun K hK=>?_) .nil);go_simp;go_at_call 75;refine(zAQ _ _ 0 _ _ (zb (p.s m) i) _ (zF0 fA.out (cB.out.kept (yu aA none) (by rcases Value.ownBlock _<;>simp)))).mono ?_;rintro e wb ⟨⟨nB,rfl,cA⟩,rfl⟩;rw[zF5]at cA;obtain rfl:nB=false:=zQ cA bB.out;clear cA
             (try go_wp2_with fail)
             refine hK.out _ _ (by(try dsimp only);go_keep) ?_;clear hK K hHeld;intro hHeld
             try simp only[Act.put,s1,s2,s3]
             refine tk 15 (h:=?_);refine wpAnyH_done (by kernel_rfl) ?_ _;have pA:=zA dA aA;have aF:w.heap.size+2<=wb.heap.size:=(by have:=aA.size;omega);have iA:=zC wb (.cells #[.int .i64 (zb (p.s m) i)] 2);have kB:=zE ((cB.out.zRJ aA).zRJ iA);have nC:=zE ((jA.out.zRJ aA).zRJ iA);have vB:=zA pA iA;have pE:(wb.alloc (.cells #[.int .i64 (zb (p.s m) i)] 2)).heap.size=wb.heap.size+1:=World.size_alloc _ _;have vC:=zE (World.news_of_block (heap_alloc_last wb (.cells #[.int .i64 (zb (p.s m) i)] 2)));have tE:(m1:Int)<9:=(by omega);clear iA cB jA dA aA q0 q1 k0 k1 k3 x0 x1 x2 x3;go_wp2_with (first
              | (at_builtin;refine wpList_append_lies _ rfl _ _ 23 rfl (w.heap.size+2) 2 i0 (.int .i64 0) 1 8 (by kernel_rfl) HI.out.1 HI.out.2.1 HI.out.2.2.1 HI.out.2.2.2 rfl (by decide) (.slice sa (zBN p k (p.s k) j i).length sc) (zBN p k (p.s k) j i).length (icl (zBN p k (p.s k) j i)) rfl kB.out ⟨wb.heap.size,0,none⟩ 1 1 [.int .i64 (zb (p.s m) i)] rfl rfl vC.out (by simp[Value.oneCell']) (by decide) (by unfold maxLen;omega) (by omega) (by omega) _ rfl ?_;intro g4 iB w4 lA bA jC iC)
              | go_in)
             go_roundw
             case rel=>
              refine⟨i+1,m1+1,some ⟨g4,0,none⟩,iB,by omega,by go_num,by go_num,by omega,⟨fun _=>⟨i,by omega,pB.out⟩,fun _=>by omega⟩,by rw[pC.out,List.length_append];rfl,by rw[pC.out];exact zFo.next lA,zo sB jD.out (Or.inr aC.out),by rw[pC.out];exact zDg.2 ⟨dB.out,bB.out⟩,nC.out.grownT bA (fun q hq=>by have:=kB.out.lt hq;omega),vB.grown bA vB.size (fun q hq=>by have:=kB.out.lt hq;omega),by have:=bA.size;omega⟩
             case measure=>simp[intOf];omega
           ·have aC:=zE hP;clear hP;go_wp2_with fail;refine wp_region_held_drew (S:=(fun w'=>w'.cell? ⟨w.heap.size,0,none⟩=some (.slice (some ⟨b,off,none⟩) p.n c)/\w'.cell? ⟨w.heap.size,1,none⟩=some (.slice a' p.hn c')/\w'.cell? ⟨ub,bC+i*2,none⟩=some (.int .i64 (zb (p.s m) i))/\w'.cell? ⟨ub,bC+i*2+1,none⟩=some (.int .i64 (zu (p.s m) i)))) (by kernel_rfl) ?_ (fun hHeld=>?_)
            ·(try dsimp only)
             go_keep
            refine tk 0 (h:=tk 1 (h:=tk 2 (h:=tk 3 (h:=tk 4 (h:=?_)))));refine rd [5] (rc (fun K hK=>?_) .nil);go_simp;go_at_call 140;refine(zES _ _ lo hi p (zb (p.s m) i) (zu (p.s m) i) _ ?_).mono ?_
            ·first | exact Hp.out.zRJ dA | exact Hp.out.zRJ dA.drew
            rintro e wa ⟨⟨ta,rfl,gA⟩,eA⟩;obtain rfl:ta=false:=zQ gA aC.out;clear gA;have aA:Below W.heap.size W wa:=(by first | exact eA | exact zK eA);obtain⟨⟨k0,_⟩,⟨k1,_⟩⟩:=jA.out.zRJ aA;have k2:=(aA.cell (zD q0)).trans q0;have k3:=(aA.cell (zD q1)).trans q1
            (try go_wp2_with fail)
            refine hK.out _ _ (by(try dsimp only);go_keep) ?_;clear hK K hHeld;intro hHeld
            try simp only[Act.put,s1,s2,s3]
            refine tk 6 (h:=tk 7 (h:=ts 8 (h:=ts 9 (h:=ts 10 (h:=ts 11 (h:=ts 12 (h:=ts 13 (h:=?_))))))));refine rd [14] (rc (fun K hK=>?_) .nil);split
            ·rename_i lD
             exact absurd (show false=true from lD) Bool.false_ne_true
            refine hK.out _ _ (by assumption) (fun hHeld=>?_);clear hK K
            try simp only[Act.put,s1,s2,s3]
            refine tk 15 (h:=?_);refine wpAnyH_done (by kernel_rfl) ?_ _;have pA:=zA dA aA;go_wp2;go_ret;refine⟨zG.no fun h=>?_,pA⟩;rcases(h.resolve_left HN.out).2.1.1 j rA with h | h
            ·exact kA.out h
            ·have h2:Nil (zb (p.s (zb (p.s k) j).toNat) i) (zu (p.s (zb (p.s k) j).toNat) i)\/zEE p (zb (p.s (zb (p.s k) j).toNat) i) (zu (p.s (zb (p.s k) j).toNat) i):=h.2.1 i sB;rw[tB.out]at h2;rcases h2 with h2 | h2
             ·exact pB.out h2
             ·exact aC.out h2
         ·obtain rfl:i=8:=(by omega);by_cases gE:m1=0
          ·subst gE;have e0:((0:Nat):Int)=0:=rfl;go_wp2;go_ret;refine⟨zG.no fun h=>?_,fB⟩;rcases(h.resolve_left HN.out).2.1.1 j rA with h | h
           ·exact kA.out h
           ·have h2:∃i,i<8/\¬Nil (zb (p.s (zb (p.s k) j).toNat) i) (zu (p.s (zb (p.s k) j).toNat) i):=h.2.2;rw[tB.out]at h2;have:=sA.out.2 h2;omega
          ·have e0:((m1:Int) == 0)=false:=(by simp;omega);have sE:=zE (show 0<m1 by omega);have pD:Hid (zOy p (p.s (zb (p.s k) j).toNat)):=(by rw[tB.out];exact⟨jD.out,sA.out.1 sE.out⟩);clear gE;go_wp2;go_roundw
           case rel=>
            refine⟨j+1,m0+1,sa,sc,by omega,by go_num,by go_num,by omega,⟨fun _=>⟨j,by omega,kA.out⟩,fun _=>by omega⟩,by rw[zEl kA.out],by rw[zEl kA.out];exact oA.out,zo rA oB.out (Or.inr ⟨gB.out,pD.out⟩),by rw[zEl kA.out];exact dB.out,nA.out,fB,tC⟩
           case measure=>simp[intOf];omega
      ·have gB:=zE oC;clear oC;go_wp2_with fail;refine wp_region_held_drew (S:=(fun w'=>w'.cell? ⟨w.heap.size,0,none⟩=some (.slice (some ⟨b,off,none⟩) p.n c)/\w'.cell? ⟨w.heap.size,1,none⟩=some (.slice a' p.hn c')/\w'.cell? ⟨tb,rB+j*2,none⟩=some (.int .i64 (zb (p.s k) j))/\w'.cell? ⟨tb,rB+j*2+1,none⟩=some (.int .i64 (zu (p.s k) j)))) (by kernel_rfl) ?_ (fun hHeld=>?_)
       ·(try dsimp only)
        go_keep
       refine tk 0 (h:=tk 1 (h:=tk 2 (h:=tk 3 (h:=tk 4 (h:=?_)))));refine rd [5] (rc (fun K hK=>?_) .nil);go_simp;go_at_call 139;refine(zCz _ _ lo hi p (zb (p.s k) j) (zu (p.s k) j) _ ?_).mono ?_
       ·first | exact Hp.out.zRJ dA | exact Hp.out.zRJ dA.drew
       rintro e wa ⟨⟨ta,rfl,gA⟩,eA⟩;obtain rfl:ta=false:=zQ gA gB.out;clear gA;have aA:Below W.heap.size W wa:=(by first | exact eA | exact zK eA);obtain⟨⟨k0,_⟩,⟨k1,_⟩⟩:=jA.out.zRJ aA;have k2:=(aA.cell (zD q0)).trans q0;have k3:=(aA.cell (zD q1)).trans q1
       (try go_wp2_with fail)
       refine hK.out _ _ (by(try dsimp only);go_keep) ?_;clear hK K hHeld;intro hHeld
       try simp only[Act.put,s1,s2,s3]
       refine tk 6 (h:=tk 7 (h:=ts 8 (h:=ts 9 (h:=ts 10 (h:=ts 11 (h:=ts 12 (h:=ts 13 (h:=?_))))))));refine rd [14] (rc (fun K hK=>?_) .nil);split
       ·rename_i lD
        exact absurd (show false=true from lD) Bool.false_ne_true
       refine hK.out _ _ (by assumption) (fun hHeld=>?_);clear hK K
       try simp only[Act.put,s1,s2,s3]
       refine tk 15 (h:=?_);refine wpAnyH_done (by kernel_rfl) ?_ _;have pA:=zA dA aA;go_wp2;go_ret;refine⟨zG.no fun h=>?_,pA⟩;rcases(h.resolve_left HN.out).2.1.1 j rA with h | h
       ·exact kA.out h
       ·exact gB.out h.1
    ·obtain rfl:j=8:=(by omega);go_wp2;go_ret;refine⟨⟨_,rfl,?_⟩,fB⟩;have hc:=cC.out;constructor
     ·intro h;refine Or.inr ⟨vD.out,⟨oB.out,hc.1 (by simpa using h)⟩,?_⟩;rw[zHi HN.out];exact mB.out
     ·intro h;have:=hc.2 (h.resolve_left HN.out).2.1.2;simpa using this
  ·have vD:=zE eB;obtain rfl:t=false:=zQ ht eB;clear ht eB;go_wp2;go_ret;exact⟨zG.no fun h=>(h.resolve_left HN.out).1 |> vD.out,tD⟩
def zDx(p:zJ)(rs rb:Int)(s:zL)(j:Nat):List (Int×Int):=(rs,rb) :: zAv p s j
def zC5(p:zJ)(rs rb:Int)(s:zL)(j i:Nat):List (Int×Int):=zDx p rs rb s j ++ ((zb s j,zu s j) :: kidsUp (zb (p.s (zb s j).toNat)) (zu (p.s (zb s j).toNat)) i)
theorem zPj{p:zJ}{rs rb:Int}(hz:¬Nil rs rb):zR p rs rb=zDx p rs rb (p.s rs.toNat) 8:=if_neg hz
theorem zK6{p:zJ}{rs rb:Int}{s:zL}{j:Nat}(hn:¬Nil (zb s j) (zu s j)):zDx p rs rb s (j+1)=zC5 p rs rb s j 8:=by
 unfold zDx zC5 zDx;rw[zAv,zLv hn];rfl
theorem zLU{p:zJ}{rs rb:Int}{s:zL}{j:Nat}(hn:Nil (zb s j) (zu s j)):zDx p rs rb s (j+1)=zDx p rs rb s j:=by
 unfold zDx;rw[zAv,show zEu p (zb s j) (zu s j) = [] from if_pos hn,List.append_nil]
theorem zIB(p:zJ)(rs rb:Int)(s:zL)(j:Nat):zC5 p rs rb s j 0=zDx p rs rb s j ++ [(zb s j,zu s j)]:=rfl
theorem zOd{p:zJ}{rs rb:Int}{s:zL}{j i:Nat}(hn:Nil (zb (p.s (zb s j).toNat) i) (zu (p.s (zb s j).toNat) i)):zC5 p rs rb s j (i+1)=zC5 p rs rb s j i:=by
 unfold zC5;rw[kidsUp,show one (zb (p.s (zb s j).toNat) i) (zu (p.s (zb s j).toNat) i) = [] from if_pos hn,List.append_nil]
theorem zN3{p:zJ}{rs rb:Int}{s:zL}{j i:Nat}(hn:¬Nil (zb (p.s (zb s j).toNat) i) (zu (p.s (zb s j).toNat) i)):zC5 p rs rb s j (i+1)=zC5 p rs rb s j i ++ [(zb (p.s (zb s j).toNat) i,zu (p.s (zb s j).toNat) i)]:=by
 unfold zC5;rw[kidsUp,show one (zb (p.s (zb s j).toNat) i) (zu (p.s (zb s j).toNat) i) = [(zb (p.s (zb s j).toNat) i,zu (p.s (zb s j).toNat) i)] from if_neg hn,List.append_assoc];rfl
theorem zNF(p:zJ)(rs rb:Int)(s:zL){j:Nat}(hj:j<=8):(zDx p rs rb s j).length<=73:=by
 have:=zEZ p s j;simp only[zDx,List.length_cons];omega
theorem zOf(p:zJ)(rs rb:Int)(s:zL){j i:Nat}(hj:j<=8)(hi:i<=8):(zC5 p rs rb s j i).length<=90:=by
 have h1:=zNF p rs rb s hj;have h2:=zAg (zb (p.s (zb s j).toNat)) (zu (p.s (zb s j).toNat)) i;simp only[zC5,List.length_append,List.length_cons];omega
theorem zw.next{w2:World}{base g aA:Nat}{l:List (Int×Int)}{x y:Int}(h:w2.ownsRow base 61 2 (.slice (some ⟨g,0,none⟩) (l.length+1) aA) (l.length+1) (pcl l ++ [.int .i64 x,.int .i64 y])):zw w2 base (.slice (some ⟨g,0,none⟩) (l.length+1) aA) (l ++ [(x,y)]):=by
 unfold zw;rw[zBE,List.length_append];exact h
theorem yg(v0 v1:Value)(lo hi:Nat)(p:zJ)(xs xb:Int)(w:World)(h1:zy w lo hi v0 v1 p)(hR:zv p)(hT:qG p xs xb) :
  Calls Tryz.prog 141 #[.agg #[v0,v1],.agg #[.int .i64 xs,.int .i64 xb]] w fun e w'=>∃v,e = .returned v/\zw w' w.heap.size v (zR p xs xb)/\Below w.heap.size w w':=by
 have Hp:=zE h1;have HR:=zE hR;have HT:=zE hT;obtain⟨a,c,a',c',rfl,rfl⟩:∃a c a' c',v0 = .slice a p.n c/\v1 = .slice a' p.hn c':=by
  obtain⟨⟨_,a,c,h1,_⟩,⟨_,a',c',h3,_⟩⟩:=h1;exact⟨a,c,a',c',h1,h3⟩
 clear h1 hR hT;have jB:=zBq w (.slice a p.n c) (.slice a' p.hn c') (.int .i64 xs) (.int .i64 xb) 33 61;obtain⟨i0,aD,mC⟩:=Option.map_eq_some_iff.1 zAz;simp only[Prod.mk.injEq]at mC;have HI:=zE (And.intro aD mC);clear aD mC;go_enter Tryz.func141,Tryz.ntmps141;have oA:=World.ownsRow_lit (e:=61) (size:=2) (base:=w.heap.size+2) ((w.alloc (.cells #[.slice a p.n c,.slice a' p.hn c'] 33)).alloc (.cells #[.int .i64 xs,.int .i64 xb] 61)) #[] 0 (by rw[jB.2.2.2];omega) (by unfold maxLen;omega) rfl;rw[jB.2.2.2]at oA;have jD:=jB.2.1.zRJ (zC _ (.cells #[] 61));obtain⟨⟨y0,y1⟩,⟨y2,y3⟩⟩:=jD;go_wp2_with fail;clear y0 y1 y2 y3;generalize (w.alloc (.cells #[.slice a p.n c,.slice a' p.hn c'] 33)).alloc (.cells #[.int .i64 xs,.int .i64 xb] 61)=W at jB oA ⊢;obtain⟨hB,hX,tC,hz⟩:=jB;have cA:=zC W (.cells #[] 61);have lC:=zE (show zw (W.alloc (.cells #[] 61)) (w.heap.size+2) (.slice (some ⟨w.heap.size+2,0,none⟩) 0 0) [] from oA);have kC:=hB.zRJ cA;have rB:=hX.zRJ cA;have dC:=zA tC cA;have eD:(W.alloc (.cells #[] 61)).heap.size=w.heap.size+3:=by rw[World.size_alloc,hz]
 clear oA hB hX tC cA;generalize W.alloc (.cells #[] 61)=W0 at lC kC rB dC eD ⊢;refine(yf xs xb W0).mono ?_;rintro e w1 ⟨⟨t,rfl,ht⟩,eB⟩;have oC:=zE (kC.zRJ eB);have fC:=zE (rB.zRJ eB);have pC:=zE (lC.out.zRJ eB);have aC:=zA dC eB;have iD:w.heap.size+3<=w1.heap.size:=by have:=eB.size;omega
 clear kC rB dC eB lC eD hz;by_cases hn:Nil xs xb
 ·have HN:=zE hn;obtain rfl:t=true:=ht.2 hn;clear ht hn;go_wp2;go_ret;refine⟨_,rfl,?_,aC⟩;rw[show zR p xs xb = [] from if_pos HN.out];exact pC.out.mono (by omega)
 ·have HN:=zE hn;obtain rfl:t=false:=zQ ht hn;clear ht hn;have lB:zAy p xs xb:=(HT.out.resolve_left HN.out).1;have kB:=zE (HT.out.resolve_left HN.out).2.1.1;have h8:(p.s xs.toNat).kn=8:=by rcases zDC HR.out lB.1 with h | h;(have:=lB.2.1;omega);exact h
  obtain⟨k,rfl⟩:=Int.eq_ofNat_of_zero_le lB.1.2.1;have hk:k<p.n:=(by have:=lB.1.2.2.1;omega);have sD:(k:Int)<(p.n:Int):=(by omega);rw[Int.toNat_natCast]at h8 kB;have H8:=zE h8;clear lB;obtain⟨b,off,ka,kc,rfl,vB⟩:=Hp.out.1.cells hk;have bD:Hid (zU w lo hi (.slice ka 8 kc) 8 (p.s k).ks (p.s k).kb):=(by have:=vB.slot.2.1;rw[h8]at this;exact this);have gC:=zE vB;clear vB h8;obtain⟨⟨x0,x1⟩,⟨x2,x3⟩⟩:=oC.out;obtain⟨⟨y0,y1⟩,⟨y2,y3⟩⟩:=fC.out;have cA:=zC w1 (.cells #[.int .i64 (k:Int),.int .i64 xb] 61);have fA:=zE (pC.out.zRJ cA);have tA:=zE (oC.out.zRJ cA);have cD:=zE (fC.out.zRJ cA);have lA:=zA aC cA;have oB:(w1.alloc (.cells #[.int .i64 (k:Int),.int .i64 xb] 61)).heap.size=w1.heap.size+1:=World.size_alloc _ _;have aB:=zE (World.news_of_block (heap_alloc_last w1 (.cells #[.int .i64 (k:Int),.int .i64 xb] 61)));clear cA pC oC fC aC;go_wp2_with (first
   | (at_builtin;refine wpList_append_lies _ rfl _ _ 62 rfl (w.heap.size+2) 61 i0 (.agg #[.int .i64 0,.int .i64 0]) 2 16 (by kernel_rfl) HI.out.1 HI.out.2.1 HI.out.2.2.1 HI.out.2.2.2 rfl (by decide) (.slice (some ⟨w.heap.size+2,0,none⟩) 0 0) 0 [] rfl fA.out ⟨w1.heap.size,0,none⟩ 1 1 [.int .i64 (k:Int),.int .i64 xb] rfl rfl aB.out (by simp[Value.oneCell']) (by decide) (by unfold maxLen;omega) (by omega) (by omega) _ rfl ?_;intro g4 dA w4 bA aA pA nA;have rA:Below w.heap.size w w4:=lA.grown aA lA.size (fun q hq=>(by have:=(fA.out.lt hq).1;omega));have cB:=zE (tA.out.grownT aA (fun q hq=>by have:=(fA.out.lt hq).1;omega));have rC:=zE (cD.out.grownT aA (fun q hq=>by have:=(fA.out.lt hq).1;omega));have z0:=cB.out.1.1;have z1:=rC.out.1.1;have z2:=(gC.out.zRJ rA).c1;rw[H8.out]at z2)
   | go_in)
  have mB:=zE (show zw w4 (w.heap.size+2) (.slice (some ⟨g4,0,none⟩) 1 dA) (zDx p k xb (p.s k) 0)from bA);have gB:w.heap.size+2<=w4.heap.size:=(by have:=aA.size;omega);clear bA aA pA nA fA tA cD lA aB oB iD
  go_loopw [5,7] (fun sv i wr=>∃(j:Nat) (sa:Option Addr) (sc:Nat),j<=8/\i = .int .i64 j/\sv = .slice sa (zDx p k xb (p.s k) j).length sc/\zw wr (w.heap.size+2) sv (zDx p k xb (p.s k) j)/\zc wr w.heap.size (.slice (some ⟨b,off,none⟩) p.n c) (.slice a' p.hn c')/\Below w.heap.size w wr/\w.heap.size+2<=wr.heap.size) (fun _ i _=>8 - (intOf i).toNat)
  case atStart=>exact⟨0,some ⟨g4,0,none⟩,dA,Nat.zero_le _,rfl,rfl,mB.out,cB.out,rA,gB⟩
  case round=>
   obtain⟨j,sa,sc,hj,rfl,rfl,jA,kA,mA,pB⟩:=hrel;have eA:=zE jA;have iA:=zE kA;have oD:=zNF p k xb (p.s k) hj;clear jA kA mB cB rC rA z0 z1 z2 x0 x1 x2 x3 y0 y1 y2 y3 gB;by_cases fB:j<8
   ·have nD:(j:Int)<8:=(by omega);obtain⟨tb,rD,rfl,q0,q1⟩:=(bD.out.zRJ mA).cellsT fB;rw[<-zCu H8.out fB]at q0;rw[<-zEb H8.out fB]at q1;go_wp2_with fail;refine(yf (zb (p.s k) j) (zu (p.s k) j) wr).mono ?_;rintro e W ⟨⟨t,rfl,ht⟩,hb⟩;have sA:=zA mA hb;have bB:=zE (iA.out.zRJ hb);have vA:=zE (eA.out.zRJ hb);have bC:w.heap.size+2<=W.heap.size:=(by have:=hb.size;omega);have sC:=(hb.cell (zD q0)).trans q0;have dD:=(hb.cell (zD q1)).trans q1;clear q0 q1 mA hb eA iA pB;by_cases gA:Nil (zb (p.s k) j) (zu (p.s k) j)
    ·have dB:=zE gA;obtain rfl:t=true:=ht.2 gA;clear ht gA;go_wp2;go_roundw
     case rel=>exact⟨j+1,sa,sc,by omega,by go_num,by rw[zLU dB.out],by rw[zLU dB.out];exact vA.out,bB.out,sA,bC⟩
     case measure=>simp[intOf];omega
    ·have dB:=zE gA;obtain rfl:t=false:=zQ ht gA;clear ht gA;have nB:zAy p (zb (p.s k) j) (zu (p.s k) j):=by
      rcases kB.out j fB with h | h
      ·exact absurd h dB.out
      ·exact h.1
     obtain⟨m,hm⟩:=Int.eq_ofNat_of_zero_le nB.1.2.1;have kD:m<p.n:=(by have:=nB.1.2.2.1;omega);have mD:(m:Int)<(p.n:Int):=(by omega);have iC:(zb (p.s k) j).toNat=m:=(by rw[hm];rfl);have jC:(p.s m).kn=8:=by
      have h0:=nB.2.1;have h1:=zDC HR.out nB.1;rw[iC]at h0 h1;rcases h1 with h | h
      ·omega
      ·exact h
     have cC:=zE jC;obtain⟨_,_,ua,uc,ha,tB⟩:=Hp.out.1.cells kD;simp only[Option.some.injEq,Addr.mk.injEq,and_true]at ha;obtain⟨rfl,rfl⟩:=ha;have gD:Hid (zU w lo hi (.slice ua 8 uc) 8 (p.s m).ks (p.s m).kb):=(by have:=tB.slot.2.1;rw[jC]at this;exact this);have fD:=zE tB;have Hm:=zE hm;have eC:=zE iC;have cA:=zC W (.cells #[.int .i64 (zb (p.s k) j),.int .i64 (zu (p.s k) j)] 61);have fA:=zE (vA.out.zRJ cA);have tA:=zE (bB.out.zRJ cA);have lA:=zA sA cA;have oB:(W.alloc (.cells #[.int .i64 (zb (p.s k) j),.int .i64 (zu (p.s k) j)] 61)).heap.size=W.heap.size+1:=World.size_alloc _ _;have aB:=zE (World.news_of_block (heap_alloc_last W (.cells #[.int .i64 (zb (p.s k) j),.int .i64 (zu (p.s k) j)] 61)));clear tB jC hm iC cA vA bB sA nB;go_wp2_with (first
      | (at_builtin;refine wpList_append_lies _ rfl _ _ 62 rfl (w.heap.size+2) 61 i0 (.agg #[.int .i64 0,.int .i64 0]) 2 16 (by kernel_rfl) HI.out.1 HI.out.2.1 HI.out.2.2.1 HI.out.2.2.2 rfl (by decide) (.slice sa (zDx p k xb (p.s k) j).length sc) (zDx p k xb (p.s k) j).length (pcl (zDx p k xb (p.s k) j)) rfl fA.out ⟨W.heap.size,0,none⟩ 1 1 [.int .i64 (zb (p.s k) j),.int .i64 (zu (p.s k) j)] rfl rfl aB.out (by simp[Value.oneCell']) (by decide) (by unfold maxLen;omega) (by omega) (by omega) _ rfl ?_;intro g4 dA w4 bA aA pA nA)
      | fail)
     have mB:Hid (zw w4 (w.heap.size+2) (.slice (some ⟨g4,0,none⟩) ((zDx p k xb (p.s k) j).length+1) dA) (zC5 p k xb (p.s k) j 0)):=by
      rw[zIB];exact zw.next bA
     have rA:Below w.heap.size w w4:=lA.grown aA lA.size (fun q hq=>by have:=(fA.out.lt hq).1;omega);have cB:=zE (tA.out.grownT aA (fun q hq=>by have:=(fA.out.lt hq).1;omega));have gB:w.heap.size+2<=w4.heap.size:=(by have:=aA.size;omega);clear bA aA pA nA fA tA lA aB sC dD oB;obtain⟨_,_,ha,q0,q1⟩:=(bD.out.zRJ rA).cellsT fB;simp only[Option.some.injEq,Addr.mk.injEq,and_true]at ha;obtain⟨rfl,rfl⟩:=ha;rw[<-zCu H8.out fB,Hm.out]at q0;obtain⟨r0,r1,r2,_⟩:=fD.out.zRJ rA;rw[cC.out]at r1;obtain⟨⟨x0,x1⟩,⟨x2,x3⟩⟩:=cB.out
     go_quiet (fail)
     go_wp2
     go_loopw [5,9] (fun sv i wr=>∃(i':Nat) (sa:Option Addr) (sc:Nat),i'<=8/\i = .int .i64 i'/\sv = .slice sa (zC5 p k xb (p.s k) j i').length sc/\zw wr (w.heap.size+2) sv (zC5 p k xb (p.s k) j i')/\zc wr w.heap.size (.slice (some ⟨b,off,none⟩) p.n c) (.slice a' p.hn c')/\Below w.heap.size w wr/\w.heap.size+2<=wr.heap.size) (fun _ i _=>8 - (intOf i).toNat)
     case atStart=>exact⟨0,some ⟨g4,0,none⟩,dA,Nat.zero_le _,rfl,by rw[zIB,List.length_append];rfl,mB.out.zRJ (zg (Below.refl _ _) _),cB.out.zRJ (zg (Below.refl _ _) _),zg rA _,gB⟩
     case round=>
      obtain⟨i,sa,sc,pD,rfl,rfl,jA,kA,mA,pB⟩:=hrel;have eA:=zE jA;have iA:=zE kA;have vC:=zOf p k xb (p.s k) (show j<=8 by omega) pD;clear jA kA mB cB rA x0 x1 x2 x3 q0 q1 r0 r1 r2 gB;by_cases sB:i<8
      ·have lD:(i:Int)<8:=(by omega);obtain⟨ub,tD,rfl,q0,q1⟩:=(gD.out.zRJ mA).cellsT sB;rw[<-zCu cC.out sB]at q0;rw[<-zEb cC.out sB]at q1;go_wp2_with fail;refine(yf (zb (p.s m) i) (zu (p.s m) i) wr).mono ?_;rintro e W ⟨⟨t,rfl,ht⟩,hb⟩;have sA:=zA mA hb;have bB:=zE (iA.out.zRJ hb);have vA:=zE (eA.out.zRJ hb);have bC:w.heap.size+2<=W.heap.size:=(by have:=hb.size;omega);have sC:=(hb.cell (zD q0)).trans q0;have dD:=(hb.cell (zD q1)).trans q1;clear q0 q1 mA hb eA iA pB;by_cases gA:Nil (zb (p.s m) i) (zu (p.s m) i)
       ·have nC:=zE gA;obtain rfl:t=true:=ht.2 gA;clear ht gA;have es:zC5 p k xb (p.s k) j (i+1)=zC5 p k xb (p.s k) j i:=zOd (by rw[eC.out];exact nC.out);have iB:=zE es;clear es;go_wp2;go_roundw
        case rel=>exact⟨i+1,sa,sc,by omega,by go_num,by rw[iB.out],by rw[iB.out];exact vA.out,bB.out,sA,bC⟩
        case measure=>simp[intOf];omega
       ·have nC:=zE gA;obtain rfl:t=false:=zQ ht gA;clear ht gA;have es:zC5 p k xb (p.s k) j (i+1)=zC5 p k xb (p.s k) j i ++ [(zb (p.s m) i,zu (p.s m) i)]:=(by have:=zN3 (p:=p) (rs:=(k:Int)) (rb:=xb) (s:=p.s k) (j:=j) (i:=i) (by rw[eC.out];exact nC.out);rw[eC.out]at this;exact this);have iB:=zE es;clear es;have cA:=zC W (.cells #[.int .i64 (zb (p.s m) i),.int .i64 (zu (p.s m) i)] 61);have fA:=zE (vA.out.zRJ cA);have tA:=zE (bB.out.zRJ cA);have lA:=zA sA cA;have oB:(W.alloc (.cells #[.int .i64 (zb (p.s m) i),.int .i64 (zu (p.s m) i)] 61)).heap.size=W.heap.size+1:=World.size_alloc _ _;have aB:=zE (World.news_of_block (heap_alloc_last W (.cells #[.int .i64 (zb (p.s m) i),.int .i64 (zu (p.s m) i)] 61)));clear cA vA bB sA;go_wp2_with (first
         | (at_builtin;refine wpList_append_lies _ rfl _ _ 62 rfl (w.heap.size+2) 61 i0 (.agg #[.int .i64 0,.int .i64 0]) 2 16 (by kernel_rfl) HI.out.1 HI.out.2.1 HI.out.2.2.1 HI.out.2.2.2 rfl (by decide) (.slice sa (zC5 p k xb (p.s k) j i).length sc) (zC5 p k xb (p.s k) j i).length (pcl (zC5 p k xb (p.s k) j i)) rfl fA.out ⟨W.heap.size,0,none⟩ 1 1 [.int .i64 (zb (p.s m) i),.int .i64 (zu (p.s m) i)] rfl rfl aB.out (by simp[Value.oneCell']) (by decide) (by unfold maxLen;omega) (by omega) (by omega) _ rfl ?_;intro g4 dA w4 bA aA pA nA)
         | go_in)
        go_roundw
        case rel=>exact⟨i+1,some ⟨g4,0,none⟩,dA,by omega,by go_num,by rw[iB.out,List.length_append];rfl,by rw[iB.out];exact zw.next bA,tA.out.grownT aA (fun q hq=>by have:=(fA.out.lt hq).1;omega),lA.grown aA lA.size (fun q hq=>by have:=(fA.out.lt hq).1;omega),by have:=aA.size;omega⟩
        case measure=>simp[intOf];omega
      ·obtain rfl:i=8:=(by omega);go_wp2;go_roundw
       case rel=>exact⟨j+1,sa,sc,by omega,by go_num,by rw[zK6 dB.out],by rw[zK6 dB.out];exact eA.out,iA.out,mA,pB⟩
       case measure=>simp[intOf];omega
   ·obtain rfl:j=8:=(by omega);go_wp2;go_ret;exact⟨_,rfl,by rw[zPj HN.out];exact eA.out.mono (by omega),mA⟩
open Classical in
noncomputable def roomN(f:Nat->zL):Nat->Nat
 | 0=>0
 | k+1=>roomN f k+(if qF (f k)then 1 else 0)
theorem zGP{f:Nat->zL}{k:Nat}(h:qF (f k)):roomN f (k+1)=roomN f k+1:=by simp[roomN,h]
theorem zFu{f:Nat->zL}{k:Nat}(h:¬qF (f k)):roomN f (k+1)=roomN f k:=by simp[roomN,h]
theorem zHd(f:Nat->zL):∀k,roomN f k<=k
 | 0=>Nat.le_refl _
 | k+1=>by
  have:=zHd f k;by_cases h:qF (f k)
  ·rw[zGP h];omega
  ·rw[zFu h];omega
open Classical in
noncomputable def zNU(p:zJ):Int:=if zv p then(roomN p.s p.n:Int)else 0
structure zEp where
 zRT:Int
 time:Int
 rs:Int
 rb:Int
 dn:Nat
 ds:Nat->Int
 db:Nat->Int
def zQ6(s:zm):zEp:=⟨s.zRT,s.time,s.rs,s.rb,s.dn,s.ds,s.db⟩
def zRD(t:Int)(s:qC):zEp:=⟨s.zRT,t,s.rs,s.rb,s.dn,s.ds,s.db⟩
def zO(W:zH)(i:Nat):zEp:=if i<W.pn then zQ6 (W.zRP i)else zRD W.time (W.zRS (i - W.pn))
def zq(W:zH):Nat:=W.pn+W.sn
theorem qS{W:zH}{i:Nat}(h:i<W.pn):zO W i=zQ6 (W.zRP i):=if_pos h
theorem yH(W:zH)(i:Nat):zO W (W.pn+i)=zRD W.time (W.zRS i):=by
 unfold zO;rw[if_neg (by omega),show W.pn+i - W.pn=i by omega]
def yP:zm:=⟨0,ByteArray.empty,ByteArray.empty,0,0,0,0,0,fun _=>0,fun _=>0⟩
open Classical in
noncomputable def zN(W:zH)(x:Int):zm:=if h:∃k,yC W x k then W.zRP h.choose else yP
theorem yA{W:zH}{x:Int}{k:Nat}(h:yC W x k):zN W x=W.zRP k:=by
 unfold zN;rw[dif_pos ⟨k,h⟩,yC.uniq (Exists.choose_spec (⟨k,h⟩:∃k,yC W x k)) h]
theorem zFG{W:zH}{x:Int}(h:∀k,k<W.pn->(W.zRP k).id≠x):zN W x=yP:=by
 unfold zN;rw[dif_neg];rintro⟨k,hk⟩;exact h k hk.1 hk.2.1
theorem zGb{W:zH}{x:Int}:∀{n:Nat},n<=W.pn->(∃k,k<n/\(W.zRP k).id=x)->∃k,yC W x k
 | 0,_,⟨k,hk,_⟩=>absurd hk (Nat.not_lt_zero _)
 | n+1,hn,⟨k,hk,e⟩=>by
  by_cases h:∃j,j<n/\(W.zRP j).id=x
  ·exact zGb (by omega) h
  ·have:k=n:=by
    by_cases h':k<n
    ·exact absurd ⟨k,h',e⟩ h
    ·omega
   subst this;exact⟨k,by omega,e,fun j hj he=>h ⟨j,hj,he⟩⟩
def yU(W:zH)(m:zEp):List (Int×Int):=zR W.zRQ m.rs m.rb
noncomputable def zCr(W:zH)(m:zEp):List (Int×Int):=zR W.zRQ (zN W m.zRT).rs (zN W m.zRT).rb
def zAP(l m:List (Int×Int)):List (Int×Int):=l.filter (fun x=>decide (x∉m))
def qQ(l m:List (Int×Int)):List (Int×Int):=l.filter (fun x=>decide (x∈m))
def zAO(l:List (Int×Int))(t:Int):List (Int×Int):=l.filter (fun x=>decide (t<x.2))
noncomputable def zFB(W:zH)(m:zEp):List (Int×Int):=zAP (yU W m) (zCr W m)
noncomputable def yD(W:zH)(m:zEp):List (Int×Int):=zAO (yU W m) (zN W m.zRT).time
def zDh(n:Nat)(f g:Nat->Int)(l:List (Int×Int)):Prop:=zEU n f g l.length (zf l) (zh l)
def zNO(now old:List (Int×Int))(t tm:Int):Prop:=∀x,x∈now->x.2<=tm/\(x∈old↔x.2<=t)
def zJF(W:zH)(m:zEp):Prop:=zDh m.dn m.ds m.db (zAP (zCr W m) (yU W m))/\zNO (yU W m) (zCr W m) (zN W m.zRT).time m.time
def zQa(W:zH)(m:zEp):Prop:=m.rb<=m.time/\zDh (yD W m).length (zf (yD W m)) (zh (yD W m)) (zFB W m)/\zDh m.dn m.ds m.db (zAP (zCr W m) (qQ (yU W m) (zCr W m)))
theorem zOQ(l m:List (Int×Int)):zAP m (qQ l m)=zAP m l:=by
 unfold zAP qQ;refine List.filter_congr fun x hx=>?_
 rw[decide_eq_decide];simp only[List.mem_filter,decide_eq_true_eq];exact⟨fun h h'=>h ⟨h',hx⟩,fun h h'=>h h'.1⟩
theorem yE{l:List (Int×Int)}{i:Nat}(h:i<l.length):l.getD i (0,0)=l[i]:=by
 rw[List.getD_eq_getElem?_getD,List.getElem?_eq_getElem h,Option.getD_some]
theorem zBS{l:List (Int×Int)}{x y:Int}:PIn l.length (zf l) (zh l) x y↔(x,y)∈l:=by
 constructor
 ·rintro⟨j,hj,e1,e2⟩;unfold zf at e1;unfold zh at e2;rw[yE hj]at e1 e2;have:l[j]=(x,y):=Prod.ext e1 e2;exact this▸List.getElem_mem hj
 ·intro h;obtain⟨j,hj,e⟩:=List.getElem_of_mem h;exact⟨j,hj,by unfold zf;rw[yE hj,e],by unfold zh;rw[yE hj,e]⟩
structure zBF (W:zH):Prop where
 right:zv W.zRQ
 ids:∀k,k<W.pn->(W.zRP k).zRT<(W.zRP k).id
 tree:∀i,i<zq W->qG W.zRQ (zO W i).rs (zO W i).rb
 time:∀i,i<zq W->0<=(zO W i).time
theorem zAX{p:zJ}{rs rb:Int}(hR:zv p)(hT:qG p rs rb){x:Int×Int}(hx:x∈zR p rs rb):zr p x.1 x.2/\x.2<=rb/\¬Has p.hn p.h x.1:=by
 rcases(zFs hR).2 hT with hz | ⟨hP,_,hA⟩
 ·rw[zR,if_pos hz]at hx;simp at hx
 ·have:=zCy hR hP x hx;exact⟨this.1,this.2,hA.2 x hx⟩
theorem zAe{p:zJ}{rs rb:Int}(hR:zv p)(hT:qG p rs rb):(zR p rs rb).Nodup:=by
 rcases(zFs hR).2 hT with hz | ⟨hP,_,hA⟩
 ·rw[zR,if_pos hz];exact List.nodup_nil
 ·exact hA.1
theorem zBF.old{W:zH}(h:zBF W)(x:Int):qG W.zRQ (zN W x).rs (zN W x).rb:=by
 by_cases hx:∃k,yC W x k
 ·obtain⟨k,hk⟩:=hx;rw[yA hk];have:=h.tree k (by unfold zq;have:=hk.1;omega);rw[qS hk.1]at this;exact this
 ·have:zN W x=yP:=by
   unfold zN;rw[dif_neg hx]
  rw[this];exact Or.inl ⟨rfl,rfl⟩
theorem zNn{p:zJ}{x y:Int}(hR:zv p)(h:zr p x y):zEw x y:=by
 have hf:=qU hR h;have h1:=hR.1;obtain⟨a,b,c,d⟩:=h;have:=hf.1.2;exact⟨b,by omega,a,by omega⟩
theorem zBJ{p:zJ}(hR:zv p){l:List (Int×Int)}(h:∀x,x∈l->zr p x.1 x.2)(hn:l.Nodup)(hl:l.length<=200):qx l.length (zf l) (zh l):=by
 have hs:=(zGX h).2 hn;refine⟨hl,fun i hi=>?_,fun i hi k hk=>?_⟩
 ·unfold zf zh;rw[yE hi];exact zNn hR (h _ (List.getElem_mem hi))
 ·unfold zf;rw[yE hi,yE (show k<l.length by omega)];unfold yK List.Nodup at hs;rw[List.pairwise_map]at hs;exact List.pairwise_iff_getElem.1 hs k i (by omega) hi hk
theorem zJ9{p:zJ}(hR:zv p){T:List (Int×Int)}(hT:∀x,x∈T->zr p x.1 x.2)(hn:T.Nodup)(hl:T.length<=200)(P Q:Int×Int->Bool) :
  zDh (T.filter P).length (zf (T.filter P)) (zh (T.filter P)) (T.filter Q)↔∀x,x∈T->P x=Q x:=by
 constructor
 ·rintro⟨_,_,aA,cA⟩;have h1:∀x,x∈T->P x=true->Q x=true:=fun x hx hp=>by
   have hm:x∈T.filter P:=List.mem_filter.2 ⟨hx,hp⟩;obtain⟨j,hj,e⟩:=List.getElem_of_mem hm;have:=cA j hj;rw[zBS]at this;unfold zf zh at this;rw[yE hj,e]at this;exact(List.mem_filter.1 this).2
  have h2:(T.filter Q).filter P=T.filter P:=by
   rw[List.filter_filter];refine List.filter_congr fun x hx=>?_
   cases hp:P x
   ·rfl
   ·rw[h1 x hx hp];rfl
  have h3:((T.filter Q).filter P).length=(T.filter Q).length:=(by rw[h2,aA]);rw[List.length_filter_eq_length_iff]at h3;intro x hx;cases hq:Q x
  ·cases hp:P x
   ·rfl
   ·rw[h1 x hx hp]at hq;exact absurd hq (by simp)
  ·exact h3 x (List.mem_filter.2 ⟨hx,hq⟩)
 ·intro h;have e:T.filter P=T.filter Q:=List.filter_congr h;rw[e];have bA:qx (T.filter Q).length (zf (T.filter Q)) (zh (T.filter Q)):=zBJ hR (fun x hx=>hT x (List.mem_filter.1 hx).1) (hn.filter _) (Nat.le_trans (List.length_filter_le _ _) hl);exact⟨bA,bA,rfl,fun i hi=>⟨i,hi,rfl,rfl⟩⟩
theorem zHl{W:zH}(h:zBF W){i:Nat}(hi:i<zq W):zQa W (zO W i)↔zJF W (zO W i):=by
 generalize hm:zO W i=m;have hT:=h.tree i hi;have eA:=h.time i hi;rw[hm]at hT eA;have bA:(yU W m).length<=200:=by have:=qP W.zRQ m.rs m.rb;unfold yU;omega
 have fA:∀x,x∈yU W m->zr W.zRQ x.1 x.2:=fun x hx=>(zAX h.right hT hx).1
 unfold zQa zJF;rw[zOQ];have key:zDh (yD W m).length (zf (yD W m)) (zh (yD W m)) (zFB W m)↔∀x,x∈yU W m->(x∈zCr W m↔x.2<=(zN W m.zRT).time):=by
  unfold yD zFB zAO zAP;rw[zJ9 h.right fA (zAe h.right hT) bA];refine⟨fun hh x hx=>?_,fun hh x hx=>?_⟩
  ·have:=hh x hx;rw[decide_eq_decide]at this;constructor
   ·intro aA;by_cases dA:(zN W m.zRT).time<x.2
    ·exact absurd aA (this.1 dA)
    ·omega
   ·intro cA;by_cases aA:x∈zCr W m
    ·exact aA
    ·have:=this.2 aA;omega
  ·rw[decide_eq_decide];have:=hh x hx;constructor
   ·intro dA aA;have:=this.1 aA;omega
   ·intro aA;by_cases cA:x.2<=(zN W m.zRT).time
    ·exact absurd (this.2 cA) aA
    ·omega
 rw[key];constructor
 ·rintro⟨h1,h2,h3⟩;exact⟨h3,fun x hx=>⟨by have:=(zAX h.right hT hx).2.1;omega,h2 x hx⟩⟩
 ·rintro⟨h1,h2⟩;refine⟨?_,fun x hx=>(h2 x hx).2,h1⟩;by_cases hz:Nil m.rs m.rb
  ·rw[hz.2];exact eA
  ·have hr:(m.rs,m.rb)∈yU W m:=(by unfold yU zR;rw[if_neg hz];simp);exact(h2 _ hr).1
theorem zNp{W:zH}{m:zEp}(hS:zJF W m):yD W m=zFB W m:=by
 unfold yD zFB zAO zAP;refine List.filter_congr fun x hx=>?_
 rw[decide_eq_decide];have:=(hS.2 x hx).2;constructor
 ·intro h1 h2;have:=this.1 h2;omega
 ·intro h1;by_cases h2:x.2<=(zN W m.zRT).time
  ·exact absurd (this.2 h2) h1
  ·omega
open Classical in
noncomputable def cnt(P:Nat->Prop):Nat->Nat
 | 0=>0
 | k+1=>cnt P k+(if P k then 1 else 0)
theorem zCM{P Q:Nat->Prop}:∀{n:Nat},(∀i,i<n->(P i↔Q i))->cnt P n=cnt Q n
 | 0,_=>rfl
 | n+1,h=>by
  unfold cnt;rw[zCM (fun i hi=>h i (by omega))];by_cases hp:P n
  ·rw[if_pos hp,if_pos ((h n (by omega)).1 hp)]
  ·rw[if_neg hp,if_neg (fun hq=>hp ((h n (by omega)).2 hq))]
theorem zPM{P Q:Nat->Prop}:∀{n:Nat},(∀i,i<n->P i->Q i)->cnt P n<=cnt Q n
 | 0,_=>Nat.le_refl _
 | n+1,h=>by
  unfold cnt;have:=zPM (n:=n) (fun i hi=>h i (by omega));by_cases hp:P n
  ·rw[if_pos hp,if_pos (h n (by omega) hp)];omega
  ·rw[if_neg hp];omega
theorem zHb{P Q:Nat->Prop}:∀{n:Nat},(∀i,i<n->P i->Q i)->(cnt P n=cnt Q n↔∀i,i<n->(P i↔Q i))
 | 0,_=>⟨fun _ i hi=>absurd hi (Nat.not_lt_zero _),fun _=>rfl⟩
 | n+1,h=>by
  refine⟨fun e=>?_,fun e=>zCM e⟩;have aA:=zPM (n:=n) (fun i hi=>h i (by omega));have ih:=zHb (n:=n) (fun i hi=>h i (by omega));unfold cnt at e;have hn:P n↔Q n:=by
   refine⟨h n (by omega),fun hq=>?_⟩;by_cases hp:P n
   ·exact hp
   ·rw[if_neg hp,if_pos hq]at e;omega
  have e':cnt P n=cnt Q n:=by
   by_cases hp:P n
   ·rw[if_pos hp,if_pos (hn.1 hp)]at e;omega
   ·rw[if_neg hp,if_neg (fun hq=>hp (hn.2 hq))]at e;omega
  intro i hi;by_cases e2:i=n
  ·subst e2;exact hn
  ·exact ih.1 e' i (by omega)
theorem zMa{P Q:Nat->Prop}:∀{n:Nat},(∀i,i<n->P i->¬Q i)->cnt (fun i=>P i\/Q i) n=cnt P n+cnt Q n
 | 0,_=>rfl
 | n+1,h=>by
  unfold cnt;rw[zMa (fun i hi=>h i (by omega))];by_cases hp:P n
  ·rw[if_pos (Or.inl hp),if_pos hp,if_neg (h n (by omega) hp)];omega
  ·by_cases hq:Q n
   ·rw[if_pos (Or.inr hq),if_neg hp,if_pos hq];omega
   ·rw[if_neg (fun h=>h.elim hp hq),if_neg hp,if_neg hq];omega
theorem zNV(P:Nat->Prop):∀n,cnt P n+cnt (fun i=>¬P i) n=n
 | 0=>rfl
 | n+1=>by
  have:=zNV P n;unfold cnt;by_cases hp:P n
  ·rw[if_pos hp,if_neg (fun h=>h hp)];omega
  ·rw[if_neg hp,if_pos hp];omega
theorem zIG{P:Nat->Prop}:∀{n:Nat},(∀i,i<n->¬P i)->cnt P n=0
 | 0,_=>rfl
 | n+1,h=>by
  unfold cnt;rw[zIG (fun i hi=>h i (by omega)),if_neg (h n (by omega))]
theorem zNe:∀{n a:Nat},a<n->cnt (fun i=>i=a) n=1
 | 0,a,h=>absurd h (Nat.not_lt_zero _)
 | n+1,a,h=>by
  unfold cnt;by_cases e:n=a
  ·subst e;rw[if_pos rfl,zIG (fun i hi=>by omega)]
  ·rw[if_neg e,zNe (by omega)]
theorem zFe{n:Nat}:∀{l:List Nat},l.Nodup->(∀x,x∈l->x<n)->cnt (fun i=>i∈l) n=l.length
 | [],_,_=>zIG (fun i hi=>by simp)
 | a :: l,hn,hl=>by
  obtain⟨h1,h2⟩:=List.nodup_cons.1 hn;have e1:cnt (fun i=>i∈a :: l) n=cnt (fun i=>i=a\/i∈l) n:=zCM (fun i _=>List.mem_cons);have e2:cnt (fun i=>i=a\/i∈l) n=cnt (fun i=>i=a) n+cnt (fun i=>i∈l) n:=zMa (fun i _ (e:i=a) hi=>h1 (e▸hi));rw[e1,e2,zNe (hl a (by simp)),zFe h2 (fun x hx=>hl x (by simp[hx])),List.length_cons];omega
theorem zLs(f:Nat->zL):∀n,roomN f n=cnt (fun i=>qF (f i)) n
 | 0=>rfl
 | n+1=>by unfold roomN cnt;rw[zLs f n]
theorem zPX{p:zJ}(hR:zv p):cnt (fun i=>Has p.hn p.h i) p.n=p.hn:=by
 have h:=hR.2.2;have hl:∀x,x∈(List.range p.hn).map (fun j=>(p.h j).toNat)->x<p.n:=by
  intro x hx;obtain⟨j,hj,rfl⟩:=List.mem_map.1 hx;have:=h j (List.mem_range.1 hj);have h1:=this.1;have h2:=this.2.1;omega
 have hn:((List.range p.hn).map (fun j=>(p.h j).toNat)).Nodup:=by
  unfold List.Nodup;rw[List.pairwise_map];refine List.Pairwise.imp_of_mem ?_ (List.pairwise_lt_range);intro a b ha hb aA e;have h1:=h a (List.mem_range.1 ha);have h2:=h b (List.mem_range.1 hb);have:=h1.1;have:=h2.1;exact h2.2.2.2 ⟨a,aA,by omega⟩
 have:=zFe hn hl;rw[List.length_map,List.length_range]at this;refine Eq.trans (zCM (fun i hi=>?_)) this;constructor
 ·rintro⟨j,hj,e⟩;exact List.mem_map.2 ⟨j,List.mem_range.2 hj,by rw[e];simp⟩
 ·intro hx;obtain⟨j,hj,e⟩:=List.mem_map.1 hx;have:=(h j (List.mem_range.1 hj)).1;exact⟨j,List.mem_range.1 hj,by omega⟩
theorem zLZ{p:zJ}(hR:zv p):cnt (fun i=>¬qF (p.s i)/\¬Has p.hn p.h i) p.n+roomN p.s p.n+p.hn=p.n:=by
 have h1:=zNV (fun i=>qF (p.s i)\/Has p.hn p.h i) p.n;have h2:cnt (fun i=>qF (p.s i)\/Has p.hn p.h i) p.n=cnt (fun i=>qF (p.s i)) p.n+cnt (fun i=>Has p.hn p.h i) p.n:=zMa (fun i hi hf=>by
  rintro⟨j,hj,e⟩;have:=(hR.2.2 j hj).2.2.1;rw[e]at this;simp only[Int.toNat_natCast]at this;exact this hf)
 rw[zPX hR,<-zLs]at h2;have h3:cnt (fun i=>¬(qF (p.s i)\/Has p.hn p.h i)) p.n=cnt (fun i=>¬qF (p.s i)/\¬Has p.hn p.h i) p.n:=zCM (fun i _=>not_or);omega
def zEm(W:zH):Prop:=∀i,i<W.zRQ.n->((∃m,m<zq W/\∃b,((i:Int),b)∈yU W (zO W m))↔(¬qF (W.zRQ.s i)/\¬Has W.zRQ.hn W.zRQ.h i))
def zGf(W:zH):Prop:=∀i,i<zq W->∀j,j<i->∀x,x∈zFB W (zO W i)->∀y,y∈zFB W (zO W j)->x.1≠y.1
noncomputable def zn(W:zH):Nat->List (Int×Int)
 | 0=>[]
 | k+1=>zn W k ++ yD W (zO W k)
def zFr(W:zH):Prop:=(zn W (zq W)).Nodup/\(zn W (zq W)).length+roomN W.zRQ.s W.zRQ.n+W.zRQ.hn=W.zRQ.n
theorem zDP{W:zH}{x:Int×Int}:∀{k:Nat},x∈zn W k↔∃i,i<k/\x∈yD W (zO W i)
 | 0=>by simp[zn]
 | k+1=>by
  unfold zn;rw[List.mem_append,zDP];constructor
  ·rintro(⟨i,hi,h⟩ | h)
   ·exact⟨i,by omega,h⟩
   ·exact⟨k,by omega,h⟩
  ·rintro⟨i,hi,h⟩;by_cases e:i=k
   ·subst e;exact Or.inr h
   ·exact Or.inl ⟨i,by omega,h⟩
theorem zGr{W:zH}:∀{k:Nat},(∀i,i<k->(yD W (zO W i)).Nodup)->((zn W k).Nodup↔∀i,i<k->∀j,j<i->∀x,x∈yD W (zO W i)->x∉yD W (zO W j))
 | 0,_=>⟨fun _ i hi=>absurd hi (Nat.not_lt_zero _),fun _=>List.nodup_nil⟩
 | k+1,hy=>by
  unfold zn;rw[List.nodup_append,zGr (fun i hi=>hy i (by omega))];constructor
  ·rintro⟨h1,h2,h3⟩ i hi j hj x hx aA;by_cases e:i=k
   ·subst e;exact h3 x (zDP.2 ⟨j,hj,aA⟩) x hx rfl
   ·exact h1 i (by omega) j hj x hx aA
  ·intro h;refine⟨fun i hi=>h i (by omega),hy k (by omega),fun x hx y bA e=>?_⟩;subst e;obtain⟨i,hi,hx⟩:=zDP.1 hx;exact h k (by omega) i hi x bA hx
theorem zLV{W:zH}(h:zBF W){x:Int×Int}:∀(N:Nat) (k:Nat),k<W.pn->(W.zRP k).id<N->0<=(W.zRP k).id->(∀j,j<W.pn->0<=(W.zRP j).id)->x∈yU W (zO W k)->∃i,i<zq W/\x∈zFB W (zO W i)
 | 0,k,hk,h1,h2,_,_=>by omega
 | N+1,k,hk,h1,h2,h0,hx=>by
  by_cases ho:x∈zCr W (zO W k)
  ·have aA:∃j,yC W (zO W k).zRT j:=by
    refine Classical.byContradiction fun bA=>?_
    have:zN W (zO W k).zRT=yP:=(by unfold zN;rw[dif_neg bA]);unfold zCr at ho;rw[this,zR,if_pos ⟨rfl,rfl⟩]at ho;simp at ho
   obtain⟨j,hj⟩:=aA;unfold zCr at ho;rw[yA hj]at ho;have e1:(zO W k).zRT=(W.zRP k).zRT:=(by rw[qS hk];rfl);have:=h.ids k hk;have:=hj.2.1;exact zLV h N j hj.1 (by omega) (h0 j hj.1) h0 (by rw[qS hj.1];exact ho)
  ·exact⟨k,by unfold zq;omega,List.mem_filter.2 ⟨hx,by simpa using ho⟩⟩
theorem zPF{W:zH}(h:zBF W)(h0:∀j,j<W.pn->0<=(W.zRP j).id){x:Int×Int}{m:Nat}(hm:m<zq W)(hx:x∈yU W (zO W m)):∃i,i<zq W/\x∈zFB W (zO W i):=by
 by_cases ho:x∈zCr W (zO W m)
 ·have aA:∃j,yC W (zO W m).zRT j:=by
   refine Classical.byContradiction fun bA=>?_
   have:zN W (zO W m).zRT=yP:=(by unfold zN;rw[dif_neg bA]);unfold zCr at ho;rw[this,zR,if_pos ⟨rfl,rfl⟩]at ho;simp at ho
  obtain⟨j,hj⟩:=aA;unfold zCr at ho;rw[yA hj]at ho;have:=h0 j hj.1;exact zLV h ((W.zRP j).id.toNat+1) j hj.1 (by omega) (h0 j hj.1) h0 (by rw[qS hj.1];exact ho)
 ·exact⟨m,hm,List.mem_filter.2 ⟨hx,by simpa using ho⟩⟩
theorem zJD{W:zH}(h:zBF W)(h0:∀j,j<W.pn->0<=(W.zRP j).id)(hM:∀i,i<zq W->zJF W (zO W i)):zFr W↔zEm W/\zGf W:=by
 have hy:∀i,i<zq W->yD W (zO W i)=zFB W (zO W i):=fun i hi=>zNp (hM i hi)
 have rA:∀i,i<zq W->(yD W (zO W i)).Nodup:=fun i hi=>(zAe h.right (h.tree i hi)).filter _
 have iA:∀i,i<zq W->∀x,x∈zFB W (zO W i)->x∈yU W (zO W i):=fun i _ x hx=>(List.mem_filter.1 hx).1
 have gA:∀i,i<zq W->∀x,x∈yU W (zO W i)->zr W.zRQ x.1 x.2/\¬Has W.zRQ.hn W.zRQ.h x.1:=fun i hi x hx=>⟨(zAX h.right (h.tree i hi) hx).1,(zAX h.right (h.tree i hi) hx).2.2⟩
 have fA:∀x y:Int×Int,zr W.zRQ x.1 x.2->zr W.zRQ y.1 y.2->x.1=y.1->x=y:=fun x y hx eA e=>by
  have a1:=hx.2.2.2;have a2:=eA.2.2.2;rw[e]at a1;exact Prod.ext e (a1.symm.trans a2)
 have hA:(zn W (zq W)).Nodup↔zGf W:=by
  rw[zGr rA];unfold zGf;constructor
  ·intro hh i hi j hj x hx y eA e;have sA:=fA x y (gA i hi x (iA i hi x hx)).1 (gA j (by omega) y (iA j (by omega) y eA)).1 e;subst sA;exact hh i hi j hj x (by rw[hy i hi];exact hx) (by rw[hy j (by omega)];exact eA)
  ·intro hh i hi j hj x hx oA;exact hh i hi j hj x (by rw[<-hy i hi];exact hx) x (by rw[<-hy j (by omega)];exact oA) rfl
 have aA:∀x,x∈zn W (zq W)↔∃m,m<zq W/\x∈yU W (zO W m):=fun x=>by
  rw[zDP];constructor
  ·rintro⟨i,hi,hx⟩;rw[hy i hi]at hx;exact⟨i,hi,iA i hi x hx⟩
  ·rintro⟨m,hm,hx⟩;obtain⟨i,hi,hx⟩:=zPF h h0 hm hx;exact⟨i,hi,by rw[hy i hi];exact hx⟩
 unfold zFr;rw[hA];constructor
 ·rintro⟨ha,pA⟩;refine⟨?_,ha⟩;have bA:=hA.2 ha;have cA:∀x,x∈zn W (zq W)->zr W.zRQ x.1 x.2:=fun x hx=>by
   obtain⟨m,hm,hx⟩:=(aA x).1 hx;exact(gA m hm x hx).1
  have hl:∀x,x∈(zn W (zq W)).map (fun x=>x.1.toNat)->x<W.zRQ.n:=by
   intro x hx;obtain⟨y,eA,rfl⟩:=List.mem_map.1 hx;have:=cA y eA;have h1:=this.2.1;have h2:=this.2.2.1;omega
  have nA:((zn W (zq W)).map (fun x=>x.1.toNat)).Nodup:=by
   unfold List.Nodup;rw[List.pairwise_map];refine List.Pairwise.imp_of_mem ?_ bA;intro a b mA jA kA e;have p1:=cA a mA;have p2:=cA b jA;have:=p1.2.1;have:=p2.2.1;exact kA (fA a b p1 p2 (by omega))
  have hc:=zFe nA hl;rw[List.length_map]at hc;have hr:=zLZ h.right;have dA:∀i,i<W.zRQ.n->(i∈(zn W (zq W)).map (fun x=>x.1.toNat)↔∃m,m<zq W/\∃b,((i:Int),b)∈yU W (zO W m)):=by
   intro i hi;rw[List.mem_map];constructor
   ·rintro⟨x,hx,e⟩;have:=(cA x hx).2.1;obtain⟨m,hm,hx⟩:=(aA x).1 hx;exact⟨m,hm,x.2,by rw[show(i:Int)=x.1 by omega];exact hx⟩
   ·rintro⟨m,hm,b,hx⟩;exact⟨(i,b),(aA _).2 ⟨m,hm,hx⟩,by simp⟩
  have lA:∀i,i<W.zRQ.n->i∈(zn W (zq W)).map (fun x=>x.1.toNat)->¬qF (W.zRQ.s i)/\¬Has W.zRQ.hn W.zRQ.h i:=by
   intro i hi hx;obtain⟨m,hm,b,hx⟩:=(dA i hi).1 hx;have:=gA m hm _ hx;refine⟨fun hf=>?_,this.2⟩;have h1:=this.1.1;have h2:=this.1.2.2.2;simp only[Int.toNat_natCast]at h2;rw[hf.1]at h2;simp only at h1 h2;omega
  have:=(zHb lA).1 (by rw[hc];omega);intro i hi;rw[<-dA i hi];exact this i hi
 ·rintro⟨tA,ha⟩;refine⟨ha,?_⟩;have bA:=hA.2 ha;have cA:∀x,x∈zn W (zq W)->zr W.zRQ x.1 x.2:=fun x hx=>by
   obtain⟨m,hm,hx⟩:=(aA x).1 hx;exact(gA m hm x hx).1
  have hl:∀x,x∈(zn W (zq W)).map (fun x=>x.1.toNat)->x<W.zRQ.n:=by
   intro x hx;obtain⟨y,eA,rfl⟩:=List.mem_map.1 hx;have:=cA y eA;have h1:=this.2.1;have h2:=this.2.2.1;omega
  have nA:((zn W (zq W)).map (fun x=>x.1.toNat)).Nodup:=by
   unfold List.Nodup;rw[List.pairwise_map];refine List.Pairwise.imp_of_mem ?_ bA;intro a b mA jA kA e;have p1:=cA a mA;have p2:=cA b jA;have:=p1.2.1;have:=p2.2.1;exact kA (fA a b p1 p2 (by omega))
  have hc:=zFe nA hl;rw[List.length_map]at hc;have hr:=zLZ h.right;have dA:∀i,i<W.zRQ.n->(i∈(zn W (zq W)).map (fun x=>x.1.toNat)↔∃m,m<zq W/\∃b,((i:Int),b)∈yU W (zO W m)):=by
   intro i hi;rw[List.mem_map];constructor
   ·rintro⟨x,hx,e⟩;have:=(cA x hx).2.1;obtain⟨m,hm,hx⟩:=(aA x).1 hx;exact⟨m,hm,x.2,by rw[show(i:Int)=x.1 by omega];exact hx⟩
   ·rintro⟨m,hm,b,hx⟩;exact⟨(i,b),(aA _).2 ⟨m,hm,hx⟩,by simp⟩
  have:=zCM (P:=fun i=>i∈(zn W (zq W)).map (fun x=>x.1.toNat)) (Q:=fun i=>¬qF (W.zRQ.s i)/\¬Has W.zRQ.hn W.zRQ.h i) (n:=W.zRQ.n) (fun i hi=>(dA i hi).trans (tA i hi));omega
end Go.Proofs.YtmgeglgboadfiaaGreatDoor
