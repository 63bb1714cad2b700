/- What spec.l02Right and spec.TreeRight answer. -/
import Derived.Test.YtmgeglgboadfiaaGreatDoorV4
set_option linter.unusedVariables false
set_option maxRecDepth 20000
set_option maxHeartbeats 4000000
namespace Go.Proofs.YtmgeglgboadfiaaGreatDoor
open Go.RowKit
theorem zPp:(Tryz.prog.info? 2).map (fun i=>(i.zero,i.size,i.bytes))=some (some (.int .i64 0),1,8):=by kernel_rfl
def zF2(w:World)(base:Nat)(v:Value)(l:List Int):Prop:=w.ownsRow base 2 1 v l.length (icl l)
theorem zF2.zRX{w w1:World}{base:Nat}{v:Value}{l:List Int}(h:zF2 w base v l)(hb:Below w.heap.size w w1):zF2 w1 base v l:=
 World.ownsRow.kept h (yt hb none) (by cases v.ownBlock<;>simp)
theorem zF2.next{w2:World}{base g aA:Nat}{l:List Int}{x:Int}(h:w2.ownsRow base 2 1 (.slice (some ⟨g,0,none⟩) (l.length+1) aA) (l.length+1) (icl l ++ [.int .i64 x])):zF2 w2 base (.slice (some ⟨g,0,none⟩) (l.length+1) aA) (l ++ [x]):=by
 unfold zF2;rw[zMW,List.length_append];exact h
theorem zF2.lt{w:World}{base:Nat}{v:Value}{l:List Int}(h:zF2 w base v l){q:Nat}(hq:v.ownBlock=some q):base<=q:=by
 rcases h.2 with⟨rfl,_⟩ | ⟨g,bA,aA,rfl,hb,hg,_⟩
 ·simp[Value.ownBlock]at hq
 ·simp only[Value.ownBlock,Option.some.injEq]at hq;subst hq;exact hb
theorem zc.grownT{w w1:World}{b:Nat}{x y:Value}{row:Option Nat}(h:zc w b x y)(hg:w.grownBy w1 row)(aA:∀q,row=some q->b<q):zc w1 b x y:=
 h.zRf (S:=fun k=>row=some k) ⟨hg.os,hg.tape,hg.output,hg.size,fun k hk aA=>hg.block k hk (fun e=>aA e.symm)⟩ (fun e=>by have:=aA b e;omega)
theorem zCR(v0 v1:Value)(lo hi:Nat)(p:zI)(xs xb:Int)(w:World)(h1:zu w lo hi v0 v1 p)(hR:zx p) :
  Calls Tryz.prog 71 #[.agg #[v0,v1],.agg #[.int .i64 xs,.int .i64 xb]] w fun e w'=>zG (qH p xs xb) e/\Below w.heap.size w w':=by
 have Hp:=zE h1;have HR:=zE hR;obtain⟨a,c,a',c',rfl,rfl⟩:∃a c a' c',v0 = .slice a p.n c/\v1 = .slice a' p.hn c':=by
  obtain⟨⟨_,a,c,h1,_⟩,⟨_,a',c',h3,_⟩⟩:=h1;exact⟨a,c,a',c',h1,h3⟩
 clear h1 hR;have fE:=zB2 w (.slice a p.n c) (.slice a' p.hn c') (.int .i64 xs) (.int .i64 xb) 33 61;obtain⟨i0,mE,kD⟩:=Option.map_eq_some_iff.1 zPp;simp only[Prod.mk.injEq]at kD;have HI:=zE (And.intro mE kD);clear mE kD;go_enter Tryz.func71,Tryz.ntmps71;go_wp2_with fail;generalize (w.alloc (.cells #[.slice a p.n c,.slice a' p.hn c'] 33)).alloc (.cells #[.int .i64 xs,.int .i64 xb] 61)=W at fE ⊢;obtain⟨hB,hX,eA,hz⟩:=fE;refine(zAD xs xb W).mono ?_;rintro e w1 ⟨⟨t,rfl,ht⟩,iC⟩;have rD:=zE (hB.zRX iC);have vD:=zE (hX.zRX iC);have tC:=zA eA iC;have iF:=iC.size;clear hB hX eA iC;by_cases hn:Nil xs xb
 ·have HN:=zE hn;obtain rfl:t=true:=ht.2 hn;clear ht hn;go_wp2;go_ret;exact⟨zG.yes (Or.inl HN.out),tC⟩
 ·have HN:=zE hn;obtain rfl:t=false:=zQ ht hn;clear ht hn;obtain⟨⟨x0,x1⟩,⟨x2,x3⟩⟩:=rD.out;obtain⟨⟨y0,y1⟩,⟨y2,y3⟩⟩:=vD.out;go_wp2_with fail;refine(zC9 _ _ lo hi p xs xb _ (Hp.out.zRX tC)).mono ?_;rintro e w2 ⟨⟨t,rfl,ht⟩,jC⟩;have dD:=zE (rD.out.zRX jC);have iD:=zE (vD.out.zRX jC);have cD:=zA tC jC;have eF:w.heap.size+2<=w2.heap.size:=(by have:=jC.size;omega);clear jC tC rD vD x0 x1 x2 x3 y0 y1 y2 y3 hz iF;by_cases dB:zAj p xs xb
  ·have gD:=zE dB;obtain rfl:t=true:=ht.2 dB;have Hf:=zE (qS HR.out dB.1);have h8:(p.s xs.toNat).kn=8:=by rcases zDb HR.out dB.1 with h | h;(have:=dB.2.1;omega);exact h
   obtain⟨k,rfl⟩:=Int.eq_ofNat_of_zero_le dB.1.2.1;have hk:k<p.n:=(by have:=dB.1.2.2.1;omega);have lF:(k:Int)<(p.n:Int):=(by omega);rw[Int.toNat_natCast]at Hf h8;have H8:=zE h8;clear ht dB;obtain⟨b,off,ka,kc,rfl,sD⟩:=Hp.out.1.cells hk;have nE:Hid (zU w lo hi (.slice ka 8 kc) 8 (p.s k).ks (p.s k).kb):=(by have:=sD.slot.2.1;rw[h8]at this;exact this);obtain⟨q0,q1,q2,_⟩:=sD.zRX cD;rw[h8]at q1;clear h8 sD;obtain⟨⟨x0,x1⟩,⟨x2,x3⟩⟩:=dD.out;obtain⟨⟨y0,y1⟩,⟨y2,y3⟩⟩:=iD.out;have iA:=zC w2 (.cells #[.int .i64 (k:Int)] 2);have iE:=zE (show zF2 (w2.alloc (.cells #[.int .i64 (k:Int)] 2)) (w.heap.size+2) (.slice (some ⟨w2.heap.size,0,none⟩) 1 1) (zAM p k (p.s k) 0)from World.ownsRow_lit (e:=2) (size:=1) w2 #[.int .i64 (k:Int)] 1 eF (by unfold maxLen;omega) rfl);have fD:=zE (dD.out.zRX iA);have oE:=zA cD iA;have c0:=(iA.cell (zD q0)).trans q0;have c1:=(iA.cell (zD q1)).trans q1;obtain⟨⟨z0,z1⟩,⟨z2,z3⟩⟩:=fD.out;obtain⟨⟨z4,z5⟩,⟨z6,z7⟩⟩:=iD.out.zRX iA;clear iA;go_wp2
   go_loopw [5,6,8] (fun sv nv i wr=>∃(j m:Nat) (sa:Option Addr) (sc:Nat),j<=8/\i = .int .i64 j/\nv = .int .i64 m/\m<=j/\(0<m↔∃i,i<j/\¬Nil (zb (p.s k) i) (zt (p.s k) i))/\sv = .slice sa (zAM p k (p.s k) j).length sc/\zF2 wr (w.heap.size+2) sv (zAM p k (p.s k) j)/\(∀i,i<j->zQm p (p.s k) i)/\(zAM p k (p.s k) j).Nodup/\zc wr w.heap.size (.slice (some ⟨b,off,none⟩) p.n c) (.slice a' p.hn c')/\Below w.heap.size w wr/\w.heap.size+2<=wr.heap.size) (fun _ _ i _=>8 - (intOf i).toNat)
   case atStart=>exact⟨0,0,_,_,Nat.zero_le _,rfl,rfl,Nat.le_refl _,⟨fun h=>absurd h (Nat.lt_irrefl _),fun ⟨i,hi,_⟩=>absurd hi (Nat.not_lt_zero _)⟩,rfl,iE.out,fun i hi=>absurd hi (Nat.not_lt_zero _),by simp[zAM,zAz,yH],fD.out,oE,by rw[World.size_alloc];omega⟩
   case round=>
    obtain⟨j,m0,sa,sc,hj,rfl,rfl,nF,kC,rfl,bB,mC,vA,aB,fB,vC⟩:=hrel;have fC:=zE kC;have nA:=zE bB;have pB:=zE mC;have mB:=zE vA;have oA:=zE aB;have jF:=zMD p k (p.s k) hj;clear kC bB mC vA aB iE fD oE c0 c1 z0 z1 z2 z3 z4 z5 z6 z7 x0 x1 x2 x3 y0 y1 y2 y3 q0 q1 q2 dD iD;by_cases pA:j<8
    ·have rE:(j:Int)<8:=(by omega);obtain⟨tb,bC,rfl,q0,q1⟩:=(nE.out.zRX fB).cellsT pA;rw[<-zC7 H8.out pA]at q0;rw[<-zEp H8.out pA]at q1;go_wp2_with fail;refine(zAD (zb (p.s k) j) (zt (p.s k) j) wr).mono ?_;rintro e W ⟨⟨t,rfl,ht⟩,hb⟩;have dA:=zA fB hb;have kA:=zE (oA.out.zRX hb);have sA:=zE (nA.out.zRX hb);have lD:w.heap.size+2<=W.heap.size:=(by have:=hb.size;omega);have eC:=(hb.cell (zD q0)).trans q0;have cC:=(hb.cell (zD q1)).trans q1;clear q0 q1 fB hb nA oA vC;have q0:=eC;have q1:=cC;clear eC cC;by_cases mA:Nil (zb (p.s k) j) (zt (p.s k) j)
     ·have jA:=zE mA;obtain rfl:t=true:=ht.2 mA;clear ht mA;go_wp2;go_roundw
      case rel=>
       refine⟨j+1,m0,sa,sc,by omega,by go_num,rfl,by omega,?_,by rw[zGl jA.out],by rw[zGl jA.out];exact sA.out,zo pA pB.out (Or.inl jA.out),by rw[zGl jA.out];exact mB.out,kA.out,dA,lD⟩;exact fC.out.trans ⟨fun ⟨i,hi,h⟩=>⟨i,by omega,h⟩,fun ⟨i,hi,h⟩=>by
        by_cases e:i=j
        ·subst e;exact absurd jA.out h
        ·exact⟨i,by omega,h⟩⟩
      case measure=>simp[intOf];omega
     ·have jA:=zE mA;obtain rfl:t=false:=zQ ht mA;clear ht mA;have gA:=zE (show(zAM p k (p.s k) j).length<=maxLen by unfold maxLen;omega);obtain⟨⟨x0,x1⟩,⟨x2,x3⟩⟩:=kA.out;by_cases nC:zAj p (zb (p.s k) j) (zt (p.s k) j)
      ·have gB:=zE nC;clear nC;by_cases bD:zb (p.s k) j∈zAM p k (p.s k) j
       ·have lC:=zE bD;clear bD;go_wp2_with fail;refine wp_region_held_drew (S:=(fun w'=>w'.cell? ⟨w.heap.size,0,none⟩=some (.slice (some ⟨b,off,none⟩) p.n c)/\w'.cell? ⟨w.heap.size,1,none⟩=some (.slice a' p.hn c')/\w'.cell? ⟨tb,bC+j*2,none⟩=some (.int .i64 (zb (p.s k) j))/\w'.cell? ⟨tb,bC+j*2+1,none⟩=some (.int .i64 (zt (p.s k) j)))) (by kernel_rfl) ?_ (fun hHeld=>?_)
        ·(try dsimp only)
         go_keep
        refine tk 0 (h:=tk 1 (h:=tk 2 (h:=tk 3 (h:=tk 4 (h:=?_)))));refine rd [5] (rc (fun K hK=>?_) .nil);go_simp;go_at_call 139;refine(zC9 _ _ lo hi p (zb (p.s k) j) (zt (p.s k) j) _ ?_).mono ?_
        ·first | exact Hp.out.zRX dA | exact Hp.out.zRX dA.drew
        rintro e wa ⟨⟨ta,rfl,fA⟩,eA⟩;obtain rfl:ta=true:=fA.2 gB.out;clear fA;have aA:Below W.heap.size W wa:=(by first | exact eA | exact zK eA);obtain⟨⟨k0,_⟩,⟨k1,_⟩⟩:=kA.out.zRX aA;have k2:=(aA.cell (zD q0)).trans q0;have k3:=(aA.cell (zD q1)).trans q1
        (try go_wp2_with fail)
        refine hK.out _ _ (by(try dsimp only);go_keep) ?_;clear hK K hHeld;intro hHeld
        try simp only[Act.put,s1,s2,s3]
        refine tk 6 (h:=tk 7 (h:=tk 8 (h:=tk 9 (h:=tk 10 (h:=tk 11 (h:=tk 12 (h:=tk 13 (h:=?_))))))));refine rd [14] (rc (fun K hK=>?_) .nil);go_simp;go_at_call 75;refine(zAT _ _ 0 _ _ (zb (p.s k) j) _ (zFm gA.out (sA.out.kept (yt aA none) (by rcases Value.ownBlock _<;>simp)))).mono ?_;rintro e wb ⟨⟨nB,rfl,cA⟩,rfl⟩;rw[zFr]at cA;obtain rfl:nB=true:=cA.2 lC.out;clear cA
        (try go_wp2_with fail)
        refine hK.out _ _ (by(try dsimp only);go_keep) ?_;clear hK K hHeld;intro hHeld
        try simp only[Act.put,s1,s2,s3]
        refine tk 15 (h:=?_);refine wpAnyH_done (by kernel_rfl) ?_ _;have rA:=zA dA aA;go_wp2;go_ret;refine⟨zG.no fun h=>?_,rA⟩;have hd:=zJW HN.out (h.resolve_left HN.out).2.2 pA (Nat.zero_le _) jA.out;exact(zDp.1 (show(zAM p k (p.s k) j ++ [zb (p.s k) j]).Nodup from hd)).2 lC.out
       ·have lC:=zE bD;clear bD;go_wp2_with fail;refine wp_region_held_drew (S:=(fun w'=>w'.cell? ⟨w.heap.size,0,none⟩=some (.slice (some ⟨b,off,none⟩) p.n c)/\w'.cell? ⟨w.heap.size,1,none⟩=some (.slice a' p.hn c')/\w'.cell? ⟨tb,bC+j*2,none⟩=some (.int .i64 (zb (p.s k) j))/\w'.cell? ⟨tb,bC+j*2+1,none⟩=some (.int .i64 (zt (p.s k) j)))) (by kernel_rfl) ?_ (fun hHeld=>?_)
        ·(try dsimp only)
         go_keep
        refine tk 0 (h:=tk 1 (h:=tk 2 (h:=tk 3 (h:=tk 4 (h:=?_)))));refine rd [5] (rc (fun K hK=>?_) .nil);go_simp;go_at_call 139;refine(zC9 _ _ lo hi p (zb (p.s k) j) (zt (p.s k) j) _ ?_).mono ?_
        ·first | exact Hp.out.zRX dA | exact Hp.out.zRX dA.drew
        rintro e wa ⟨⟨ta,rfl,fA⟩,eA⟩;obtain rfl:ta=true:=fA.2 gB.out;clear fA;have aA:Below W.heap.size W wa:=(by first | exact eA | exact zK eA);obtain⟨⟨k0,_⟩,⟨k1,_⟩⟩:=kA.out.zRX aA;have k2:=(aA.cell (zD q0)).trans q0;have k3:=(aA.cell (zD q1)).trans q1
        (try go_wp2_with fail)
        refine hK.out _ _ (by(try dsimp only);go_keep) ?_;clear hK K hHeld;intro hHeld
        try simp only[Act.put,s1,s2,s3]
        refine tk 6 (h:=tk 7 (h:=tk 8 (h:=tk 9 (h:=tk 10 (h:=tk 11 (h:=tk 12 (h:=tk 13 (h:=?_))))))));refine rd [14] (rc (fun K hK=>?_) .nil);go_simp;go_at_call 75;refine(zAT _ _ 0 _ _ (zb (p.s k) j) _ (zFm gA.out (sA.out.kept (yt aA none) (by rcases Value.ownBlock _<;>simp)))).mono ?_;rintro e wb ⟨⟨nB,rfl,cA⟩,rfl⟩;rw[zFr]at cA;obtain rfl:nB=false:=zQ cA lC.out;clear cA
        (try go_wp2_with fail)
        refine hK.out _ _ (by(try dsimp only);go_keep) ?_;clear hK K hHeld;intro hHeld
        try simp only[Act.put,s1,s2,s3]
        refine tk 15 (h:=?_);refine wpAnyH_done (by kernel_rfl) ?_ _;have rA:=zA dA aA;have aF:w.heap.size+2<=wb.heap.size:=(by have:=aA.size;omega);obtain⟨m,hm⟩:=Int.eq_ofNat_of_zero_le gB.out.1.2.1;have gF:m<p.n:=(by have:=gB.out.1.2.2.1;omega);have vE:(m:Int)<(p.n:Int):=(by omega);have aD:(zb (p.s k) j).toNat=m:=(by rw[hm];rfl);have lE:=zE (qS HR.out gB.out.1);rw[aD]at lE;have eD:(p.s m).kn=8:=by
         have h0:=gB.out.2.1;rw[aD]at h0;rcases zEs lE.out with h | h
         ·omega
         ·exact h
        have jD:=zE eD;obtain⟨_,_,ua,uc,ha,mD⟩:=Hp.out.1.cells gF;simp only[Option.some.injEq,Addr.mk.injEq,and_true]at ha;obtain⟨rfl,rfl⟩:=ha;have dF:Hid (zU w lo hi (.slice ua 8 uc) 8 (p.s m).ks (p.s m).kb):=(by have:=mD.slot.2.1;rw[eD]at this;exact this);have tE:=zE mD;have Hm:=zE hm;have aC:=zE aD;have iA:=zC wb (.cells #[.int .i64 (zb (p.s k) j)] 2);have lB:=zE ((sA.out.zRX aA).zRX iA);have rC:=zE ((kA.out.zRX aA).zRX iA);have sB:=zA rA iA;have bF:(wb.alloc (.cells #[.int .i64 (zb (p.s k) j)] 2)).heap.size=wb.heap.size+1:=World.size_alloc _ _;have oC:=zE (World.news_of_block (heap_alloc_last wb (.cells #[.int .i64 (zb (p.s k) j)] 2)));have kF:(m0:Int)<9:=(by omega);clear mD eD hm aD iA sA kA dA aA q0 q1 k0 k1 k3 x0 x1 x2 x3;go_wp2_with (first
         | (at_builtin;refine wpList_append_lies _ rfl _ _ 23 rfl (w.heap.size+2) 2 i0 (.int .i64 0) 1 8 (by kernel_rfl) HI.out.1 HI.out.2.1 HI.out.2.2.1 HI.out.2.2.2 rfl (by decide) (.slice sa (zAM p k (p.s k) j).length sc) (zAM p k (p.s k) j).length (icl (zAM p k (p.s k) j)) rfl lB.out ⟨wb.heap.size,0,none⟩ 1 1 [.int .i64 (zb (p.s k) j)] rfl rfl oC.out (by simp[Value.oneCell']) (by decide) (by unfold maxLen;omega) (by omega) (by omega) _ rfl ?_;intro g4 jB w4 lA bA dC gC)
         | fail)
        have bE:Hid (zF2 w4 (w.heap.size+2) (.slice (some ⟨g4,0,none⟩) ((zAM p k (p.s k) j).length+1) jB) (zBQ p k (p.s k) j 0)):=by
         rw[zGe];exact zF2.next lA
        have sC:Below w.heap.size w w4:=sB.grown bA sB.size (fun q hq=>by have:=lB.out.lt hq;omega);have tD:=zE (rC.out.grownT bA (fun q hq=>by have:=lB.out.lt hq;omega));have jE:w.heap.size+2<=w4.heap.size:=(by have:=bA.size;omega);have cE:(zBQ p k (p.s k) j 0).Nodup:=(by rw[zGe];exact zDp.2 ⟨mB.out,lC.out⟩);have aE:=zE cE;clear lA bA dC gC lB rC sB rA oC cE k2;obtain⟨_,_,ha,q0,q1⟩:=(nE.out.zRX sC).cellsT pA;simp only[Option.some.injEq,Addr.mk.injEq,and_true]at ha;obtain⟨rfl,rfl⟩:=ha;rw[<-zC7 H8.out pA,Hm.out]at q0;obtain⟨r0,r1,r2,_⟩:=tE.out.zRX sC;rw[jD.out]at r1;obtain⟨⟨x0,x1⟩,⟨x2,x3⟩⟩:=tD.out
        go_quiet (fail)
        go_wp2
        go_loopw [5,9,11] (fun sv nv i wr=>∃(i' m1:Nat) (sa:Option Addr) (sc:Nat),i'<=8/\i = .int .i64 i'/\nv = .int .i64 m1/\m1<=i'/\(0<m1↔∃i,i<i'/\¬Nil (zb (p.s m) i) (zt (p.s m) i))/\sv = .slice sa (zBQ p k (p.s k) j i').length sc/\zF2 wr (w.heap.size+2) sv (zBQ p k (p.s k) j i')/\(∀i,i<i'->Nil (zb (p.s m) i) (zt (p.s m) i)\/zBj p (zb (p.s m) i) (zt (p.s m) i))/\(zBQ p k (p.s k) j i').Nodup/\zc wr w.heap.size (.slice (some ⟨b,off,none⟩) p.n c) (.slice a' p.hn c')/\Below w.heap.size w wr/\w.heap.size+2<=wr.heap.size) (fun _ _ i _=>8 - (intOf i).toNat)
        case atStart=>exact⟨0,0,some ⟨g4,0,none⟩,jB,Nat.zero_le _,rfl,rfl,Nat.le_refl _,⟨fun h=>absurd h (Nat.lt_irrefl _),fun ⟨i,hi,_⟩=>absurd hi (Nat.not_lt_zero _)⟩,by rw[zGe,List.length_append];rfl,bE.out.zRX (zg (Below.refl _ _) _),fun i hi=>absurd hi (Nat.not_lt_zero _),aE.out,tD.out.zRX (zg (Below.refl _ _) _),zg sC _,jE⟩
        case round=>
         obtain⟨i,m1,sa,sc,cF,rfl,rfl,mF,kB,rfl,bB,kE,vA,aB,fB,vC⟩:=hrel;have cB:=zE kB;have nA:=zE bB;have oD:=zE kE;have tA:=zE vA;have oA:=zE aB;have gE:=zQC p k (p.s k) (show j<=8 by omega) cF;clear kB bB kE vA aB bE tD sC aE x0 x1 x2 x3 q0 q1 r0 r1 r2 jE;by_cases rB:i<8
         ·have fF:(i:Int)<8:=(by omega);obtain⟨ub,tB,rfl,q0,q1⟩:=(dF.out.zRX fB).cellsT rB;rw[<-zC7 jD.out rB]at q0;rw[<-zEp jD.out rB]at q1;go_wp2_with fail;refine(zAD (zb (p.s m) i) (zt (p.s m) i) wr).mono ?_;rintro e W ⟨⟨t,rfl,ht⟩,hb⟩;have dA:=zA fB hb;have kA:=zE (oA.out.zRX hb);have sA:=zE (nA.out.zRX hb);have lD:w.heap.size+2<=W.heap.size:=(by have:=hb.size;omega);have eC:=(hb.cell (zD q0)).trans q0;have cC:=(hb.cell (zD q1)).trans q1;clear q0 q1 fB hb nA oA vC;have q0:=eC;have q1:=cC;clear eC cC;by_cases mA:Nil (zb (p.s m) i) (zt (p.s m) i)
          ·have oB:=zE mA;obtain rfl:t=true:=ht.2 mA;clear ht mA;have es:zBQ p k (p.s k) j (i+1)=zBQ p k (p.s k) j i:=zP5 (by rw[aC.out];exact oB.out);go_wp2;go_roundw
           case rel=>
            refine⟨i+1,m1,sa,sc,by omega,by go_num,rfl,by omega,?_,by rw[es],by rw[es];exact sA.out,zo rB oD.out (Or.inl oB.out),by rw[es];exact tA.out,kA.out,dA,lD⟩;exact cB.out.trans ⟨fun ⟨i,hi,h⟩=>⟨i,by omega,h⟩,fun ⟨i',hi,h⟩=>by
             by_cases e:i'=i
             ·subst e;exact absurd oB.out h
             ·exact⟨i',by omega,h⟩⟩
           case measure=>simp[intOf];omega
          ·have oB:=zE mA;obtain rfl:t=false:=zQ ht mA;clear ht mA;have gA:=zE (show(zBQ p k (p.s k) j i).length<=maxLen by unfold maxLen;omega);obtain⟨⟨x0,x1⟩,⟨x2,x3⟩⟩:=kA.out;have es:zBQ p k (p.s k) j (i+1)=zBQ p k (p.s k) j i ++ [zb (p.s m) i]:=(by have:=zPG (p:=p) (rs:=(k:Int)) (s:=p.s k) (j:=j) (i:=i) (by rw[aC.out];exact oB.out);rw[aC.out]at this;exact this);have pC:=zE es;clear es;by_cases hP:zBj p (zb (p.s m) i) (zt (p.s m) i)
           ·have vB:=zE hP;clear hP;by_cases iB:zb (p.s m) i∈zBQ p k (p.s k) j i
            ·have eB:=zE iB;clear iB;go_wp2_with fail;refine wp_region_held_drew (S:=(fun w'=>w'.cell? ⟨w.heap.size,0,none⟩=some (.slice (some ⟨b,off,none⟩) p.n c)/\w'.cell? ⟨w.heap.size,1,none⟩=some (.slice a' p.hn c')/\w'.cell? ⟨ub,tB+i*2,none⟩=some (.int .i64 (zb (p.s m) i))/\w'.cell? ⟨ub,tB+i*2+1,none⟩=some (.int .i64 (zt (p.s m) i)))) (by kernel_rfl) ?_ (fun hHeld=>?_)
             ·(try dsimp only)
              go_keep
             refine tk 0 (h:=tk 1 (h:=tk 2 (h:=tk 3 (h:=tk 4 (h:=?_)))));refine rd [5] (rc (fun K hK=>?_) .nil);go_simp;go_at_call 140;refine(zEU _ _ lo hi p (zb (p.s m) i) (zt (p.s m) i) _ ?_).mono ?_
             ·first | exact Hp.out.zRX dA | exact Hp.out.zRX dA.drew
             rintro e wa ⟨⟨ta,rfl,fA⟩,eA⟩;obtain rfl:ta=true:=fA.2 vB.out;clear fA;have aA:Below W.heap.size W wa:=(by first | exact eA | exact zK eA);obtain⟨⟨k0,_⟩,⟨k1,_⟩⟩:=kA.out.zRX aA;have k2:=(aA.cell (zD q0)).trans q0;have k3:=(aA.cell (zD q1)).trans q1
             (try go_wp2_with fail)
             refine hK.out _ _ (by(try dsimp only);go_keep) ?_;clear hK K hHeld;intro hHeld
             try simp only[Act.put,s1,s2,s3]
             refine tk 6 (h:=tk 7 (h:=tk 8 (h:=tk 9 (h:=tk 10 (h:=tk 11 (h:=tk 12 (h:=tk 13 (h:=?_))))))));refine rd [14] (rc (fun K hK=>?_) .nil);go_simp;go_at_call 75;refine(zAT _ _ 0 _ _ (zb (p.s m) i) _ (zFm gA.out (sA.out.kept (yt aA none) (by rcases Value.ownBlock _<;>simp)))).mono ?_;rintro e wb ⟨⟨nB,rfl,cA⟩,rfl⟩;rw[zFr]at cA;obtain rfl:nB=true:=cA.2 eB.out;clear cA
             (try go_wp2_with fail)
             refine hK.out _ _ (by(try dsimp only);go_keep) ?_;clear hK K hHeld;intro hHeld
             try simp only[Act.put,s1,s2,s3]
             refine tk 15 (h:=?_);refine wpAnyH_done (by kernel_rfl) ?_ _;have rA:=zA dA aA;go_wp2;go_ret;refine⟨zG.no fun h=>?_,rA⟩;have hd:=zJW HN.out (h.resolve_left HN.out).2.2 pA (show i+1<=8 by omega) jA.out;have eE:(zBQ p k (p.s k) j (i+1)).Nodup:=hd;rw[pC.out]at eE;exact(zDp.1 eE).2 eB.out
            ·have eB:=zE iB;clear iB;go_wp2_with fail;refine wp_region_held_drew (S:=(fun w'=>w'.cell? ⟨w.heap.size,0,none⟩=some (.slice (some ⟨b,off,none⟩) p.n c)/\w'.cell? ⟨w.heap.size,1,none⟩=some (.slice a' p.hn c')/\w'.cell? ⟨ub,tB+i*2,none⟩=some (.int .i64 (zb (p.s m) i))/\w'.cell? ⟨ub,tB+i*2+1,none⟩=some (.int .i64 (zt (p.s m) i)))) (by kernel_rfl) ?_ (fun hHeld=>?_)
             ·(try dsimp only)
              go_keep
             refine tk 0 (h:=tk 1 (h:=tk 2 (h:=tk 3 (h:=tk 4 (h:=?_)))));refine rd [5] (rc (fun K hK=>?_) .nil);go_simp;go_at_call 140;refine(zEU _ _ lo hi p (zb (p.s m) i) (zt (p.s m) i) _ ?_).mono ?_
             ·first | exact Hp.out.zRX dA | exact Hp.out.zRX dA.drew
             rintro e wa ⟨⟨ta,rfl,fA⟩,eA⟩;obtain rfl:ta=true:=fA.2 vB.out;clear fA;have aA:Below W.heap.size W wa:=(by first | exact eA | exact zK eA);obtain⟨⟨k0,_⟩,⟨k1,_⟩⟩:=kA.out.zRX aA;have k2:=(aA.cell (zD q0)).trans q0;have k3:=(aA.cell (zD q1)).trans q1
             (try go_wp2_with fail)
             refine hK.out _ _ (by(try dsimp only);go_keep) ?_;clear hK K hHeld;intro hHeld
             try simp only[Act.put,s1,s2,s3]
             refine tk 6 (h:=tk 7 (h:=tk 8 (h:=tk 9 (h:=tk 10 (h:=tk 11 (h:=tk 12 (h:=tk 13 (h:=?_))))))));refine rd [14] (rc (fun K hK=>?_) .nil);go_simp;go_at_call 75;refine(zAT _ _ 0 _ _ (zb (p.s m) i) _ (zFm gA.out (sA.out.kept (yt aA none) (by rcases Value.ownBlock _<;>simp)))).mono ?_;rintro e wb ⟨⟨nB,rfl,cA⟩,rfl⟩;rw[zFr]at cA;obtain rfl:nB=false:=zQ cA eB.out;clear cA
             (try go_wp2_with fail)
             refine hK.out _ _ (by(try dsimp only);go_keep) ?_;clear hK K hHeld;intro hHeld
             try simp only[Act.put,s1,s2,s3]
             refine tk 15 (h:=?_);refine wpAnyH_done (by kernel_rfl) ?_ _;have rA:=zA dA aA;have aF:w.heap.size+2<=wb.heap.size:=(by have:=aA.size;omega);have iA:=zC wb (.cells #[.int .i64 (zb (p.s m) i)] 2);have lB:=zE ((sA.out.zRX aA).zRX iA);have rC:=zE ((kA.out.zRX aA).zRX iA);have sB:=zA rA iA;have bF:(wb.alloc (.cells #[.int .i64 (zb (p.s m) i)] 2)).heap.size=wb.heap.size+1:=World.size_alloc _ _;have oC:=zE (World.news_of_block (heap_alloc_last wb (.cells #[.int .i64 (zb (p.s m) i)] 2)));have sE:(m1:Int)<9:=(by omega);clear iA sA kA dA aA q0 q1 k0 k1 k3 x0 x1 x2 x3;go_wp2_with (first
              | (at_builtin;refine wpList_append_lies _ rfl _ _ 23 rfl (w.heap.size+2) 2 i0 (.int .i64 0) 1 8 (by kernel_rfl) HI.out.1 HI.out.2.1 HI.out.2.2.1 HI.out.2.2.2 rfl (by decide) (.slice sa (zBQ p k (p.s k) j i).length sc) (zBQ p k (p.s k) j i).length (icl (zBQ p k (p.s k) j i)) rfl lB.out ⟨wb.heap.size,0,none⟩ 1 1 [.int .i64 (zb (p.s m) i)] rfl rfl oC.out (by simp[Value.oneCell']) (by decide) (by unfold maxLen;omega) (by omega) (by omega) _ rfl ?_;intro g4 jB w4 lA bA dC gC)
              | go_in)
             go_roundw
             case rel=>
              refine⟨i+1,m1+1,some ⟨g4,0,none⟩,jB,by omega,by go_num,by go_num,by omega,⟨fun _=>⟨i,by omega,oB.out⟩,fun _=>by omega⟩,by rw[pC.out,List.length_append];rfl,by rw[pC.out];exact zF2.next lA,zo rB oD.out (Or.inr vB.out),by rw[pC.out];exact zDp.2 ⟨tA.out,eB.out⟩,rC.out.grownT bA (fun q hq=>by have:=lB.out.lt hq;omega),sB.grown bA sB.size (fun q hq=>by have:=lB.out.lt hq;omega),by have:=bA.size;omega⟩
             case measure=>simp[intOf];omega
           ·have vB:=zE hP;clear hP;go_wp2_with fail;refine wp_region_held_drew (S:=(fun w'=>w'.cell? ⟨w.heap.size,0,none⟩=some (.slice (some ⟨b,off,none⟩) p.n c)/\w'.cell? ⟨w.heap.size,1,none⟩=some (.slice a' p.hn c')/\w'.cell? ⟨ub,tB+i*2,none⟩=some (.int .i64 (zb (p.s m) i))/\w'.cell? ⟨ub,tB+i*2+1,none⟩=some (.int .i64 (zt (p.s m) i)))) (by kernel_rfl) ?_ (fun hHeld=>?_)
            ·(try dsimp only)
             go_keep
            refine tk 0 (h:=tk 1 (h:=tk 2 (h:=tk 3 (h:=tk 4 (h:=?_)))));refine rd [5] (rc (fun K hK=>?_) .nil);go_simp;go_at_call 140;refine(zEU _ _ lo hi p (zb (p.s m) i) (zt (p.s m) i) _ ?_).mono ?_
            ·first | exact Hp.out.zRX dA | exact Hp.out.zRX dA.drew
            rintro e wa ⟨⟨ta,rfl,fA⟩,eA⟩;obtain rfl:ta=false:=zQ fA vB.out;clear fA;have aA:Below W.heap.size W wa:=(by first | exact eA | exact zK eA);obtain⟨⟨k0,_⟩,⟨k1,_⟩⟩:=kA.out.zRX aA;have k2:=(aA.cell (zD q0)).trans q0;have k3:=(aA.cell (zD q1)).trans q1
            (try go_wp2_with fail)
            refine hK.out _ _ (by(try dsimp only);go_keep) ?_;clear hK K hHeld;intro hHeld
            try simp only[Act.put,s1,s2,s3]
            refine tk 6 (h:=tk 7 (h:=ts 8 (h:=ts 9 (h:=ts 10 (h:=ts 11 (h:=ts 12 (h:=ts 13 (h:=?_))))))));refine rd [14] (rc (fun K hK=>?_) .nil);split
            ·rename_i pD
             exact absurd (show false=true from pD) Bool.false_ne_true
            refine hK.out _ _ (by assumption) (fun hHeld=>?_);clear hK K
            try simp only[Act.put,s1,s2,s3]
            refine tk 15 (h:=?_);refine wpAnyH_done (by kernel_rfl) ?_ _;have rA:=zA dA aA;go_wp2;go_ret;refine⟨zG.no fun h=>?_,rA⟩;rcases(h.resolve_left HN.out).2.1.1 j pA with h | h
            ·exact jA.out h
            ·have h2:Nil (zb (p.s (zb (p.s k) j).toNat) i) (zt (p.s (zb (p.s k) j).toNat) i)\/zBj p (zb (p.s (zb (p.s k) j).toNat) i) (zt (p.s (zb (p.s k) j).toNat) i):=h.2.1 i rB;rw[aC.out]at h2;rcases h2 with h2 | h2
             ·exact oB.out h2
             ·exact vB.out h2
         ·obtain rfl:i=8:=(by omega);by_cases dE:m1=0
          ·subst dE;have e0:((0:Nat):Int)=0:=rfl;go_wp2;go_ret;refine⟨zG.no fun h=>?_,fB⟩;rcases(h.resolve_left HN.out).2.1.1 j pA with h | h
           ·exact jA.out h
           ·have h2:∃i,i<8/\¬Nil (zb (p.s (zb (p.s k) j).toNat) i) (zt (p.s (zb (p.s k) j).toNat) i):=h.2.2;rw[aC.out]at h2;have:=cB.out.2 h2;omega
          ·have e0:((m1:Int) == 0)=false:=(by simp;omega);have pE:=zE (show 0<m1 by omega);have nD:Hid (zPV p (p.s (zb (p.s k) j).toNat)):=(by rw[aC.out];exact⟨oD.out,cB.out.1 pE.out⟩);clear dE;go_wp2;go_roundw
           case rel=>
            refine⟨j+1,m0+1,sa,sc,by omega,by go_num,by go_num,by omega,⟨fun _=>⟨j,by omega,jA.out⟩,fun _=>by omega⟩,by rw[zEr jA.out],by rw[zEr jA.out];exact nA.out,zo pA pB.out (Or.inr ⟨gB.out,nD.out⟩),by rw[zEr jA.out];exact tA.out,oA.out,fB,vC⟩
           case measure=>simp[intOf];omega
      ·have gB:=zE nC;clear nC;go_wp2_with fail;refine wp_region_held_drew (S:=(fun w'=>w'.cell? ⟨w.heap.size,0,none⟩=some (.slice (some ⟨b,off,none⟩) p.n c)/\w'.cell? ⟨w.heap.size,1,none⟩=some (.slice a' p.hn c')/\w'.cell? ⟨tb,bC+j*2,none⟩=some (.int .i64 (zb (p.s k) j))/\w'.cell? ⟨tb,bC+j*2+1,none⟩=some (.int .i64 (zt (p.s k) j)))) (by kernel_rfl) ?_ (fun hHeld=>?_)
       ·(try dsimp only)
        go_keep
       refine tk 0 (h:=tk 1 (h:=tk 2 (h:=tk 3 (h:=tk 4 (h:=?_)))));refine rd [5] (rc (fun K hK=>?_) .nil);go_simp;go_at_call 139;refine(zC9 _ _ lo hi p (zb (p.s k) j) (zt (p.s k) j) _ ?_).mono ?_
       ·first | exact Hp.out.zRX dA | exact Hp.out.zRX dA.drew
       rintro e wa ⟨⟨ta,rfl,fA⟩,eA⟩;obtain rfl:ta=false:=zQ fA gB.out;clear fA;have aA:Below W.heap.size W wa:=(by first | exact eA | exact zK eA);obtain⟨⟨k0,_⟩,⟨k1,_⟩⟩:=kA.out.zRX aA;have k2:=(aA.cell (zD q0)).trans q0;have k3:=(aA.cell (zD q1)).trans q1
       (try go_wp2_with fail)
       refine hK.out _ _ (by(try dsimp only);go_keep) ?_;clear hK K hHeld;intro hHeld
       try simp only[Act.put,s1,s2,s3]
       refine tk 6 (h:=tk 7 (h:=ts 8 (h:=ts 9 (h:=ts 10 (h:=ts 11 (h:=ts 12 (h:=ts 13 (h:=?_))))))));refine rd [14] (rc (fun K hK=>?_) .nil);split
       ·rename_i pD
        exact absurd (show false=true from pD) Bool.false_ne_true
       refine hK.out _ _ (by assumption) (fun hHeld=>?_);clear hK K
       try simp only[Act.put,s1,s2,s3]
       refine tk 15 (h:=?_);refine wpAnyH_done (by kernel_rfl) ?_ _;have rA:=zA dA aA;go_wp2;go_ret;refine⟨zG.no fun h=>?_,rA⟩;rcases(h.resolve_left HN.out).2.1.1 j pA with h | h
       ·exact jA.out h
       ·exact gB.out h.1
    ·obtain rfl:j=8:=(by omega);go_wp2;go_ret;refine⟨⟨_,rfl,?_⟩,fB⟩;have hc:=fC.out;constructor
     ·intro h;refine Or.inr ⟨gD.out,⟨pB.out,hc.1 (by simpa using h)⟩,?_⟩;rw[zIT HN.out];exact mB.out
     ·intro h;have:=hc.2 (h.resolve_left HN.out).2.1.2;simpa using this
  ·have gD:=zE dB;obtain rfl:t=false:=zQ ht dB;clear ht dB;go_wp2;go_ret;exact⟨zG.no fun h=>(h.resolve_left HN.out).1 |> gD.out,cD⟩
def zED(p:zI)(rs rb:Int)(s:zL)(j:Nat):List (Int×Int):=(rs,rb) :: zAz p s j
def zDH(p:zI)(rs rb:Int)(s:zL)(j i:Nat):List (Int×Int):=zED p rs rb s j ++ ((zb s j,zt s j) :: kidsUp (zb (p.s (zb s j).toNat)) (zt (p.s (zb s j).toNat)) i)
theorem zPc{p:zI}{rs rb:Int}(hz:¬Nil rs rb):zR p rs rb=zED p rs rb (p.s rs.toNat) 8:=if_neg hz
theorem zLQ{p:zI}{rs rb:Int}{s:zL}{j:Nat}(hn:¬Nil (zb s j) (zt s j)):zED p rs rb s (j+1)=zDH p rs rb s j 8:=by
 unfold zED zDH zED;rw[zAz,zMK hn];rfl
theorem zLc{p:zI}{rs rb:Int}{s:zL}{j:Nat}(hn:Nil (zb s j) (zt s j)):zED p rs rb s (j+1)=zED p rs rb s j:=by
 unfold zED;rw[zAz,show zE7 p (zb s j) (zt s j) = [] from if_pos hn,List.append_nil]
theorem zII(p:zI)(rs rb:Int)(s:zL)(j:Nat):zDH p rs rb s j 0=zED p rs rb s j ++ [(zb s j,zt s j)]:=rfl
theorem zOU{p:zI}{rs rb:Int}{s:zL}{j i:Nat}(hn:Nil (zb (p.s (zb s j).toNat) i) (zt (p.s (zb s j).toNat) i)):zDH p rs rb s j (i+1)=zDH p rs rb s j i:=by
 unfold zDH;rw[kidsUp,show one (zb (p.s (zb s j).toNat) i) (zt (p.s (zb s j).toNat) i) = [] from if_pos hn,List.append_nil]
theorem zOH{p:zI}{rs rb:Int}{s:zL}{j i:Nat}(hn:¬Nil (zb (p.s (zb s j).toNat) i) (zt (p.s (zb s j).toNat) i)):zDH p rs rb s j (i+1)=zDH p rs rb s j i ++ [(zb (p.s (zb s j).toNat) i,zt (p.s (zb s j).toNat) i)]:=by
 unfold zDH;rw[kidsUp,show one (zb (p.s (zb s j).toNat) i) (zt (p.s (zb s j).toNat) i) = [(zb (p.s (zb s j).toNat) i,zt (p.s (zb s j).toNat) i)] from if_neg hn,List.append_assoc];rfl
theorem zNj(p:zI)(rs rb:Int)(s:zL){j:Nat}(hj:j<=8):(zED p rs rb s j).length<=73:=by
 have:=zEo p s j;simp only[zED,List.length_cons];omega
theorem zOq(p:zI)(rs rb:Int)(s:zL){j i:Nat}(hj:j<=8)(hi:i<=8):(zDH p rs rb s j i).length<=90:=by
 have h1:=zNj p rs rb s hj;have h2:=zBB (zb (p.s (zb s j).toNat)) (zt (p.s (zb s j).toNat)) i;simp only[zDH,List.length_append,List.length_cons];omega
theorem zw.next{w2:World}{base g aA:Nat}{l:List (Int×Int)}{x y:Int}(h:w2.ownsRow base 61 2 (.slice (some ⟨g,0,none⟩) (l.length+1) aA) (l.length+1) (pcl l ++ [.int .i64 x,.int .i64 y])):zw w2 base (.slice (some ⟨g,0,none⟩) (l.length+1) aA) (l ++ [(x,y)]):=by
 unfold zw;rw[zBD,List.length_append];exact h
theorem ye(v0 v1:Value)(lo hi:Nat)(p:zI)(xs xb:Int)(w:World)(h1:zu w lo hi v0 v1 p)(hR:zx p)(hT:qH p xs xb) :
  Calls Tryz.prog 141 #[.agg #[v0,v1],.agg #[.int .i64 xs,.int .i64 xb]] w fun e w'=>∃v,e = .returned v/\zw w' w.heap.size v (zR p xs xb)/\Below w.heap.size w w':=by
 have Hp:=zE h1;have HR:=zE hR;have HT:=zE hT;obtain⟨a,c,a',c',rfl,rfl⟩:∃a c a' c',v0 = .slice a p.n c/\v1 = .slice a' p.hn c':=by
  obtain⟨⟨_,a,c,h1,_⟩,⟨_,a',c',h3,_⟩⟩:=h1;exact⟨a,c,a',c',h1,h3⟩
 clear h1 hR hT;have nB:=zB2 w (.slice a p.n c) (.slice a' p.hn c') (.int .i64 xs) (.int .i64 xb) 33 61;obtain⟨i0,vC,gC⟩:=Option.map_eq_some_iff.1 zA1;simp only[Prod.mk.injEq]at gC;have HI:=zE (And.intro vC gC);clear vC gC;go_enter Tryz.func141,Tryz.ntmps141;have oA:=World.ownsRow_lit (e:=61) (size:=2) (base:=w.heap.size+2) ((w.alloc (.cells #[.slice a p.n c,.slice a' p.hn c'] 33)).alloc (.cells #[.int .i64 xs,.int .i64 xb] 61)) #[] 0 (by rw[nB.2.2.2];omega) (by unfold maxLen;omega) rfl;rw[nB.2.2.2]at oA;have oD:=nB.2.1.zRX (zC _ (.cells #[] 61));obtain⟨⟨y0,y1⟩,⟨y2,y3⟩⟩:=oD;go_wp2_with fail;clear y0 y1 y2 y3;generalize (w.alloc (.cells #[.slice a p.n c,.slice a' p.hn c'] 33)).alloc (.cells #[.int .i64 xs,.int .i64 xb] 61)=W at nB oA ⊢;obtain⟨hB,hX,dD,hz⟩:=nB;have cA:=zC W (.cells #[] 61);have lC:=zE (show zw (W.alloc (.cells #[] 61)) (w.heap.size+2) (.slice (some ⟨w.heap.size+2,0,none⟩) 0 0) [] from oA);have pC:=hB.zRX cA;have rB:=hX.zRX cA;have tB:=zA dD cA;have bD:(W.alloc (.cells #[] 61)).heap.size=w.heap.size+3:=by rw[World.size_alloc,hz]
 clear oA hB hX dD cA;generalize W.alloc (.cells #[] 61)=W0 at lC pC rB tB bD ⊢;refine(zAD xs xb W0).mono ?_;rintro e w1 ⟨⟨t,rfl,ht⟩,eB⟩;have sB:=zE (pC.zRX eB);have kC:=zE (rB.zRX eB);have nC:=zE (lC.out.zRX eB);have dC:=zA tB eB;have kD:w.heap.size+3<=w1.heap.size:=by have:=eB.size;omega
 clear pC rB tB eB lC bD hz;by_cases hn:Nil xs xb
 ·have HN:=zE hn;obtain rfl:t=true:=ht.2 hn;clear ht hn;go_wp2;go_ret;refine⟨_,rfl,?_,dC⟩;rw[show zR p xs xb = [] from if_pos HN.out];exact nC.out.mono (by omega)
 ·have HN:=zE hn;obtain rfl:t=false:=zQ ht hn;clear ht hn;have lB:zAj p xs xb:=(HT.out.resolve_left HN.out).1;have iB:=zE (HT.out.resolve_left HN.out).2.1.1;have h8:(p.s xs.toNat).kn=8:=by rcases zDb HR.out lB.1 with h | h;(have:=lB.2.1;omega);exact h
  obtain⟨k,rfl⟩:=Int.eq_ofNat_of_zero_le lB.1.2.1;have hk:k<p.n:=(by have:=lB.1.2.2.1;omega);have rD:(k:Int)<(p.n:Int):=(by omega);rw[Int.toNat_natCast]at h8 iB;have H8:=zE h8;clear lB;obtain⟨b,off,ka,kc,rfl,fC⟩:=Hp.out.1.cells hk;have aD:Hid (zU w lo hi (.slice ka 8 kc) 8 (p.s k).ks (p.s k).kb):=(by have:=fC.slot.2.1;rw[h8]at this;exact this);have cC:=zE fC;clear fC h8;obtain⟨⟨x0,x1⟩,⟨x2,x3⟩⟩:=sB.out;obtain⟨⟨y0,y1⟩,⟨y2,y3⟩⟩:=kC.out;have cA:=zC w1 (.cells #[.int .i64 (k:Int),.int .i64 xb] 61);have fA:=zE (nC.out.zRX cA);have bB:=zE (sB.out.zRX cA);have eD:=zE (kC.out.zRX cA);have lA:=zA dC cA;have pB:(w1.alloc (.cells #[.int .i64 (k:Int),.int .i64 xb] 61)).heap.size=w1.heap.size+1:=World.size_alloc _ _;have aB:=zE (World.news_of_block (heap_alloc_last w1 (.cells #[.int .i64 (k:Int),.int .i64 xb] 61)));clear cA nC sB kC dC;go_wp2_with (first
   | (at_builtin;refine wpList_append_lies _ rfl _ _ 62 rfl (w.heap.size+2) 61 i0 (.agg #[.int .i64 0,.int .i64 0]) 2 16 (by kernel_rfl) HI.out.1 HI.out.2.1 HI.out.2.2.1 HI.out.2.2.2 rfl (by decide) (.slice (some ⟨w.heap.size+2,0,none⟩) 0 0) 0 [] rfl fA.out ⟨w1.heap.size,0,none⟩ 1 1 [.int .i64 (k:Int),.int .i64 xb] rfl rfl aB.out (by simp[Value.oneCell']) (by decide) (by unfold maxLen;omega) (by omega) (by omega) _ rfl ?_;intro g4 eA w4 bA aA nA pA;have rA:Below w.heap.size w w4:=lA.grown aA lA.size (fun q hq=>(by have:=(fA.out.lt hq).1;omega));have vA:=zE (bB.out.grownT aA (fun q hq=>by have:=(fA.out.lt hq).1;omega));have sC:=zE (eD.out.grownT aA (fun q hq=>by have:=(fA.out.lt hq).1;omega));have z0:=vA.out.1.1;have z1:=sC.out.1.1;have z2:=(cC.out.zRX rA).c1;rw[H8.out]at z2)
   | go_in)
  have jB:=zE (show zw w4 (w.heap.size+2) (.slice (some ⟨g4,0,none⟩) 1 eA) (zED p k xb (p.s k) 0)from bA);have mB:w.heap.size+2<=w4.heap.size:=(by have:=aA.size;omega);clear bA aA nA pA fA bB eD lA aB pB kD
  go_loopw [5,7] (fun sv i wr=>∃(j:Nat) (sa:Option Addr) (sc:Nat),j<=8/\i = .int .i64 j/\sv = .slice sa (zED p k xb (p.s k) j).length sc/\zw wr (w.heap.size+2) sv (zED p k xb (p.s k) j)/\zc wr w.heap.size (.slice (some ⟨b,off,none⟩) p.n c) (.slice a' p.hn c')/\Below w.heap.size w wr/\w.heap.size+2<=wr.heap.size) (fun _ i _=>8 - (intOf i).toNat)
  case atStart=>exact⟨0,some ⟨g4,0,none⟩,eA,Nat.zero_le _,rfl,rfl,jB.out,vA.out,rA,mB⟩
  case round=>
   obtain⟨j,sa,sc,hj,rfl,rfl,kA,jA,mA,oB⟩:=hrel;have dA:=zE kA;have gA:=zE jA;have lD:=zNj p k xb (p.s k) hj;clear kA jA jB vA sC rA z0 z1 z2 x0 x1 x2 x3 y0 y1 y2 y3 mB;by_cases dB:j<8
   ·have mD:(j:Int)<8:=(by omega);obtain⟨tb,tD,rfl,q0,q1⟩:=(aD.out.zRX mA).cellsT dB;rw[<-zC7 H8.out dB]at q0;rw[<-zEp H8.out dB]at q1;go_wp2_with fail;refine(zAD (zb (p.s k) j) (zt (p.s k) j) wr).mono ?_;rintro e W ⟨⟨t,rfl,ht⟩,hb⟩;have tA:=zA mA hb;have cB:=zE (gA.out.zRX hb);have sA:=zE (dA.out.zRX hb);have iC:w.heap.size+2<=W.heap.size:=(by have:=hb.size;omega);have tC:=(hb.cell (zD q0)).trans q0;have cD:=(hb.cell (zD q1)).trans q1;clear q0 q1 mA hb dA gA oB;by_cases iA:Nil (zb (p.s k) j) (zt (p.s k) j)
    ·have fB:=zE iA;obtain rfl:t=true:=ht.2 iA;clear ht iA;go_wp2;go_roundw
     case rel=>exact⟨j+1,sa,sc,by omega,by go_num,by rw[zLc fB.out],by rw[zLc fB.out];exact sA.out,cB.out,tA,iC⟩
     case measure=>simp[intOf];omega
    ·have fB:=zE iA;obtain rfl:t=false:=zQ ht iA;clear ht iA;have gB:zAj p (zb (p.s k) j) (zt (p.s k) j):=by
      rcases iB.out j dB with h | h
      ·exact absurd h fB.out
      ·exact h.1
     obtain⟨m,hm⟩:=Int.eq_ofNat_of_zero_le gB.1.2.1;have fD:m<p.n:=(by have:=gB.1.2.2.1;omega);have nD:(m:Int)<(p.n:Int):=(by omega);have eC:(zb (p.s k) j).toNat=m:=(by rw[hm];rfl);have jC:(p.s m).kn=8:=by
      have h0:=gB.2.1;have h1:=zDb HR.out gB.1;rw[eC]at h0 h1;rcases h1 with h | h
      ·omega
      ·exact h
     have bC:=zE jC;obtain⟨_,_,ua,uc,ha,mC⟩:=Hp.out.1.cells fD;simp only[Option.some.injEq,Addr.mk.injEq,and_true]at ha;obtain⟨rfl,rfl⟩:=ha;have iD:Hid (zU w lo hi (.slice ua 8 uc) 8 (p.s m).ks (p.s m).kb):=(by have:=mC.slot.2.1;rw[jC]at this;exact this);have jD:=zE mC;have Hm:=zE hm;have aC:=zE eC;have cA:=zC W (.cells #[.int .i64 (zb (p.s k) j),.int .i64 (zt (p.s k) j)] 61);have fA:=zE (sA.out.zRX cA);have bB:=zE (cB.out.zRX cA);have lA:=zA tA cA;have pB:(W.alloc (.cells #[.int .i64 (zb (p.s k) j),.int .i64 (zt (p.s k) j)] 61)).heap.size=W.heap.size+1:=World.size_alloc _ _;have aB:=zE (World.news_of_block (heap_alloc_last W (.cells #[.int .i64 (zb (p.s k) j),.int .i64 (zt (p.s k) j)] 61)));clear mC jC hm eC cA sA cB tA gB;go_wp2_with (first
      | (at_builtin;refine wpList_append_lies _ rfl _ _ 62 rfl (w.heap.size+2) 61 i0 (.agg #[.int .i64 0,.int .i64 0]) 2 16 (by kernel_rfl) HI.out.1 HI.out.2.1 HI.out.2.2.1 HI.out.2.2.2 rfl (by decide) (.slice sa (zED p k xb (p.s k) j).length sc) (zED p k xb (p.s k) j).length (pcl (zED p k xb (p.s k) j)) rfl fA.out ⟨W.heap.size,0,none⟩ 1 1 [.int .i64 (zb (p.s k) j),.int .i64 (zt (p.s k) j)] rfl rfl aB.out (by simp[Value.oneCell']) (by decide) (by unfold maxLen;omega) (by omega) (by omega) _ rfl ?_;intro g4 eA w4 bA aA nA pA)
      | fail)
     have jB:Hid (zw w4 (w.heap.size+2) (.slice (some ⟨g4,0,none⟩) ((zED p k xb (p.s k) j).length+1) eA) (zDH p k xb (p.s k) j 0)):=by
      rw[zII];exact zw.next bA
     have rA:Below w.heap.size w w4:=lA.grown aA lA.size (fun q hq=>by have:=(fA.out.lt hq).1;omega);have vA:=zE (bB.out.grownT aA (fun q hq=>by have:=(fA.out.lt hq).1;omega));have mB:w.heap.size+2<=w4.heap.size:=(by have:=aA.size;omega);clear bA aA nA pA fA bB lA aB tC cD pB;obtain⟨_,_,ha,q0,q1⟩:=(aD.out.zRX rA).cellsT dB;simp only[Option.some.injEq,Addr.mk.injEq,and_true]at ha;obtain⟨rfl,rfl⟩:=ha;rw[<-zC7 H8.out dB,Hm.out]at q0;obtain⟨r0,r1,r2,_⟩:=jD.out.zRX rA;rw[bC.out]at r1;obtain⟨⟨x0,x1⟩,⟨x2,x3⟩⟩:=vA.out
     go_quiet (fail)
     go_wp2
     go_loopw [5,9] (fun sv i wr=>∃(i':Nat) (sa:Option Addr) (sc:Nat),i'<=8/\i = .int .i64 i'/\sv = .slice sa (zDH p k xb (p.s k) j i').length sc/\zw wr (w.heap.size+2) sv (zDH p k xb (p.s k) j i')/\zc wr w.heap.size (.slice (some ⟨b,off,none⟩) p.n c) (.slice a' p.hn c')/\Below w.heap.size w wr/\w.heap.size+2<=wr.heap.size) (fun _ i _=>8 - (intOf i).toNat)
     case atStart=>exact⟨0,some ⟨g4,0,none⟩,eA,Nat.zero_le _,rfl,by rw[zII,List.length_append];rfl,jB.out.zRX (zg (Below.refl _ _) _),vA.out.zRX (zg (Below.refl _ _) _),zg rA _,mB⟩
     case round=>
      obtain⟨i,sa,sc,gD,rfl,rfl,kA,jA,mA,oB⟩:=hrel;have dA:=zE kA;have gA:=zE jA;have rC:=zOq p k xb (p.s k) (show j<=8 by omega) gD;clear kA jA jB vA rA x0 x1 x2 x3 q0 q1 r0 r1 r2 mB;by_cases vB:i<8
      ·have pD:(i:Int)<8:=(by omega);obtain⟨ub,sD,rfl,q0,q1⟩:=(iD.out.zRX mA).cellsT vB;rw[<-zC7 bC.out vB]at q0;rw[<-zEp bC.out vB]at q1;go_wp2_with fail;refine(zAD (zb (p.s m) i) (zt (p.s m) i) wr).mono ?_;rintro e W ⟨⟨t,rfl,ht⟩,hb⟩;have tA:=zA mA hb;have cB:=zE (gA.out.zRX hb);have sA:=zE (dA.out.zRX hb);have iC:w.heap.size+2<=W.heap.size:=(by have:=hb.size;omega);have tC:=(hb.cell (zD q0)).trans q0;have cD:=(hb.cell (zD q1)).trans q1;clear q0 q1 mA hb dA gA oB;by_cases iA:Nil (zb (p.s m) i) (zt (p.s m) i)
       ·have oC:=zE iA;obtain rfl:t=true:=ht.2 iA;clear ht iA;have es:zDH p k xb (p.s k) j (i+1)=zDH p k xb (p.s k) j i:=zOU (by rw[aC.out];exact oC.out);have kB:=zE es;clear es;go_wp2;go_roundw
        case rel=>exact⟨i+1,sa,sc,by omega,by go_num,by rw[kB.out],by rw[kB.out];exact sA.out,cB.out,tA,iC⟩
        case measure=>simp[intOf];omega
       ·have oC:=zE iA;obtain rfl:t=false:=zQ ht iA;clear ht iA;have es:zDH p k xb (p.s k) j (i+1)=zDH p k xb (p.s k) j i ++ [(zb (p.s m) i,zt (p.s m) i)]:=(by have:=zOH (p:=p) (rs:=(k:Int)) (rb:=xb) (s:=p.s k) (j:=j) (i:=i) (by rw[aC.out];exact oC.out);rw[aC.out]at this;exact this);have kB:=zE es;clear es;have cA:=zC W (.cells #[.int .i64 (zb (p.s m) i),.int .i64 (zt (p.s m) i)] 61);have fA:=zE (sA.out.zRX cA);have bB:=zE (cB.out.zRX cA);have lA:=zA tA cA;have pB:(W.alloc (.cells #[.int .i64 (zb (p.s m) i),.int .i64 (zt (p.s m) i)] 61)).heap.size=W.heap.size+1:=World.size_alloc _ _;have aB:=zE (World.news_of_block (heap_alloc_last W (.cells #[.int .i64 (zb (p.s m) i),.int .i64 (zt (p.s m) i)] 61)));clear cA sA cB tA;go_wp2_with (first
         | (at_builtin;refine wpList_append_lies _ rfl _ _ 62 rfl (w.heap.size+2) 61 i0 (.agg #[.int .i64 0,.int .i64 0]) 2 16 (by kernel_rfl) HI.out.1 HI.out.2.1 HI.out.2.2.1 HI.out.2.2.2 rfl (by decide) (.slice sa (zDH p k xb (p.s k) j i).length sc) (zDH p k xb (p.s k) j i).length (pcl (zDH p k xb (p.s k) j i)) rfl fA.out ⟨W.heap.size,0,none⟩ 1 1 [.int .i64 (zb (p.s m) i),.int .i64 (zt (p.s m) i)] rfl rfl aB.out (by simp[Value.oneCell']) (by decide) (by unfold maxLen;omega) (by omega) (by omega) _ rfl ?_;intro g4 eA w4 bA aA nA pA)
         | go_in)
        go_roundw
        case rel=>exact⟨i+1,some ⟨g4,0,none⟩,eA,by omega,by go_num,by rw[kB.out,List.length_append];rfl,by rw[kB.out];exact zw.next bA,bB.out.grownT aA (fun q hq=>by have:=(fA.out.lt hq).1;omega),lA.grown aA lA.size (fun q hq=>by have:=(fA.out.lt hq).1;omega),by have:=aA.size;omega⟩
        case measure=>simp[intOf];omega
      ·obtain rfl:i=8:=(by omega);go_wp2;go_roundw
       case rel=>exact⟨j+1,sa,sc,by omega,by go_num,by rw[zLQ fB.out],by rw[zLQ fB.out];exact dA.out,gA.out,mA,oB⟩
       case measure=>simp[intOf];omega
   ·obtain rfl:j=8:=(by omega);go_wp2;go_ret;exact⟨_,rfl,by rw[zPc HN.out];exact dA.out.mono (by omega),mA⟩
open Classical in
noncomputable def roomN(f:Nat->zL):Nat->Nat
 | 0=>0
 | k+1=>roomN f k+(if qE (f k)then 1 else 0)
theorem zBu{f:Nat->zL}{k:Nat}(h:qE (f k)):roomN f (k+1)=roomN f k+1:=by simp[roomN,h]
theorem zCD{f:Nat->zL}{k:Nat}(h:¬qE (f k)):roomN f (k+1)=roomN f k:=by simp[roomN,h]
theorem zFl(f:Nat->zL):∀k,roomN f k<=k
 | 0=>Nat.le_refl _
 | k+1=>by
  have:=zFl f k;by_cases h:qE (f k)
  ·rw[zBu h];omega
  ·rw[zCD h];omega
open Classical in
noncomputable def zNe(p:zI):Int:=if zx p then(roomN p.s p.n:Int)else 0
structure zE6 where
 zRh:Int
 time:Int
 rs:Int
 rb:Int
 dn:Nat
 ds:Nat->Int
 db:Nat->Int
def zRC(s:zl):zE6:=⟨s.zRh,s.time,s.rs,s.rb,s.dn,s.ds,s.db⟩
def zRI(t:Int)(s:qD):zE6:=⟨s.zRh,t,s.rs,s.rb,s.dn,s.ds,s.db⟩
def zO(W:zH)(i:Nat):zE6:=if i<W.pn then zRC (W.zRe i)else zRI W.time (W.zRg (i - W.pn))
def zq(W:zH):Nat:=W.pn+W.sn
theorem qQ{W:zH}{i:Nat}(h:i<W.pn):zO W i=zRC (W.zRe i):=if_pos h
theorem yF(W:zH)(i:Nat):zO W (W.pn+i)=zRI W.time (W.zRg i):=by
 unfold zO;rw[if_neg (by omega),show W.pn+i - W.pn=i by omega]
def yK:zl:=⟨0,ByteArray.empty,ByteArray.empty,0,0,0,0,0,fun _=>0,fun _=>0⟩
open Classical in
noncomputable def zN(W:zH)(x:Int):zl:=if h:∃k,qs W x k then W.zRe h.choose else yK
theorem qq{W:zH}{x:Int}{k:Nat}(h:qs W x k):zN W x=W.zRe k:=by
 unfold zN;rw[dif_pos ⟨k,h⟩,qs.uniq (Exists.choose_spec (⟨k,h⟩:∃k,qs W x k)) h]
theorem zFV{W:zH}{x:Int}(h:∀k,k<W.pn->(W.zRe k).id≠x):zN W x=yK:=by
 unfold zN;rw[dif_neg];rintro⟨k,hk⟩;exact h k hk.1 hk.2.1
theorem zGY{W:zH}{x:Int}:∀{n:Nat},n<=W.pn->(∃k,k<n/\(W.zRe k).id=x)->∃k,qs W x k
 | 0,_,⟨k,hk,_⟩=>absurd hk (Nat.not_lt_zero _)
 | n+1,hn,⟨k,hk,e⟩=>by
  by_cases h:∃j,j<n/\(W.zRe j).id=x
  ·exact zGY (by omega) h
  ·have:k=n:=by
    by_cases h':k<n
    ·exact absurd ⟨k,h',e⟩ h
    ·omega
   subst this;exact⟨k,by omega,e,fun j hj he=>h ⟨j,hj,he⟩⟩
def yS(W:zH)(m:zE6):List (Int×Int):=zR W.zRd m.rs m.rb
noncomputable def zC5(W:zH)(m:zE6):List (Int×Int):=zR W.zRd (zN W m.zRh).rs (zN W m.zRh).rb
def zAV(l m:List (Int×Int)):List (Int×Int):=l.filter (fun x=>decide (x∉m))
def qO(l m:List (Int×Int)):List (Int×Int):=l.filter (fun x=>decide (x∈m))
def zAQ(l:List (Int×Int))(t:Int):List (Int×Int):=l.filter (fun x=>decide (t<x.2))
noncomputable def zFg(W:zH)(m:zE6):List (Int×Int):=zAV (yS W m) (zC5 W m)
noncomputable def yA(W:zH)(m:zE6):List (Int×Int):=zAQ (yS W m) (zN W m.zRh).time
def zDi(n:Nat)(f g:Nat->Int)(l:List (Int×Int)):Prop:=zES n f g l.length (zf l) (zh l)
def zNc(now old:List (Int×Int))(t tm:Int):Prop:=∀x,x∈now->x.2<=tm/\(x∈old↔x.2<=t)
def zJu(W:zH)(m:zE6):Prop:=zDi m.dn m.ds m.db (zAV (zC5 W m) (yS W m))/\zNc (yS W m) (zC5 W m) (zN W m.zRh).time m.time
def zQl(W:zH)(m:zE6):Prop:=m.rb<=m.time/\zDi (yA W m).length (zf (yA W m)) (zh (yA W m)) (zFg W m)/\zDi m.dn m.ds m.db (zAV (zC5 W m) (qO (yS W m) (zC5 W m)))
theorem zOD(l m:List (Int×Int)):zAV m (qO l m)=zAV m l:=by
 unfold zAV qO;refine List.filter_congr fun x hx=>?_
 rw[decide_eq_decide];simp only[List.mem_filter,decide_eq_true_eq];exact⟨fun h h'=>h ⟨h',hx⟩,fun h h'=>h h'.1⟩
theorem yD{l:List (Int×Int)}{i:Nat}(h:i<l.length):l.getD i (0,0)=l[i]:=by
 rw[List.getD_eq_getElem?_getD,List.getElem?_eq_getElem h,Option.getD_some]
theorem zBa{l:List (Int×Int)}{x y:Int}:PIn l.length (zf l) (zh l) x y↔(x,y)∈l:=by
 constructor
 ·rintro⟨j,hj,e1,e2⟩;unfold zf at e1;unfold zh at e2;rw[yD hj]at e1 e2;have:l[j]=(x,y):=Prod.ext e1 e2;exact this▸List.getElem_mem hj
 ·intro h;obtain⟨j,hj,e⟩:=List.getElem_of_mem h;exact⟨j,hj,by unfold zf;rw[yD hj,e],by unfold zh;rw[yD hj,e]⟩
structure zBJ (W:zH):Prop where
 right:zx W.zRd
 ids:∀k,k<W.pn->(W.zRe k).zRh<(W.zRe k).id
 tree:∀i,i<zq W->qH W.zRd (zO W i).rs (zO W i).rb
 time:∀i,i<zq W->0<=(zO W i).time
theorem zAX{p:zI}{rs rb:Int}(hR:zx p)(hT:qH p rs rb){x:Int×Int}(hx:x∈zR p rs rb):zr p x.1 x.2/\x.2<=rb/\¬Has p.hn p.h x.1:=by
 rcases(zF5 hR).2 hT with hz | ⟨hP,_,hA⟩
 ·rw[zR,if_pos hz]at hx;simp at hx
 ·have:=zDD hR hP x hx;exact⟨this.1,this.2,hA.2 x hx⟩
theorem zAk{p:zI}{rs rb:Int}(hR:zx p)(hT:qH p rs rb):(zR p rs rb).Nodup:=by
 rcases(zF5 hR).2 hT with hz | ⟨hP,_,hA⟩
 ·rw[zR,if_pos hz];exact List.nodup_nil
 ·exact hA.1
theorem zBJ.old{W:zH}(h:zBJ W)(x:Int):qH W.zRd (zN W x).rs (zN W x).rb:=by
 by_cases hx:∃k,qs W x k
 ·obtain⟨k,hk⟩:=hx;rw[qq hk];have:=h.tree k (by unfold zq;have:=hk.1;omega);rw[qQ hk.1]at this;exact this
 ·have:zN W x=yK:=by
   unfold zN;rw[dif_neg hx]
  rw[this];exact Or.inl ⟨rfl,rfl⟩
theorem zOT{p:zI}{x y:Int}(hR:zx p)(h:zr p x y):zFD x y:=by
 have hf:=qS hR h;have h1:=hR.1;obtain⟨a,b,c,d⟩:=h;have:=hf.1.2;exact⟨b,by omega,a,by omega⟩
theorem zBK{p:zI}(hR:zx p){l:List (Int×Int)}(h:∀x,x∈l->zr p x.1 x.2)(hn:l.Nodup)(hl:l.length<=200):qm l.length (zf l) (zh l):=by
 have hs:=(zGQ h).2 hn;refine⟨hl,fun i hi=>?_,fun i hi k hk=>?_⟩
 ·unfold zf zh;rw[yD hi];exact zOT hR (h _ (List.getElem_mem hi))
 ·unfold zf;rw[yD hi,yD (show k<l.length by omega)];unfold yH List.Nodup at hs;rw[List.pairwise_map]at hs;exact List.pairwise_iff_getElem.1 hs k i (by omega) hi hk
theorem zK6{p:zI}(hR:zx p){T:List (Int×Int)}(hT:∀x,x∈T->zr p x.1 x.2)(hn:T.Nodup)(hl:T.length<=200)(P Q:Int×Int->Bool) :
  zDi (T.filter P).length (zf (T.filter P)) (zh (T.filter P)) (T.filter Q)↔∀x,x∈T->P x=Q x:=by
 constructor
 ·rintro⟨_,_,aA,cA⟩;have h1:∀x,x∈T->P x=true->Q x=true:=fun x hx hp=>by
   have hm:x∈T.filter P:=List.mem_filter.2 ⟨hx,hp⟩;obtain⟨j,hj,e⟩:=List.getElem_of_mem hm;have:=cA j hj;rw[zBa]at this;unfold zf zh at this;rw[yD hj,e]at this;exact(List.mem_filter.1 this).2
  have h2:(T.filter Q).filter P=T.filter P:=by
   rw[List.filter_filter];refine List.filter_congr fun x hx=>?_
   cases hp:P x
   ·rfl
   ·rw[h1 x hx hp];rfl
  have h3:((T.filter Q).filter P).length=(T.filter Q).length:=(by rw[h2,aA]);rw[List.length_filter_eq_length_iff]at h3;intro x hx;cases hq:Q x
  ·cases hp:P x
   ·rfl
   ·rw[h1 x hx hp]at hq;exact absurd hq (by simp)
  ·exact h3 x (List.mem_filter.2 ⟨hx,hq⟩)
 ·intro h;have e:T.filter P=T.filter Q:=List.filter_congr h;rw[e];have bA:qm (T.filter Q).length (zf (T.filter Q)) (zh (T.filter Q)):=zBK hR (fun x hx=>hT x (List.mem_filter.1 hx).1) (hn.filter _) (Nat.le_trans (List.length_filter_le _ _) hl);exact⟨bA,bA,rfl,fun i hi=>⟨i,hi,rfl,rfl⟩⟩
theorem zH4{W:zH}(h:zBJ W){i:Nat}(hi:i<zq W):zQl W (zO W i)↔zJu W (zO W i):=by
 generalize hm:zO W i=m;have hT:=h.tree i hi;have cA:=h.time i hi;rw[hm]at hT cA;have bA:(yS W m).length<=200:=by have:=qL W.zRd m.rs m.rb;unfold yS;omega
 have fA:∀x,x∈yS W m->zr W.zRd x.1 x.2:=fun x hx=>(zAX h.right hT hx).1
 unfold zQl zJu;rw[zOD];have key:zDi (yA W m).length (zf (yA W m)) (zh (yA W m)) (zFg W m)↔∀x,x∈yS W m->(x∈zC5 W m↔x.2<=(zN W m.zRh).time):=by
  unfold yA zFg zAQ zAV;rw[zK6 h.right fA (zAk h.right hT) bA];refine⟨fun hh x hx=>?_,fun hh x hx=>?_⟩
  ·have:=hh x hx;rw[decide_eq_decide]at this;constructor
   ·intro aA;by_cases eA:(zN W m.zRh).time<x.2
    ·exact absurd aA (this.1 eA)
    ·omega
   ·intro dA;by_cases aA:x∈zC5 W m
    ·exact aA
    ·have:=this.2 aA;omega
  ·rw[decide_eq_decide];have:=hh x hx;constructor
   ·intro eA aA;have:=this.1 aA;omega
   ·intro aA;by_cases dA:x.2<=(zN W m.zRh).time
    ·exact absurd (this.2 dA) aA
    ·omega
 rw[key];constructor
 ·rintro⟨h1,h2,h3⟩;exact⟨h3,fun x hx=>⟨by have:=(zAX h.right hT hx).2.1;omega,h2 x hx⟩⟩
 ·rintro⟨h1,h2⟩;refine⟨?_,fun x hx=>(h2 x hx).2,h1⟩;by_cases hz:Nil m.rs m.rb
  ·rw[hz.2];exact cA
  ·have hr:(m.rs,m.rb)∈yS W m:=(by unfold yS zR;rw[if_neg hz];simp);exact(h2 _ hr).1
theorem zOd{W:zH}{m:zE6}(hS:zJu W m):yA W m=zFg W m:=by
 unfold yA zFg zAQ zAV;refine List.filter_congr fun x hx=>?_
 rw[decide_eq_decide];have:=(hS.2 x hx).2;constructor
 ·intro h1 h2;have:=this.1 h2;omega
 ·intro h1;by_cases h2:x.2<=(zN W m.zRh).time
  ·exact absurd (this.2 h2) h1
  ·omega
open Classical in
noncomputable def cnt(P:Nat->Prop):Nat->Nat
 | 0=>0
 | k+1=>cnt P k+(if P k then 1 else 0)
theorem zCb{P Q:Nat->Prop}:∀{n:Nat},(∀i,i<n->(P i↔Q i))->cnt P n=cnt Q n
 | 0,_=>rfl
 | n+1,h=>by
  unfold cnt;rw[zCb (fun i hi=>h i (by omega))];by_cases hp:P n
  ·rw[if_pos hp,if_pos ((h n (by omega)).1 hp)]
  ·rw[if_neg hp,if_neg (fun hq=>hp ((h n (by omega)).2 hq))]
theorem zPk{P Q:Nat->Prop}:∀{n:Nat},(∀i,i<n->P i->Q i)->cnt P n<=cnt Q n
 | 0,_=>Nat.le_refl _
 | n+1,h=>by
  unfold cnt;have:=zPk (n:=n) (fun i hi=>h i (by omega));by_cases hp:P n
  ·rw[if_pos hp,if_pos (h n (by omega) hp)];omega
  ·rw[if_neg hp];omega
theorem zIe{P Q:Nat->Prop}:∀{n:Nat},(∀i,i<n->P i->Q i)->(cnt P n=cnt Q n↔∀i,i<n->(P i↔Q i))
 | 0,_=>⟨fun _ i hi=>absurd hi (Nat.not_lt_zero _),fun _=>rfl⟩
 | n+1,h=>by
  refine⟨fun e=>?_,fun e=>zCb e⟩;have aA:=zPk (n:=n) (fun i hi=>h i (by omega));have ih:=zIe (n:=n) (fun i hi=>h i (by omega));unfold cnt at e;have hn:P n↔Q n:=by
   refine⟨h n (by omega),fun hq=>?_⟩;by_cases hp:P n
   ·exact hp
   ·rw[if_neg hp,if_pos hq]at e;omega
  have e':cnt P n=cnt Q n:=by
   by_cases hp:P n
   ·rw[if_pos hp,if_pos (hn.1 hp)]at e;omega
   ·rw[if_neg hp,if_neg (fun hq=>hp (hn.2 hq))]at e;omega
  intro i hi;by_cases e2:i=n
  ·subst e2;exact hn
  ·exact ih.1 e' i (by omega)
theorem zMv{P Q:Nat->Prop}:∀{n:Nat},(∀i,i<n->P i->¬Q i)->cnt (fun i=>P i\/Q i) n=cnt P n+cnt Q n
 | 0,_=>rfl
 | n+1,h=>by
  unfold cnt;rw[zMv (fun i hi=>h i (by omega))];by_cases hp:P n
  ·rw[if_pos (Or.inl hp),if_pos hp,if_neg (h n (by omega) hp)];omega
  ·by_cases hq:Q n
   ·rw[if_pos (Or.inr hq),if_neg hp,if_pos hq];omega
   ·rw[if_neg (fun h=>h.elim hp hq),if_neg hp,if_neg hq];omega
theorem zNi(P:Nat->Prop):∀n,cnt P n+cnt (fun i=>¬P i) n=n
 | 0=>rfl
 | n+1=>by
  have:=zNi P n;unfold cnt;by_cases hp:P n
  ·rw[if_pos hp,if_neg (fun h=>h hp)];omega
  ·rw[if_neg hp,if_pos hp];omega
theorem zHn{P:Nat->Prop}:∀{n:Nat},(∀i,i<n->¬P i)->cnt P n=0
 | 0,_=>rfl
 | n+1,h=>by
  unfold cnt;rw[zHn (fun i hi=>h i (by omega)),if_neg (h n (by omega))]
theorem zNZ:∀{n a:Nat},a<n->cnt (fun i=>i=a) n=1
 | 0,a,h=>absurd h (Nat.not_lt_zero _)
 | n+1,a,h=>by
  unfold cnt;by_cases e:n=a
  ·subst e;rw[if_pos rfl,zHn (fun i hi=>by omega)]
  ·rw[if_neg e,zNZ (by omega)]
theorem zF9{n:Nat}:∀{l:List Nat},l.Nodup->(∀x,x∈l->x<n)->cnt (fun i=>i∈l) n=l.length
 | [],_,_=>zHn (fun i hi=>by simp)
 | a :: l,hn,hl=>by
  obtain⟨h1,h2⟩:=List.nodup_cons.1 hn;have e1:cnt (fun i=>i∈a :: l) n=cnt (fun i=>i=a\/i∈l) n:=zCb (fun i _=>List.mem_cons);have e2:cnt (fun i=>i=a\/i∈l) n=cnt (fun i=>i=a) n+cnt (fun i=>i∈l) n:=zMv (fun i _ (e:i=a) hi=>h1 (e▸hi));rw[e1,e2,zNZ (hl a (by simp)),zF9 h2 (fun x hx=>hl x (by simp[hx])),List.length_cons];omega
theorem zLH(f:Nat->zL):∀n,roomN f n=cnt (fun i=>qE (f i)) n
 | 0=>rfl
 | n+1=>by unfold roomN cnt;rw[zLH f n]
theorem zPP{p:zI}(hR:zx p):cnt (fun i=>Has p.hn p.h i) p.n=p.hn:=by
 have h:=hR.2.2;have hl:∀x,x∈(List.range p.hn).map (fun j=>(p.h j).toNat)->x<p.n:=by
  intro x hx;obtain⟨j,hj,rfl⟩:=List.mem_map.1 hx;have:=h j (List.mem_range.1 hj);have h1:=this.1;have h2:=this.2.1;omega
 have hn:((List.range p.hn).map (fun j=>(p.h j).toNat)).Nodup:=by
  unfold List.Nodup;rw[List.pairwise_map];refine List.Pairwise.imp_of_mem ?_ (List.pairwise_lt_range);intro a b ha hb aA e;have h1:=h a (List.mem_range.1 ha);have h2:=h b (List.mem_range.1 hb);have:=h1.1;have:=h2.1;exact h2.2.2.2 ⟨a,aA,by omega⟩
 have:=zF9 hn hl;rw[List.length_map,List.length_range]at this;refine Eq.trans (zCb (fun i hi=>?_)) this;constructor
 ·rintro⟨j,hj,e⟩;exact List.mem_map.2 ⟨j,List.mem_range.2 hj,by rw[e];simp⟩
 ·intro hx;obtain⟨j,hj,e⟩:=List.mem_map.1 hx;have:=(h j (List.mem_range.1 hj)).1;exact⟨j,List.mem_range.1 hj,by omega⟩
theorem zLq{p:zI}(hR:zx p):cnt (fun i=>¬qE (p.s i)/\¬Has p.hn p.h i) p.n+roomN p.s p.n+p.hn=p.n:=by
 have h1:=zNi (fun i=>qE (p.s i)\/Has p.hn p.h i) p.n;have h2:cnt (fun i=>qE (p.s i)\/Has p.hn p.h i) p.n=cnt (fun i=>qE (p.s i)) p.n+cnt (fun i=>Has p.hn p.h i) p.n:=zMv (fun i hi hf=>by
  rintro⟨j,hj,e⟩;have:=(hR.2.2 j hj).2.2.1;rw[e]at this;simp only[Int.toNat_natCast]at this;exact this hf)
 rw[zPP hR,<-zLH]at h2;have h3:cnt (fun i=>¬(qE (p.s i)\/Has p.hn p.h i)) p.n=cnt (fun i=>¬qE (p.s i)/\¬Has p.hn p.h i) p.n:=zCb (fun i _=>not_or);omega
def zEt(W:zH):Prop:=∀i,i<W.zRd.n->((∃m,m<zq W/\∃b,((i:Int),b)∈yS W (zO W m))↔(¬qE (W.zRd.s i)/\¬Has W.zRd.hn W.zRd.h i))
def zGk(W:zH):Prop:=∀i,i<zq W->∀j,j<i->∀x,x∈zFg W (zO W i)->∀y,y∈zFg W (zO W j)->x.1≠y.1
noncomputable def zn(W:zH):Nat->List (Int×Int)
 | 0=>[]
 | k+1=>zn W k ++ yA W (zO W k)
def zFs(W:zH):Prop:=(zn W (zq W)).Nodup/\(zn W (zq W)).length+roomN W.zRd.s W.zRd.n+W.zRd.hn=W.zRd.n
theorem zDZ{W:zH}{x:Int×Int}:∀{k:Nat},x∈zn W k↔∃i,i<k/\x∈yA W (zO W i)
 | 0=>by simp[zn]
 | k+1=>by
  unfold zn;rw[List.mem_append,zDZ];constructor
  ·rintro(⟨i,hi,h⟩ | h)
   ·exact⟨i,by omega,h⟩
   ·exact⟨k,by omega,h⟩
  ·rintro⟨i,hi,h⟩;by_cases e:i=k
   ·subst e;exact Or.inr h
   ·exact Or.inl ⟨i,by omega,h⟩
theorem zGy{W:zH}:∀{k:Nat},(∀i,i<k->(yA W (zO W i)).Nodup)->((zn W k).Nodup↔∀i,i<k->∀j,j<i->∀x,x∈yA W (zO W i)->x∉yA W (zO W j))
 | 0,_=>⟨fun _ i hi=>absurd hi (Nat.not_lt_zero _),fun _=>List.nodup_nil⟩
 | k+1,hy=>by
  unfold zn;rw[List.nodup_append,zGy (fun i hi=>hy i (by omega))];constructor
  ·rintro⟨h1,h2,h3⟩ i hi j hj x hx aA;by_cases e:i=k
   ·subst e;exact h3 x (zDZ.2 ⟨j,hj,aA⟩) x hx rfl
   ·exact h1 i (by omega) j hj x hx aA
  ·intro h;refine⟨fun i hi=>h i (by omega),hy k (by omega),fun x hx y bA e=>?_⟩;subst e;obtain⟨i,hi,hx⟩:=zDZ.1 hx;exact h k (by omega) i hi x bA hx
theorem zLP{W:zH}(h:zBJ W){x:Int×Int}:∀(N:Nat) (k:Nat),k<W.pn->(W.zRe k).id<N->0<=(W.zRe k).id->(∀j,j<W.pn->0<=(W.zRe j).id)->x∈yS W (zO W k)->∃i,i<zq W/\x∈zFg W (zO W i)
 | 0,k,hk,h1,h2,_,_=>by omega
 | N+1,k,hk,h1,h2,h0,hx=>by
  by_cases ho:x∈zC5 W (zO W k)
  ·have aA:∃j,qs W (zO W k).zRh j:=by
    refine Classical.byContradiction fun bA=>?_
    have:zN W (zO W k).zRh=yK:=(by unfold zN;rw[dif_neg bA]);unfold zC5 at ho;rw[this,zR,if_pos ⟨rfl,rfl⟩]at ho;simp at ho
   obtain⟨j,hj⟩:=aA;unfold zC5 at ho;rw[qq hj]at ho;have e1:(zO W k).zRh=(W.zRe k).zRh:=(by rw[qQ hk];rfl);have:=h.ids k hk;have:=hj.2.1;exact zLP h N j hj.1 (by omega) (h0 j hj.1) h0 (by rw[qQ hj.1];exact ho)
  ·exact⟨k,by unfold zq;omega,List.mem_filter.2 ⟨hx,by simpa using ho⟩⟩
theorem zPe{W:zH}(h:zBJ W)(h0:∀j,j<W.pn->0<=(W.zRe j).id){x:Int×Int}{m:Nat}(hm:m<zq W)(hx:x∈yS W (zO W m)):∃i,i<zq W/\x∈zFg W (zO W i):=by
 by_cases ho:x∈zC5 W (zO W m)
 ·have aA:∃j,qs W (zO W m).zRh j:=by
   refine Classical.byContradiction fun bA=>?_
   have:zN W (zO W m).zRh=yK:=(by unfold zN;rw[dif_neg bA]);unfold zC5 at ho;rw[this,zR,if_pos ⟨rfl,rfl⟩]at ho;simp at ho
  obtain⟨j,hj⟩:=aA;unfold zC5 at ho;rw[qq hj]at ho;have:=h0 j hj.1;exact zLP h ((W.zRe j).id.toNat+1) j hj.1 (by omega) (h0 j hj.1) h0 (by rw[qQ hj.1];exact ho)
 ·exact⟨m,hm,List.mem_filter.2 ⟨hx,by simpa using ho⟩⟩
theorem zJU{W:zH}(h:zBJ W)(h0:∀j,j<W.pn->0<=(W.zRe j).id)(hM:∀i,i<zq W->zJu W (zO W i)):zFs W↔zEt W/\zGk W:=by
 have hy:∀i,i<zq W->yA W (zO W i)=zFg W (zO W i):=fun i hi=>zOd (hM i hi)
 have rA:∀i,i<zq W->(yA W (zO W i)).Nodup:=fun i hi=>(zAk h.right (h.tree i hi)).filter _
 have lA:∀i,i<zq W->∀x,x∈zFg W (zO W i)->x∈yS W (zO W i):=fun i _ x hx=>(List.mem_filter.1 hx).1
 have gA:∀i,i<zq W->∀x,x∈yS W (zO W i)->zr W.zRd x.1 x.2/\¬Has W.zRd.hn W.zRd.h x.1:=fun i hi x hx=>⟨(zAX h.right (h.tree i hi) hx).1,(zAX h.right (h.tree i hi) hx).2.2⟩
 have fA:∀x y:Int×Int,zr W.zRd x.1 x.2->zr W.zRd y.1 y.2->x.1=y.1->x=y:=fun x y hx eA e=>by
  have a1:=hx.2.2.2;have a2:=eA.2.2.2;rw[e]at a1;exact Prod.ext e (a1.symm.trans a2)
 have hA:(zn W (zq W)).Nodup↔zGk W:=by
  rw[zGy rA];unfold zGk;constructor
  ·intro hh i hi j hj x hx y eA e;have oA:=fA x y (gA i hi x (lA i hi x hx)).1 (gA j (by omega) y (lA j (by omega) y eA)).1 e;subst oA;exact hh i hi j hj x (by rw[hy i hi];exact hx) (by rw[hy j (by omega)];exact eA)
  ·intro hh i hi j hj x hx sA;exact hh i hi j hj x (by rw[<-hy i hi];exact hx) x (by rw[<-hy j (by omega)];exact sA) rfl
 have aA:∀x,x∈zn W (zq W)↔∃m,m<zq W/\x∈yS W (zO W m):=fun x=>by
  rw[zDZ];constructor
  ·rintro⟨i,hi,hx⟩;rw[hy i hi]at hx;exact⟨i,hi,lA i hi x hx⟩
  ·rintro⟨m,hm,hx⟩;obtain⟨i,hi,hx⟩:=zPe h h0 hm hx;exact⟨i,hi,by rw[hy i hi];exact hx⟩
 unfold zFs;rw[hA];constructor
 ·rintro⟨ha,pA⟩;refine⟨?_,ha⟩;have bA:=hA.2 ha;have cA:∀x,x∈zn W (zq W)->zr W.zRd x.1 x.2:=fun x hx=>by
   obtain⟨m,hm,hx⟩:=(aA x).1 hx;exact(gA m hm x hx).1
  have hl:∀x,x∈(zn W (zq W)).map (fun x=>x.1.toNat)->x<W.zRd.n:=by
   intro x hx;obtain⟨y,eA,rfl⟩:=List.mem_map.1 hx;have:=cA y eA;have h1:=this.2.1;have h2:=this.2.2.1;omega
  have iA:((zn W (zq W)).map (fun x=>x.1.toNat)).Nodup:=by
   unfold List.Nodup;rw[List.pairwise_map];refine List.Pairwise.imp_of_mem ?_ bA;intro a b mA nA kA e;have p1:=cA a mA;have p2:=cA b nA;have:=p1.2.1;have:=p2.2.1;exact kA (fA a b p1 p2 (by omega))
  have hc:=zF9 iA hl;rw[List.length_map]at hc;have hr:=zLq h.right;have dA:∀i,i<W.zRd.n->(i∈(zn W (zq W)).map (fun x=>x.1.toNat)↔∃m,m<zq W/\∃b,((i:Int),b)∈yS W (zO W m)):=by
   intro i hi;rw[List.mem_map];constructor
   ·rintro⟨x,hx,e⟩;have:=(cA x hx).2.1;obtain⟨m,hm,hx⟩:=(aA x).1 hx;exact⟨m,hm,x.2,by rw[show(i:Int)=x.1 by omega];exact hx⟩
   ·rintro⟨m,hm,b,hx⟩;exact⟨(i,b),(aA _).2 ⟨m,hm,hx⟩,by simp⟩
  have jA:∀i,i<W.zRd.n->i∈(zn W (zq W)).map (fun x=>x.1.toNat)->¬qE (W.zRd.s i)/\¬Has W.zRd.hn W.zRd.h i:=by
   intro i hi hx;obtain⟨m,hm,b,hx⟩:=(dA i hi).1 hx;have:=gA m hm _ hx;refine⟨fun hf=>?_,this.2⟩;have h1:=this.1.1;have h2:=this.1.2.2.2;simp only[Int.toNat_natCast]at h2;rw[hf.1]at h2;simp only at h1 h2;omega
  have:=(zIe jA).1 (by rw[hc];omega);intro i hi;rw[<-dA i hi];exact this i hi
 ·rintro⟨tA,ha⟩;refine⟨ha,?_⟩;have bA:=hA.2 ha;have cA:∀x,x∈zn W (zq W)->zr W.zRd x.1 x.2:=fun x hx=>by
   obtain⟨m,hm,hx⟩:=(aA x).1 hx;exact(gA m hm x hx).1
  have hl:∀x,x∈(zn W (zq W)).map (fun x=>x.1.toNat)->x<W.zRd.n:=by
   intro x hx;obtain⟨y,eA,rfl⟩:=List.mem_map.1 hx;have:=cA y eA;have h1:=this.2.1;have h2:=this.2.2.1;omega
  have iA:((zn W (zq W)).map (fun x=>x.1.toNat)).Nodup:=by
   unfold List.Nodup;rw[List.pairwise_map];refine List.Pairwise.imp_of_mem ?_ bA;intro a b mA nA kA e;have p1:=cA a mA;have p2:=cA b nA;have:=p1.2.1;have:=p2.2.1;exact kA (fA a b p1 p2 (by omega))
  have hc:=zF9 iA hl;rw[List.length_map]at hc;have hr:=zLq h.right;have dA:∀i,i<W.zRd.n->(i∈(zn W (zq W)).map (fun x=>x.1.toNat)↔∃m,m<zq W/\∃b,((i:Int),b)∈yS W (zO W m)):=by
   intro i hi;rw[List.mem_map];constructor
   ·rintro⟨x,hx,e⟩;have:=(cA x hx).2.1;obtain⟨m,hm,hx⟩:=(aA x).1 hx;exact⟨m,hm,x.2,by rw[show(i:Int)=x.1 by omega];exact hx⟩
   ·rintro⟨m,hm,b,hx⟩;exact⟨(i,b),(aA _).2 ⟨m,hm,hx⟩,by simp⟩
  have:=zCb (P:=fun i=>i∈(zn W (zq W)).map (fun x=>x.1.toNat)) (Q:=fun i=>¬qE (W.zRd.s i)/\¬Has W.zRd.hn W.zRd.h i) (n:=W.zRd.n) (fun i hi=>(dA i hi).trans (tA i hi));omega
end Go.Proofs.YtmgeglgboadfiaaGreatDoor
