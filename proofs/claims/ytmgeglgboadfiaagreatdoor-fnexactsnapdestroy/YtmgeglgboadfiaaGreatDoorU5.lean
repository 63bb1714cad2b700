/- A part of the proof. -/
import Derived.Test.YtmgeglgboadfiaaGreatDoorU4
set_option linter.unusedVariables false
set_option maxRecDepth 20000
set_option maxHeartbeats 8000000
namespace Go.Proofs.YtmgeglgboadfiaaGreatDoor
open Go.RowKit
theorem zNI:(Tryz.prog.info? 2).map (fun i=>(i.zero,i.size,i.bytes))=some (some (.int .i64 0),1,8):=by kernel_rfl
def zEk(w:World)(base:Nat)(v:Value)(l:List Int):Prop:=w.ownsRow base 2 1 v l.length (icl l)
theorem zEk.zO9{w w1:World}{base:Nat}{v:Value}{l:List Int}(h:zEk w base v l)(hb:Below w.heap.size w w1):zEk w1 base v l:=
 World.ownsRow.kept h (yW hb none) (by cases v.ownBlock<;>simp)
theorem zEk.next{w2:World}{base g cap:Nat}{l:List Int}{x:Int}(h:w2.ownsRow base 2 1 (.slice (some ⟨g,0,none⟩) (l.length+1) cap) (l.length+1) (icl l ++ [.int .i64 x])):zEk w2 base (.slice (some ⟨g,0,none⟩) (l.length+1) cap) (l ++ [x]):=by
 unfold zEk;rw[zK0,List.length_append];exact h
theorem zEk.lt{w:World}{base:Nat}{v:Value}{l:List Int}(h:zEk w base v l){q:Nat}(hq:v.ownBlock=some q):base<=q:=by
 rcases h.2 with⟨rfl,_⟩ | ⟨g,cap,aA,rfl,hb,hg,_⟩
 ·simp[Value.ownBlock]at hq
 ·simp only[Value.ownBlock,Option.some.injEq]at hq;subst hq;exact hb
theorem zp.grownT{w w1:World}{b:Nat}{x y:Value}{row:Option Nat}(h:zp w b x y)(hg:w.grownBy w1 row)(aA:∀q,row=some q->b<q):zp w1 b x y:=
 h.zPF (S:=fun k=>row=some k) ⟨hg.os,hg.tape,hg.output,hg.size,fun k hk aA=>hg.block k hk (fun e=>aA e.symm)⟩ (fun e=>by have:=aA b e;omega)
theorem zCz(v0 v1:Value)(lo hi:Nat)(p:zN)(xs xb:Int)(w:World)(h1:qS w lo hi v0 v1 p)(hR:qB p) :
  Calls Tryz.prog 71 #[.agg #[v0,v1],.agg #[.int .i64 xs,.int .i64 xb]] w fun e w'=>zG (zz p xs xb) e/\Below w.heap.size w w':=by
 have Hp:=zL h1;have HR:=zL hR;obtain⟨a,c,a',c',rfl,rfl⟩:∃a c a' c',v0 = .slice a p.n c/\v1 = .slice a' p.hn c':=by
  obtain⟨⟨_,a,c,h1,_⟩,⟨_,a',c',h3,_⟩⟩:=h1;exact⟨a,c,a',c',h1,h3⟩
 clear h1 hR;have mE:=zFE w (.slice a p.n c) (.slice a' p.hn c') (.int .i64 xs) (.int .i64 xb) 33 61;obtain⟨i0,iE,vD⟩:=Option.map_eq_some_iff.1 zNI;simp only[Prod.mk.injEq]at vD;have HI:=zL (And.intro iE vD);clear iE vD;go_enter Tryz.func71,Tryz.ntmps71;go_wp2_with fail;generalize (w.alloc (.cells #[.slice a p.n c,.slice a' p.hn c'] 33)).alloc (.cells #[.int .i64 xs,.int .i64 xb] 61)=W at mE ⊢;obtain⟨hB,hX,eA,hz⟩:=mE;refine(zAN xs xb W).mono ?_;rintro e w1 ⟨⟨t,rfl,ht⟩,fC⟩;have dD:=zL (hB.zO9 fC);have jD:=zL (hX.zO9 fC);have rC:=zA eA fC;have fF:=fC.size;clear hB hX eA fC;by_cases hn:Nil xs xb
 ·have HN:=zL hn;obtain rfl:t=true:=ht.2 hn;clear ht hn;go_wp2;go_ret;exact⟨zG.yes (Or.inl HN.out),rC⟩
 ·have HN:=zL hn;obtain rfl:t=false:=zW ht hn;clear ht hn;obtain⟨⟨x0,x1⟩,⟨x2,x3⟩⟩:=dD.out;obtain⟨⟨y0,y1⟩,⟨y2,y3⟩⟩:=jD.out;go_wp2_with fail;refine(zCC _ _ lo hi p xs xb _ (Hp.out.zO9 rC)).mono ?_;rintro e w2 ⟨⟨t,rfl,ht⟩,gC⟩;have eD:=zL (dD.out.zO9 gC);have kD:=zL (jD.out.zO9 gC);have oD:=zA rC gC;have gF:w.heap.size+2<=w2.heap.size:=(by have:=gC.size;omega);clear gC rC dD jD x0 x1 x2 x3 y0 y1 y2 y3 hz fF;by_cases bB:zEG p xs xb
  ·have iD:=zL bB;obtain rfl:t=true:=ht.2 bB;have Hf:=zL (qp HR.out bB.1);have h8:(p.s xs.toNat).kn=8:=by rcases zFZ HR.out bB.1 with h | h;(have:=bB.2.1;omega);exact h
   obtain⟨k,rfl⟩:=Int.eq_ofNat_of_zero_le bB.1.2.1;have hk:k<p.n:=(by have:=bB.1.2.2.1;omega);have kF:(k:Int)<(p.n:Int):=(by omega);rw[Int.toNat_natCast]at Hf h8;have H8:=zL h8;clear ht bB;obtain⟨b,off,ka,kc,rfl,pD⟩:=Hp.out.1.cells hk;have cE:Hid (zR w lo hi (.slice ka 8 kc) 8 (p.s k).ks (p.s k).kb):=(by have:=pD.slot.2.1;rw[h8]at this;exact this);obtain⟨q0,q1,q2,_⟩:=pD.zO9 oD;rw[h8]at q1;clear h8 pD;obtain⟨⟨x0,x1⟩,⟨x2,x3⟩⟩:=eD.out;obtain⟨⟨y0,y1⟩,⟨y2,y3⟩⟩:=kD.out;have iA:=zC w2 (.cells #[.int .i64 (k:Int)] 2);have aE:=zL (show zEk (w2.alloc (.cells #[.int .i64 (k:Int)] 2)) (w.heap.size+2) (.slice (some ⟨w2.heap.size,0,none⟩) 1 1) (ys p k (p.s k) 0)from World.ownsRow_lit (e:=2) (size:=1) w2 #[.int .i64 (k:Int)] 1 gF (by unfold maxLen;omega) rfl);have fD:=zL (eD.out.zO9 iA);have fE:=zA oD iA;have c0:=(iA.cell (zD q0)).trans q0;have c1:=(iA.cell (zD q1)).trans q1;obtain⟨⟨z0,z1⟩,⟨z2,z3⟩⟩:=fD.out;obtain⟨⟨z4,z5⟩,⟨z6,z7⟩⟩:=kD.out.zO9 iA;clear iA;go_wp2
   go_loopw [5,6,8] (fun sv nv i wr=>∃(j m:Nat) (sa:Option Addr) (sc:Nat),j<=8/\i = .int .i64 j/\nv = .int .i64 m/\m<=j/\(0<m↔∃i,i<j/\¬Nil (zb (p.s k) i) (zu (p.s k) i))/\sv = .slice sa (ys p k (p.s k) j).length sc/\zEk wr (w.heap.size+2) sv (ys p k (p.s k) j)/\(∀i,i<j->zOM p (p.s k) i)/\(ys p k (p.s k) j).Nodup/\zp wr w.heap.size (.slice (some ⟨b,off,none⟩) p.n c) (.slice a' p.hn c')/\Below w.heap.size w wr/\w.heap.size+2<=wr.heap.size) (fun _ _ i _=>8 - (intOf i).toNat)
   case atStart=>exact⟨0,0,_,_,Nat.zero_le _,rfl,rfl,Nat.le_refl _,⟨fun h=>absurd h (Nat.lt_irrefl _),fun ⟨i,hi,_⟩=>absurd hi (Nat.not_lt_zero _)⟩,rfl,aE.out,fun i hi=>absurd hi (Nat.not_lt_zero _),by simp[ys,zAo,zAO],fD.out,fE,by rw[World.size_alloc];omega⟩
   case round=>
    obtain⟨j,m0,sa,sc,hj,rfl,rfl,lF,iC,rfl,eB,kC,dB,cB,gB,bD⟩:=hrel;have dC:=zL iC;have nA:=zL eB;have nB:=zL kC;have oB:=zL dB;have mA:=zL cB;have vE:=zKL p k (p.s k) hj;clear iC eB kC dB cB aE fD fE c0 c1 z0 z1 z2 z3 z4 z5 z6 z7 x0 x1 x2 x3 y0 y1 y2 y3 q0 q1 q2 eD kD;by_cases rA:j<8
    ·have bF:(j:Int)<8:=(by omega);obtain⟨tb,aC,rfl,q0,q1⟩:=(cE.out.zO9 gB).cellsT rA;rw[<-zCx H8.out rA]at q0;rw[<-zE0 H8.out rA]at q1;go_wp2_with fail;refine(zAN (zb (p.s k) j) (zu (p.s k) j) wr).mono ?_;rintro e W ⟨⟨t,rfl,ht⟩,hb⟩;have dA:=zA gB hb;have jA:=zL (mA.out.zO9 hb);have aB:=zL (nA.out.zO9 hb);have tD:w.heap.size+2<=W.heap.size:=(by have:=hb.size;omega);have lC:=(hb.cell (zD q0)).trans q0;have mC:=(hb.cell (zD q1)).trans q1;clear q0 q1 gB hb nA mA bD;have q0:=lC;have q1:=mC;clear lC mC;by_cases oA:Nil (zb (p.s k) j) (zu (p.s k) j)
     ·have kA:=zL oA;obtain rfl:t=true:=ht.2 oA;clear ht oA;go_wp2;go_roundw
      case rel=>
       refine⟨j+1,m0,sa,sc,by omega,by go_num,rfl,by omega,?_,by rw[zFd kA.out],by rw[zFd kA.out];exact aB.out,zr rA nB.out (Or.inl kA.out),by rw[zFd kA.out];exact oB.out,jA.out,dA,tD⟩;exact dC.out.trans ⟨fun ⟨i,hi,h⟩=>⟨i,by omega,h⟩,fun ⟨i,hi,h⟩=>by
        by_cases e:i=j
        ·subst e;exact absurd kA.out h
        ·exact⟨i,by omega,h⟩⟩
      case measure=>simp[intOf];omega
     ·have kA:=zL oA;obtain rfl:t=false:=zW ht oA;clear ht oA;have fA:=zL (show(ys p k (p.s k) j).length<=maxLen by unfold maxLen;omega);obtain⟨⟨x0,x1⟩,⟨x2,x3⟩⟩:=jA.out;by_cases vC:zEG p (zb (p.s k) j) (zu (p.s k) j)
      ·have fB:=zL vC;clear vC;by_cases tC:zb (p.s k) j∈ys p k (p.s k) j
       ·have cC:=zL tC;clear tC;go_wp2_with fail;refine wp_region_held_drew (S:=(fun w'=>w'.cell? ⟨w.heap.size,0,none⟩=some (.slice (some ⟨b,off,none⟩) p.n c)/\w'.cell? ⟨w.heap.size,1,none⟩=some (.slice a' p.hn c')/\w'.cell? ⟨tb,aC+j*2,none⟩=some (.int .i64 (zb (p.s k) j))/\w'.cell? ⟨tb,aC+j*2+1,none⟩=some (.int .i64 (zu (p.s k) j)))) (by kernel_rfl) ?_ (fun hHeld=>?_)
        ·(try dsimp only)
         go_keep
        refine tk 0 (h:=tk 1 (h:=tk 2 (h:=tk 3 (h:=tk 4 (h:=?_)))));refine rd [5] (rc (fun K hK=>?_) .nil);go_simp;go_at_call 139;refine(zCC _ _ lo hi p (zb (p.s k) j) (zu (p.s k) j) _ ?_).mono ?_
        ·first | exact Hp.out.zO9 dA | exact Hp.out.zO9 dA.drew
        rintro e wa ⟨⟨ta,rfl,gA⟩,eA⟩;obtain rfl:ta=true:=gA.2 fB.out;clear gA;have aA:Below W.heap.size W wa:=(by first | exact eA | exact zI eA);obtain⟨⟨k0,_⟩,⟨k1,_⟩⟩:=jA.out.zO9 aA;have k2:=(aA.cell (zD q0)).trans q0;have k3:=(aA.cell (zD q1)).trans q1
        (try go_wp2_with fail)
        refine hK.out _ _ (by(try dsimp only);go_keep) ?_;clear hK K hHeld;intro hHeld
        try simp only[Act.put,s1,s2,s3]
        refine tk 6 (h:=tk 7 (h:=tk 8 (h:=tk 9 (h:=tk 10 (h:=tk 11 (h:=tk 12 (h:=tk 13 (h:=?_))))))));refine rd [14] (rc (fun K hK=>?_) .nil);go_simp;go_at_call 75;refine(zAA _ _ 0 _ _ (zb (p.s k) j) _ (zE9 fA.out (aB.out.kept (yW aA none) (by rcases Value.ownBlock _<;>simp)))).mono ?_;rintro e wb ⟨⟨pB,rfl,cA⟩,rfl⟩;rw[zEs]at cA;obtain rfl:pB=true:=cA.2 cC.out;clear cA
        (try go_wp2_with fail)
        refine hK.out _ _ (by(try dsimp only);go_keep) ?_;clear hK K hHeld;intro hHeld
        try simp only[Act.put,s1,s2,s3]
        refine tk 15 (h:=?_);refine wpAnyH_done (by kernel_rfl) ?_ _;have pA:=zA dA aA;go_wp2;go_ret;refine⟨zG.no fun h=>?_,pA⟩;have hd:=zIC HN.out (h.resolve_left HN.out).2.2 rA (Nat.zero_le _) kA.out;exact(zC6.1 (show(ys p k (p.s k) j ++ [zb (p.s k) j]).Nodup from hd)).2 cC.out
       ·have cC:=zL tC;clear tC;go_wp2_with fail;refine wp_region_held_drew (S:=(fun w'=>w'.cell? ⟨w.heap.size,0,none⟩=some (.slice (some ⟨b,off,none⟩) p.n c)/\w'.cell? ⟨w.heap.size,1,none⟩=some (.slice a' p.hn c')/\w'.cell? ⟨tb,aC+j*2,none⟩=some (.int .i64 (zb (p.s k) j))/\w'.cell? ⟨tb,aC+j*2+1,none⟩=some (.int .i64 (zu (p.s k) j)))) (by kernel_rfl) ?_ (fun hHeld=>?_)
        ·(try dsimp only)
         go_keep
        refine tk 0 (h:=tk 1 (h:=tk 2 (h:=tk 3 (h:=tk 4 (h:=?_)))));refine rd [5] (rc (fun K hK=>?_) .nil);go_simp;go_at_call 139;refine(zCC _ _ lo hi p (zb (p.s k) j) (zu (p.s k) j) _ ?_).mono ?_
        ·first | exact Hp.out.zO9 dA | exact Hp.out.zO9 dA.drew
        rintro e wa ⟨⟨ta,rfl,gA⟩,eA⟩;obtain rfl:ta=true:=gA.2 fB.out;clear gA;have aA:Below W.heap.size W wa:=(by first | exact eA | exact zI eA);obtain⟨⟨k0,_⟩,⟨k1,_⟩⟩:=jA.out.zO9 aA;have k2:=(aA.cell (zD q0)).trans q0;have k3:=(aA.cell (zD q1)).trans q1
        (try go_wp2_with fail)
        refine hK.out _ _ (by(try dsimp only);go_keep) ?_;clear hK K hHeld;intro hHeld
        try simp only[Act.put,s1,s2,s3]
        refine tk 6 (h:=tk 7 (h:=tk 8 (h:=tk 9 (h:=tk 10 (h:=tk 11 (h:=tk 12 (h:=tk 13 (h:=?_))))))));refine rd [14] (rc (fun K hK=>?_) .nil);go_simp;go_at_call 75;refine(zAA _ _ 0 _ _ (zb (p.s k) j) _ (zE9 fA.out (aB.out.kept (yW aA none) (by rcases Value.ownBlock _<;>simp)))).mono ?_;rintro e wb ⟨⟨pB,rfl,cA⟩,rfl⟩;rw[zEs]at cA;obtain rfl:pB=false:=zW cA cC.out;clear cA
        (try go_wp2_with fail)
        refine hK.out _ _ (by(try dsimp only);go_keep) ?_;clear hK K hHeld;intro hHeld
        try simp only[Act.put,s1,s2,s3]
        refine tk 15 (h:=?_);refine wpAnyH_done (by kernel_rfl) ?_ _;have pA:=zA dA aA;have jF:w.heap.size+2<=wb.heap.size:=(by have:=aA.size;omega);obtain⟨m,hm⟩:=Int.eq_ofNat_of_zero_le fB.out.1.2.1;have dF:m<p.n:=(by have:=fB.out.1.2.2.1;omega);have eF:(m:Int)<(p.n:Int):=(by omega);have aD:(zb (p.s k) j).toNat=m:=(by rw[hm];rfl);have bE:=zL (qp HR.out fB.out.1);rw[aD]at bE;have nD:(p.s m).kn=8:=by
         have h0:=fB.out.2.1;rw[aD]at h0;rcases zDp bE.out with h | h
         ·omega
         ·exact h
        have cD:=zL nD;obtain⟨_,_,ua,uc,ha,rD⟩:=Hp.out.1.cells dF;simp only[Option.some.injEq,Addr.mk.injEq,and_true]at ha;obtain⟨rfl,rfl⟩:=ha;have rE:Hid (zR w lo hi (.slice ua 8 uc) 8 (p.s m).ks (p.s m).kb):=(by have:=rD.slot.2.1;rw[nD]at this;exact this);have pE:=zL rD;have Hm:=zL hm;have sB:=zL aD;have iA:=zC wb (.cells #[.int .i64 (zb (p.s k) j)] 2);have kB:=zL ((aB.out.zO9 aA).zO9 iA);have nC:=zL ((jA.out.zO9 aA).zO9 iA);have tB:=zA pA iA;have iF:(wb.alloc (.cells #[.int .i64 (zb (p.s k) j)] 2)).heap.size=wb.heap.size+1:=World.size_alloc _ _;have oC:=zL (World.news_of_block (heap_alloc_last wb (.cells #[.int .i64 (zb (p.s k) j)] 2)));have nF:(m0:Int)<9:=(by omega);clear rD nD hm aD iA aB jA dA aA q0 q1 k0 k1 k3 x0 x1 x2 x3;go_wp2_with (first
         | (at_builtin;refine wpList_append_lies _ rfl _ _ 23 rfl (w.heap.size+2) 2 i0 (.int .i64 0) 1 8 (by kernel_rfl) HI.out.1 HI.out.2.1 HI.out.2.2.1 HI.out.2.2.2 rfl (by decide) (.slice sa (ys p k (p.s k) j).length sc) (ys p k (p.s k) j).length (icl (ys p k (p.s k) j)) rfl kB.out ⟨wb.heap.size,0,none⟩ 1 1 [.int .i64 (zb (p.s k) j)] rfl rfl oC.out (by simp[Value.oneCell']) (by decide) (by unfold maxLen;omega) (by omega) (by omega) _ rfl ?_;intro g4 iB w4 lA bA eC jC)
         | fail)
        have eE:Hid (zEk w4 (w.heap.size+2) (.slice (some ⟨g4,0,none⟩) ((ys p k (p.s k) j).length+1) iB) (zAp p k (p.s k) j 0)):=by
         rw[zFX];exact zEk.next lA
        have sC:Below w.heap.size w w4:=tB.grown bA tB.size (fun q hq=>by have:=kB.out.lt hq;omega);have gD:=zL (nC.out.grownT bA (fun q hq=>by have:=kB.out.lt hq;omega));have oE:w.heap.size+2<=w4.heap.size:=(by have:=bA.size;omega);have kE:(zAp p k (p.s k) j 0).Nodup:=(by rw[zFX];exact zC6.2 ⟨oB.out,cC.out⟩);have dE:=zL kE;clear lA bA eC jC kB nC tB pA oC kE k2;obtain⟨_,_,ha,q0,q1⟩:=(cE.out.zO9 sC).cellsT rA;simp only[Option.some.injEq,Addr.mk.injEq,and_true]at ha;obtain⟨rfl,rfl⟩:=ha;rw[<-zCx H8.out rA,Hm.out]at q0;obtain⟨r0,r1,r2,_⟩:=pE.out.zO9 sC;rw[cD.out]at r1;obtain⟨⟨x0,x1⟩,⟨x2,x3⟩⟩:=gD.out
        go_quiet (fail)
        go_wp2
        go_loopw [5,9,11] (fun sv nv i wr=>∃(i' m1:Nat) (sa:Option Addr) (sc:Nat),i'<=8/\i = .int .i64 i'/\nv = .int .i64 m1/\m1<=i'/\(0<m1↔∃i,i<i'/\¬Nil (zb (p.s m) i) (zu (p.s m) i))/\sv = .slice sa (zAp p k (p.s k) j i').length sc/\zEk wr (w.heap.size+2) sv (zAp p k (p.s k) j i')/\(∀i,i<i'->Nil (zb (p.s m) i) (zu (p.s m) i)\/zGI p (zb (p.s m) i) (zu (p.s m) i))/\(zAp p k (p.s k) j i').Nodup/\zp wr w.heap.size (.slice (some ⟨b,off,none⟩) p.n c) (.slice a' p.hn c')/\Below w.heap.size w wr/\w.heap.size+2<=wr.heap.size) (fun _ _ i _=>8 - (intOf i).toNat)
        case atStart=>exact⟨0,0,some ⟨g4,0,none⟩,iB,Nat.zero_le _,rfl,rfl,Nat.le_refl _,⟨fun h=>absurd h (Nat.lt_irrefl _),fun ⟨i,hi,_⟩=>absurd hi (Nat.not_lt_zero _)⟩,by rw[zFX,List.length_append];rfl,eE.out.zO9 (zh (Below.refl _ _) _),fun i hi=>absurd hi (Nat.not_lt_zero _),dE.out,gD.out.zO9 (zh (Below.refl _ _) _),zh sC _,oE⟩
        case round=>
         obtain⟨i,m1,sa,sc,tE,rfl,rfl,mF,lB,rfl,eB,lE,dB,cB,gB,bD⟩:=hrel;have tA:=zL lB;have nA:=zL eB;have mD:=zL lE;have vA:=zL dB;have mA:=zL cB;have jE:=zN8 p k (p.s k) (show j<=8 by omega) tE;clear lB eB lE dB cB eE gD sC dE x0 x1 x2 x3 q0 q1 r0 r1 r2 oE;by_cases vB:i<8
         ·have aF:(i:Int)<8:=(by omega);obtain⟨ub,bC,rfl,q0,q1⟩:=(rE.out.zO9 gB).cellsT vB;rw[<-zCx cD.out vB]at q0;rw[<-zE0 cD.out vB]at q1;go_wp2_with fail;refine(zAN (zb (p.s m) i) (zu (p.s m) i) wr).mono ?_;rintro e W ⟨⟨t,rfl,ht⟩,hb⟩;have dA:=zA gB hb;have jA:=zL (mA.out.zO9 hb);have aB:=zL (nA.out.zO9 hb);have tD:w.heap.size+2<=W.heap.size:=(by have:=hb.size;omega);have lC:=(hb.cell (zD q0)).trans q0;have mC:=(hb.cell (zD q1)).trans q1;clear q0 q1 gB hb nA mA bD;have q0:=lC;have q1:=mC;clear lC mC;by_cases oA:Nil (zb (p.s m) i) (zu (p.s m) i)
          ·have mB:=zL oA;obtain rfl:t=true:=ht.2 oA;clear ht oA;have es:zAp p k (p.s k) j (i+1)=zAp p k (p.s k) j i:=zNU (by rw[sB.out];exact mB.out);go_wp2;go_roundw
           case rel=>
            refine⟨i+1,m1,sa,sc,by omega,by go_num,rfl,by omega,?_,by rw[es],by rw[es];exact aB.out,zr vB mD.out (Or.inl mB.out),by rw[es];exact vA.out,jA.out,dA,tD⟩;exact tA.out.trans ⟨fun ⟨i,hi,h⟩=>⟨i,by omega,h⟩,fun ⟨i',hi,h⟩=>by
             by_cases e:i'=i
             ·subst e;exact absurd mB.out h
             ·exact⟨i',by omega,h⟩⟩
           case measure=>simp[intOf];omega
          ·have mB:=zL oA;obtain rfl:t=false:=zW ht oA;clear ht oA;have fA:=zL (show(zAp p k (p.s k) j i).length<=maxLen by unfold maxLen;omega);obtain⟨⟨x0,x1⟩,⟨x2,x3⟩⟩:=jA.out;have es:zAp p k (p.s k) j (i+1)=zAp p k (p.s k) j i ++ [zb (p.s m) i]:=(by have:=zNT (p:=p) (rs:=(k:Int)) (s:=p.s k) (j:=j) (i:=i) (by rw[sB.out];exact mB.out);rw[sB.out]at this;exact this);have pC:=zL es;clear es;by_cases hP:zGI p (zb (p.s m) i) (zu (p.s m) i)
           ·have rB:=zL hP;clear hP;by_cases jB:zb (p.s m) i∈zAp p k (p.s k) j i
            ·have sA:=zL jB;clear jB;go_wp2_with fail;refine wp_region_held_drew (S:=(fun w'=>w'.cell? ⟨w.heap.size,0,none⟩=some (.slice (some ⟨b,off,none⟩) p.n c)/\w'.cell? ⟨w.heap.size,1,none⟩=some (.slice a' p.hn c')/\w'.cell? ⟨ub,bC+i*2,none⟩=some (.int .i64 (zb (p.s m) i))/\w'.cell? ⟨ub,bC+i*2+1,none⟩=some (.int .i64 (zu (p.s m) i)))) (by kernel_rfl) ?_ (fun hHeld=>?_)
             ·(try dsimp only)
              go_keep
             refine tk 0 (h:=tk 1 (h:=tk 2 (h:=tk 3 (h:=tk 4 (h:=?_)))));refine rd [5] (rc (fun K hK=>?_) .nil);go_simp;go_at_call 140;refine(zDV _ _ lo hi p (zb (p.s m) i) (zu (p.s m) i) _ ?_).mono ?_
             ·first | exact Hp.out.zO9 dA | exact Hp.out.zO9 dA.drew
             rintro e wa ⟨⟨ta,rfl,gA⟩,eA⟩;obtain rfl:ta=true:=gA.2 rB.out;clear gA;have aA:Below W.heap.size W wa:=(by first | exact eA | exact zI eA);obtain⟨⟨k0,_⟩,⟨k1,_⟩⟩:=jA.out.zO9 aA;have k2:=(aA.cell (zD q0)).trans q0;have k3:=(aA.cell (zD q1)).trans q1
             (try go_wp2_with fail)
             refine hK.out _ _ (by(try dsimp only);go_keep) ?_;clear hK K hHeld;intro hHeld
             try simp only[Act.put,s1,s2,s3]
             refine tk 6 (h:=tk 7 (h:=tk 8 (h:=tk 9 (h:=tk 10 (h:=tk 11 (h:=tk 12 (h:=tk 13 (h:=?_))))))));refine rd [14] (rc (fun K hK=>?_) .nil);go_simp;go_at_call 75;refine(zAA _ _ 0 _ _ (zb (p.s m) i) _ (zE9 fA.out (aB.out.kept (yW aA none) (by rcases Value.ownBlock _<;>simp)))).mono ?_;rintro e wb ⟨⟨pB,rfl,cA⟩,rfl⟩;rw[zEs]at cA;obtain rfl:pB=true:=cA.2 sA.out;clear cA
             (try go_wp2_with fail)
             refine hK.out _ _ (by(try dsimp only);go_keep) ?_;clear hK K hHeld;intro hHeld
             try simp only[Act.put,s1,s2,s3]
             refine tk 15 (h:=?_);refine wpAnyH_done (by kernel_rfl) ?_ _;have pA:=zA dA aA;go_wp2;go_ret;refine⟨zG.no fun h=>?_,pA⟩;have hd:=zIC HN.out (h.resolve_left HN.out).2.2 rA (show i+1<=8 by omega) kA.out;have gE:(zAp p k (p.s k) j (i+1)).Nodup:=hd;rw[pC.out]at gE;exact(zC6.1 gE).2 sA.out
            ·have sA:=zL jB;clear jB;go_wp2_with fail;refine wp_region_held_drew (S:=(fun w'=>w'.cell? ⟨w.heap.size,0,none⟩=some (.slice (some ⟨b,off,none⟩) p.n c)/\w'.cell? ⟨w.heap.size,1,none⟩=some (.slice a' p.hn c')/\w'.cell? ⟨ub,bC+i*2,none⟩=some (.int .i64 (zb (p.s m) i))/\w'.cell? ⟨ub,bC+i*2+1,none⟩=some (.int .i64 (zu (p.s m) i)))) (by kernel_rfl) ?_ (fun hHeld=>?_)
             ·(try dsimp only)
              go_keep
             refine tk 0 (h:=tk 1 (h:=tk 2 (h:=tk 3 (h:=tk 4 (h:=?_)))));refine rd [5] (rc (fun K hK=>?_) .nil);go_simp;go_at_call 140;refine(zDV _ _ lo hi p (zb (p.s m) i) (zu (p.s m) i) _ ?_).mono ?_
             ·first | exact Hp.out.zO9 dA | exact Hp.out.zO9 dA.drew
             rintro e wa ⟨⟨ta,rfl,gA⟩,eA⟩;obtain rfl:ta=true:=gA.2 rB.out;clear gA;have aA:Below W.heap.size W wa:=(by first | exact eA | exact zI eA);obtain⟨⟨k0,_⟩,⟨k1,_⟩⟩:=jA.out.zO9 aA;have k2:=(aA.cell (zD q0)).trans q0;have k3:=(aA.cell (zD q1)).trans q1
             (try go_wp2_with fail)
             refine hK.out _ _ (by(try dsimp only);go_keep) ?_;clear hK K hHeld;intro hHeld
             try simp only[Act.put,s1,s2,s3]
             refine tk 6 (h:=tk 7 (h:=tk 8 (h:=tk 9 (h:=tk 10 (h:=tk 11 (h:=tk 12 (h:=tk 13 (h:=?_))))))));refine rd [14] (rc (fun K hK=>?_) .nil);go_simp;go_at_call 75;refine(zAA _ _ 0 _ _ (zb (p.s m) i) _ (zE9 fA.out (aB.out.kept (yW aA none) (by rcases Value.ownBlock _<;>simp)))).mono ?_;rintro e wb ⟨⟨pB,rfl,cA⟩,rfl⟩;rw[zEs]at cA;obtain rfl:pB=false:=zW cA sA.out;clear cA
             (try go_wp2_with fail)
             refine hK.out _ _ (by(try dsimp only);go_keep) ?_;clear hK K hHeld;intro hHeld
             try simp only[Act.put,s1,s2,s3]
             refine tk 15 (h:=?_);refine wpAnyH_done (by kernel_rfl) ?_ _;have pA:=zA dA aA;have jF:w.heap.size+2<=wb.heap.size:=(by have:=aA.size;omega);have iA:=zC wb (.cells #[.int .i64 (zb (p.s m) i)] 2);have kB:=zL ((aB.out.zO9 aA).zO9 iA);have nC:=zL ((jA.out.zO9 aA).zO9 iA);have tB:=zA pA iA;have iF:(wb.alloc (.cells #[.int .i64 (zb (p.s m) i)] 2)).heap.size=wb.heap.size+1:=World.size_alloc _ _;have oC:=zL (World.news_of_block (heap_alloc_last wb (.cells #[.int .i64 (zb (p.s m) i)] 2)));have cF:(m1:Int)<9:=(by omega);clear iA aB jA dA aA q0 q1 k0 k1 k3 x0 x1 x2 x3;go_wp2_with (first
              | (at_builtin;refine wpList_append_lies _ rfl _ _ 23 rfl (w.heap.size+2) 2 i0 (.int .i64 0) 1 8 (by kernel_rfl) HI.out.1 HI.out.2.1 HI.out.2.2.1 HI.out.2.2.2 rfl (by decide) (.slice sa (zAp p k (p.s k) j i).length sc) (zAp p k (p.s k) j i).length (icl (zAp p k (p.s k) j i)) rfl kB.out ⟨wb.heap.size,0,none⟩ 1 1 [.int .i64 (zb (p.s m) i)] rfl rfl oC.out (by simp[Value.oneCell']) (by decide) (by unfold maxLen;omega) (by omega) (by omega) _ rfl ?_;intro g4 iB w4 lA bA eC jC)
              | go_in)
             go_roundw
             case rel=>
              refine⟨i+1,m1+1,some ⟨g4,0,none⟩,iB,by omega,by go_num,by go_num,by omega,⟨fun _=>⟨i,by omega,mB.out⟩,fun _=>by omega⟩,by rw[pC.out,List.length_append];rfl,by rw[pC.out];exact zEk.next lA,zr vB mD.out (Or.inr rB.out),by rw[pC.out];exact zC6.2 ⟨vA.out,sA.out⟩,nC.out.grownT bA (fun q hq=>by have:=kB.out.lt hq;omega),tB.grown bA tB.size (fun q hq=>by have:=kB.out.lt hq;omega),by have:=bA.size;omega⟩
             case measure=>simp[intOf];omega
           ·have rB:=zL hP;clear hP;go_wp2_with fail;refine wp_region_held_drew (S:=(fun w'=>w'.cell? ⟨w.heap.size,0,none⟩=some (.slice (some ⟨b,off,none⟩) p.n c)/\w'.cell? ⟨w.heap.size,1,none⟩=some (.slice a' p.hn c')/\w'.cell? ⟨ub,bC+i*2,none⟩=some (.int .i64 (zb (p.s m) i))/\w'.cell? ⟨ub,bC+i*2+1,none⟩=some (.int .i64 (zu (p.s m) i)))) (by kernel_rfl) ?_ (fun hHeld=>?_)
            ·(try dsimp only)
             go_keep
            refine tk 0 (h:=tk 1 (h:=tk 2 (h:=tk 3 (h:=tk 4 (h:=?_)))));refine rd [5] (rc (fun K hK=>?_) .nil);go_simp;go_at_call 140;refine(zDV _ _ lo hi p (zb (p.s m) i) (zu (p.s m) i) _ ?_).mono ?_
            ·first | exact Hp.out.zO9 dA | exact Hp.out.zO9 dA.drew
            rintro e wa ⟨⟨ta,rfl,gA⟩,eA⟩;obtain rfl:ta=false:=zW gA rB.out;clear gA;have aA:Below W.heap.size W wa:=(by first | exact eA | exact zI eA);obtain⟨⟨k0,_⟩,⟨k1,_⟩⟩:=jA.out.zO9 aA;have k2:=(aA.cell (zD q0)).trans q0;have k3:=(aA.cell (zD q1)).trans q1
            (try go_wp2_with fail)
            refine hK.out _ _ (by(try dsimp only);go_keep) ?_;clear hK K hHeld;intro hHeld
            try simp only[Act.put,s1,s2,s3]
            refine tk 6 (h:=tk 7 (h:=ts 8 (h:=ts 9 (h:=ts 10 (h:=ts 11 (h:=ts 12 (h:=ts 13 (h:=?_))))))));refine rd [14] (rc (fun K hK=>?_) .nil);split
            ·rename_i sD
             exact absurd (show false=true from sD) Bool.false_ne_true
            refine hK.out _ _ (by assumption) (fun hHeld=>?_);clear hK K
            try simp only[Act.put,s1,s2,s3]
            refine tk 15 (h:=?_);refine wpAnyH_done (by kernel_rfl) ?_ _;have pA:=zA dA aA;go_wp2;go_ret;refine⟨zG.no fun h=>?_,pA⟩;rcases(h.resolve_left HN.out).2.1.1 j rA with h | h
            ·exact kA.out h
            ·have h2:Nil (zb (p.s (zb (p.s k) j).toNat) i) (zu (p.s (zb (p.s k) j).toNat) i)\/zGI p (zb (p.s (zb (p.s k) j).toNat) i) (zu (p.s (zb (p.s k) j).toNat) i):=h.2.1 i vB;rw[sB.out]at h2;rcases h2 with h2 | h2
             ·exact mB.out h2
             ·exact rB.out h2
         ·obtain rfl:i=8:=(by omega);by_cases nE:m1=0
          ·subst nE;have e0:((0:Nat):Int)=0:=rfl;go_wp2;go_ret;refine⟨zG.no fun h=>?_,gB⟩;rcases(h.resolve_left HN.out).2.1.1 j rA with h | h
           ·exact kA.out h
           ·have h2:∃i,i<8/\¬Nil (zb (p.s (zb (p.s k) j).toNat) i) (zu (p.s (zb (p.s k) j).toNat) i):=h.2.2;rw[sB.out]at h2;have:=tA.out.2 h2;omega
          ·have e0:((m1:Int) == 0)=false:=(by simp;omega);have sE:=zL (show 0<m1 by omega);have lD:Hid (zOL p (p.s (zb (p.s k) j).toNat)):=(by rw[sB.out];exact⟨mD.out,tA.out.1 sE.out⟩);clear nE;go_wp2;go_roundw
           case rel=>
            refine⟨j+1,m0+1,sa,sc,by omega,by go_num,by go_num,by omega,⟨fun _=>⟨j,by omega,kA.out⟩,fun _=>by omega⟩,by rw[zDw kA.out],by rw[zDw kA.out];exact nA.out,zr rA nB.out (Or.inr ⟨fB.out,lD.out⟩),by rw[zDw kA.out];exact vA.out,mA.out,gB,bD⟩
           case measure=>simp[intOf];omega
      ·have fB:=zL vC;clear vC;go_wp2_with fail;refine wp_region_held_drew (S:=(fun w'=>w'.cell? ⟨w.heap.size,0,none⟩=some (.slice (some ⟨b,off,none⟩) p.n c)/\w'.cell? ⟨w.heap.size,1,none⟩=some (.slice a' p.hn c')/\w'.cell? ⟨tb,aC+j*2,none⟩=some (.int .i64 (zb (p.s k) j))/\w'.cell? ⟨tb,aC+j*2+1,none⟩=some (.int .i64 (zu (p.s k) j)))) (by kernel_rfl) ?_ (fun hHeld=>?_)
       ·(try dsimp only)
        go_keep
       refine tk 0 (h:=tk 1 (h:=tk 2 (h:=tk 3 (h:=tk 4 (h:=?_)))));refine rd [5] (rc (fun K hK=>?_) .nil);go_simp;go_at_call 139;refine(zCC _ _ lo hi p (zb (p.s k) j) (zu (p.s k) j) _ ?_).mono ?_
       ·first | exact Hp.out.zO9 dA | exact Hp.out.zO9 dA.drew
       rintro e wa ⟨⟨ta,rfl,gA⟩,eA⟩;obtain rfl:ta=false:=zW gA fB.out;clear gA;have aA:Below W.heap.size W wa:=(by first | exact eA | exact zI eA);obtain⟨⟨k0,_⟩,⟨k1,_⟩⟩:=jA.out.zO9 aA;have k2:=(aA.cell (zD q0)).trans q0;have k3:=(aA.cell (zD q1)).trans q1
       (try go_wp2_with fail)
       refine hK.out _ _ (by(try dsimp only);go_keep) ?_;clear hK K hHeld;intro hHeld
       try simp only[Act.put,s1,s2,s3]
       refine tk 6 (h:=tk 7 (h:=ts 8 (h:=ts 9 (h:=ts 10 (h:=ts 11 (h:=ts 12 (h:=ts 13 (h:=?_))))))));refine rd [14] (rc (fun K hK=>?_) .nil);split
       ·rename_i sD
        exact absurd (show false=true from sD) Bool.false_ne_true
       refine hK.out _ _ (by assumption) (fun hHeld=>?_);clear hK K
       try simp only[Act.put,s1,s2,s3]
       refine tk 15 (h:=?_);refine wpAnyH_done (by kernel_rfl) ?_ _;have pA:=zA dA aA;go_wp2;go_ret;refine⟨zG.no fun h=>?_,pA⟩;rcases(h.resolve_left HN.out).2.1.1 j rA with h | h
       ·exact kA.out h
       ·exact fB.out h.1
    ·obtain rfl:j=8:=(by omega);go_wp2;go_ret;refine⟨⟨_,rfl,?_⟩,gB⟩;have hc:=dC.out;constructor
     ·intro h;refine Or.inr ⟨iD.out,⟨nB.out,hc.1 (by simpa using h)⟩,?_⟩;rw[zHH HN.out];exact oB.out
     ·intro h;have:=hc.2 (h.resolve_left HN.out).2.1.2;simpa using this
  ·have iD:=zL bB;obtain rfl:t=false:=zW ht bB;clear ht bB;go_wp2;go_ret;exact⟨zG.no fun h=>(h.resolve_left HN.out).1 |> iD.out,oD⟩
def zDD(p:zN)(rs rb:Int)(s:zO)(j:Nat):List (Int×Int):=(rs,rb) :: zAo p s j
def zCM(p:zN)(rs rb:Int)(s:zO)(j i:Nat):List (Int×Int):=zDD p rs rb s j ++ ((zb s j,zu s j) :: kidsUp (zb (p.s (zb s j).toNat)) (zu (p.s (zb s j).toNat)) i)
theorem zNs{p:zN}{rs rb:Int}(hz:¬Nil rs rb):zX p rs rb=zDD p rs rb (p.s rs.toNat) 8:=if_neg hz
theorem zKc{p:zN}{rs rb:Int}{s:zO}{j:Nat}(hn:¬Nil (zb s j) (zu s j)):zDD p rs rb s (j+1)=zCM p rs rb s j 8:=by
 unfold zDD zCM zDD;rw[zAo,zJ6 hn];rfl
theorem zKd{p:zN}{rs rb:Int}{s:zO}{j:Nat}(hn:Nil (zb s j) (zu s j)):zDD p rs rb s (j+1)=zDD p rs rb s j:=by
 unfold zDD;rw[zAo,show zD0 p (zb s j) (zu s j) = [] from if_pos hn,List.append_nil]
theorem zGl(p:zN)(rs rb:Int)(s:zO)(j:Nat):zCM p rs rb s j 0=zDD p rs rb s j ++ [(zb s j,zu s j)]:=rfl
theorem zMV{p:zN}{rs rb:Int}{s:zO}{j i:Nat}(hn:Nil (zb (p.s (zb s j).toNat) i) (zu (p.s (zb s j).toNat) i)):zCM p rs rb s j (i+1)=zCM p rs rb s j i:=by
 unfold zCM;rw[kidsUp,show one (zb (p.s (zb s j).toNat) i) (zu (p.s (zb s j).toNat) i) = [] from if_pos hn,List.append_nil]
theorem zMU{p:zN}{rs rb:Int}{s:zO}{j i:Nat}(hn:¬Nil (zb (p.s (zb s j).toNat) i) (zu (p.s (zb s j).toNat) i)):zCM p rs rb s j (i+1)=zCM p rs rb s j i ++ [(zb (p.s (zb s j).toNat) i,zu (p.s (zb s j).toNat) i)]:=by
 unfold zCM;rw[kidsUp,show one (zb (p.s (zb s j).toNat) i) (zu (p.s (zb s j).toNat) i) = [(zb (p.s (zb s j).toNat) i,zu (p.s (zb s j).toNat) i)] from if_neg hn,List.append_assoc];rfl
theorem zL5(p:zN)(rs rb:Int)(s:zO){j:Nat}(hj:j<=8):(zDD p rs rb s j).length<=73:=by
 have:=zDx p s j;simp only[zDD,List.length_cons];omega
theorem zNS(p:zN)(rs rb:Int)(s:zO){j i:Nat}(hj:j<=8)(hi:i<=8):(zCM p rs rb s j i).length<=90:=by
 have h1:=zL5 p rs rb s hj;have h2:=zCy (zb (p.s (zb s j).toNat)) (zu (p.s (zb s j).toNat)) i;simp only[zCM,List.length_append,List.length_cons];omega
theorem qE.next{w2:World}{base g cap:Nat}{l:List (Int×Int)}{x y:Int}(h:w2.ownsRow base 61 2 (.slice (some ⟨g,0,none⟩) (l.length+1) cap) (l.length+1) (pcl l ++ [.int .i64 x,.int .i64 y])):qE w2 base (.slice (some ⟨g,0,none⟩) (l.length+1) cap) (l ++ [(x,y)]):=by
 unfold qE;rw[zBG,List.length_append];exact h
theorem yh(v0 v1:Value)(lo hi:Nat)(p:zN)(xs xb:Int)(w:World)(h1:qS w lo hi v0 v1 p)(hR:qB p)(hT:zz p xs xb) :
  Calls Tryz.prog 141 #[.agg #[v0,v1],.agg #[.int .i64 xs,.int .i64 xb]] w fun e w'=>∃v,e = .returned v/\qE w' w.heap.size v (zX p xs xb)/\Below w.heap.size w w':=by
 have Hp:=zL h1;have HR:=zL hR;have HT:=zL hT;obtain⟨a,c,a',c',rfl,rfl⟩:∃a c a' c',v0 = .slice a p.n c/\v1 = .slice a' p.hn c':=by
  obtain⟨⟨_,a,c,h1,_⟩,⟨_,a',c',h3,_⟩⟩:=h1;exact⟨a,c,a',c',h1,h3⟩
 clear h1 hR hT;have mB:=zFE w (.slice a p.n c) (.slice a' p.hn c') (.int .i64 xs) (.int .i64 xb) 33 61;obtain⟨i0,aD,pC⟩:=Option.map_eq_some_iff.1 zBy;simp only[Prod.mk.injEq]at pC;have HI:=zL (And.intro aD pC);clear aD pC;go_enter Tryz.func141,Tryz.ntmps141;have oA:=World.ownsRow_lit (e:=61) (size:=2) (base:=w.heap.size+2) ((w.alloc (.cells #[.slice a p.n c,.slice a' p.hn c'] 33)).alloc (.cells #[.int .i64 xs,.int .i64 xb] 61)) #[] 0 (by rw[mB.2.2.2];omega) (by unfold maxLen;omega) rfl;rw[mB.2.2.2]at oA;have fD:=mB.2.1.zO9 (zC _ (.cells #[] 61));obtain⟨⟨y0,y1⟩,⟨y2,y3⟩⟩:=fD;go_wp2_with fail;clear y0 y1 y2 y3;generalize (w.alloc (.cells #[.slice a p.n c,.slice a' p.hn c'] 33)).alloc (.cells #[.int .i64 xs,.int .i64 xb] 61)=W at mB oA ⊢;obtain⟨hB,hX,vC,hz⟩:=mB;have cA:=zC W (.cells #[] 61);have vB:=zL (show qE (W.alloc (.cells #[] 61)) (w.heap.size+2) (.slice (some ⟨w.heap.size+2,0,none⟩) 0 0) [] from oA);have fC:=hB.zO9 cA;have iC:=hX.zO9 cA;have jC:=zA vC cA;have cD:(W.alloc (.cells #[] 61)).heap.size=w.heap.size+3:=by rw[World.size_alloc,hz]
 clear oA hB hX vC cA;generalize W.alloc (.cells #[] 61)=W0 at vB fC iC jC cD ⊢;refine(zAN xs xb W0).mono ?_;rintro e w1 ⟨⟨t,rfl,ht⟩,eB⟩;have sB:=zL (fC.zO9 eB);have bC:=zL (iC.zO9 eB);have aC:=zL (vB.out.zO9 eB);have gC:=zA jC eB;have pD:w.heap.size+3<=w1.heap.size:=by have:=eB.size;omega
 clear fC iC jC eB vB cD hz;by_cases hn:Nil xs xb
 ·have HN:=zL hn;obtain rfl:t=true:=ht.2 hn;clear ht hn;go_wp2;go_ret;refine⟨_,rfl,?_,gC⟩;rw[show zX p xs xb = [] from if_pos HN.out];exact aC.out.mono (by omega)
 ·have HN:=zL hn;obtain rfl:t=false:=zW ht hn;clear ht hn;have kB:zEG p xs xb:=(HT.out.resolve_left HN.out).1;have iB:=zL (HT.out.resolve_left HN.out).2.1.1;have h8:(p.s xs.toNat).kn=8:=by rcases zFZ HR.out kB.1 with h | h;(have:=kB.2.1;omega);exact h
  obtain⟨k,rfl⟩:=Int.eq_ofNat_of_zero_le kB.1.2.1;have hk:k<p.n:=(by have:=kB.1.2.2.1;omega);have rD:(k:Int)<(p.n:Int):=(by omega);rw[Int.toNat_natCast]at h8 iB;have H8:=zL h8;clear kB;obtain⟨b,off,ka,kc,rfl,mC⟩:=Hp.out.1.cells hk;have tC:Hid (zR w lo hi (.slice ka 8 kc) 8 (p.s k).ks (p.s k).kb):=(by have:=mC.slot.2.1;rw[h8]at this;exact this);have dC:=zL mC;clear mC h8;obtain⟨⟨x0,x1⟩,⟨x2,x3⟩⟩:=sB.out;obtain⟨⟨y0,y1⟩,⟨y2,y3⟩⟩:=bC.out;have cA:=zC w1 (.cells #[.int .i64 (k:Int),.int .i64 xb] 61);have fA:=zL (aC.out.zO9 cA);have vA:=zL (sB.out.zO9 cA);have sC:=zL (bC.out.zO9 cA);have lA:=zA gC cA;have oB:(w1.alloc (.cells #[.int .i64 (k:Int),.int .i64 xb] 61)).heap.size=w1.heap.size+1:=World.size_alloc _ _;have aB:=zL (World.news_of_block (heap_alloc_last w1 (.cells #[.int .i64 (k:Int),.int .i64 xb] 61)));clear cA aC sB bC gC;go_wp2_with (first
   | (at_builtin;refine wpList_append_lies _ rfl _ _ 62 rfl (w.heap.size+2) 61 i0 (.agg #[.int .i64 0,.int .i64 0]) 2 16 (by kernel_rfl) HI.out.1 HI.out.2.1 HI.out.2.2.1 HI.out.2.2.2 rfl (by decide) (.slice (some ⟨w.heap.size+2,0,none⟩) 0 0) 0 [] rfl fA.out ⟨w1.heap.size,0,none⟩ 1 1 [.int .i64 (k:Int),.int .i64 xb] rfl rfl aB.out (by simp[Value.oneCell']) (by decide) (by unfold maxLen;omega) (by omega) (by omega) _ rfl ?_;intro g4 eA w4 bA aA mA pA;have rA:Below w.heap.size w w4:=lA.grown aA lA.size (fun q hq=>(by have:=(fA.out.lt hq).1;omega));have sA:=zL (vA.out.grownT aA (fun q hq=>by have:=(fA.out.lt hq).1;omega));have rC:=zL (sC.out.grownT aA (fun q hq=>by have:=(fA.out.lt hq).1;omega));have z0:=sA.out.1.1;have z1:=rC.out.1.1;have z2:=(dC.out.zO9 rA).c1;rw[H8.out]at z2)
   | go_in)
  have jB:=zL (show qE w4 (w.heap.size+2) (.slice (some ⟨g4,0,none⟩) 1 eA) (zDD p k xb (p.s k) 0)from bA);have nB:w.heap.size+2<=w4.heap.size:=(by have:=aA.size;omega);clear bA aA mA pA fA vA sC lA aB oB pD
  go_loopw [5,7] (fun sv i wr=>∃(j:Nat) (sa:Option Addr) (sc:Nat),j<=8/\i = .int .i64 j/\sv = .slice sa (zDD p k xb (p.s k) j).length sc/\qE wr (w.heap.size+2) sv (zDD p k xb (p.s k) j)/\zp wr w.heap.size (.slice (some ⟨b,off,none⟩) p.n c) (.slice a' p.hn c')/\Below w.heap.size w wr/\w.heap.size+2<=wr.heap.size) (fun _ i _=>8 - (intOf i).toNat)
  case atStart=>exact⟨0,some ⟨g4,0,none⟩,eA,Nat.zero_le _,rfl,rfl,jB.out,sA.out,rA,nB⟩
  case round=>
   obtain⟨j,sa,sc,hj,rfl,rfl,kA,jA,nA,pB⟩:=hrel;have dA:=zL kA;have gA:=zL jA;have kD:=zL5 p k xb (p.s k) hj;clear kA jA jB sA rC rA z0 z1 z2 x0 x1 x2 x3 y0 y1 y2 y3 nB;by_cases fB:j<8
   ·have mD:(j:Int)<8:=(by omega);obtain⟨tb,sD,rfl,q0,q1⟩:=(tC.out.zO9 nA).cellsT fB;rw[<-zCx H8.out fB]at q0;rw[<-zE0 H8.out fB]at q1;go_wp2_with fail;refine(zAN (zb (p.s k) j) (zu (p.s k) j) wr).mono ?_;rintro e W ⟨⟨t,rfl,ht⟩,hb⟩;have cB:=zA nA hb;have tA:=zL (gA.out.zO9 hb);have bB:=zL (dA.out.zO9 hb);have oC:w.heap.size+2<=W.heap.size:=(by have:=hb.size;omega);have dD:=(hb.cell (zD q0)).trans q0;have eD:=(hb.cell (zD q1)).trans q1;clear q0 q1 nA hb dA gA pB;by_cases iA:Nil (zb (p.s k) j) (zu (p.s k) j)
    ·have dB:=zL iA;obtain rfl:t=true:=ht.2 iA;clear ht iA;go_wp2;go_roundw
     case rel=>exact⟨j+1,sa,sc,by omega,by go_num,by rw[zKd dB.out],by rw[zKd dB.out];exact bB.out,tA.out,cB,oC⟩
     case measure=>simp[intOf];omega
    ·have dB:=zL iA;obtain rfl:t=false:=zW ht iA;clear ht iA;have lB:zEG p (zb (p.s k) j) (zu (p.s k) j):=by
      rcases iB.out j fB with h | h
      ·exact absurd h dB.out
      ·exact h.1
     obtain⟨m,hm⟩:=Int.eq_ofNat_of_zero_le lB.1.2.1;have nD:m<p.n:=(by have:=lB.1.2.2.1;omega);have oD:(m:Int)<(p.n:Int):=(by omega);have lC:(zb (p.s k) j).toNat=m:=(by rw[hm];rfl);have eC:(p.s m).kn=8:=by
      have h0:=lB.2.1;have h1:=zFZ HR.out lB.1;rw[lC]at h0 h1;rcases h1 with h | h
      ·omega
      ·exact h
     have rB:=zL eC;obtain⟨_,_,ua,uc,ha,nC⟩:=Hp.out.1.cells nD;simp only[Option.some.injEq,Addr.mk.injEq,and_true]at ha;obtain⟨rfl,rfl⟩:=ha;have iD:Hid (zR w lo hi (.slice ua 8 uc) 8 (p.s m).ks (p.s m).kb):=(by have:=nC.slot.2.1;rw[eC]at this;exact this);have gD:=zL nC;have Hm:=zL hm;have cC:=zL lC;have cA:=zC W (.cells #[.int .i64 (zb (p.s k) j),.int .i64 (zu (p.s k) j)] 61);have fA:=zL (bB.out.zO9 cA);have vA:=zL (tA.out.zO9 cA);have lA:=zA cB cA;have oB:(W.alloc (.cells #[.int .i64 (zb (p.s k) j),.int .i64 (zu (p.s k) j)] 61)).heap.size=W.heap.size+1:=World.size_alloc _ _;have aB:=zL (World.news_of_block (heap_alloc_last W (.cells #[.int .i64 (zb (p.s k) j),.int .i64 (zu (p.s k) j)] 61)));clear nC eC hm lC cA bB tA cB lB;go_wp2_with (first
      | (at_builtin;refine wpList_append_lies _ rfl _ _ 62 rfl (w.heap.size+2) 61 i0 (.agg #[.int .i64 0,.int .i64 0]) 2 16 (by kernel_rfl) HI.out.1 HI.out.2.1 HI.out.2.2.1 HI.out.2.2.2 rfl (by decide) (.slice sa (zDD p k xb (p.s k) j).length sc) (zDD p k xb (p.s k) j).length (pcl (zDD p k xb (p.s k) j)) rfl fA.out ⟨W.heap.size,0,none⟩ 1 1 [.int .i64 (zb (p.s k) j),.int .i64 (zu (p.s k) j)] rfl rfl aB.out (by simp[Value.oneCell']) (by decide) (by unfold maxLen;omega) (by omega) (by omega) _ rfl ?_;intro g4 eA w4 bA aA mA pA)
      | fail)
     have jB:Hid (qE w4 (w.heap.size+2) (.slice (some ⟨g4,0,none⟩) ((zDD p k xb (p.s k) j).length+1) eA) (zCM p k xb (p.s k) j 0)):=by
      rw[zGl];exact qE.next bA
     have rA:Below w.heap.size w w4:=lA.grown aA lA.size (fun q hq=>by have:=(fA.out.lt hq).1;omega);have sA:=zL (vA.out.grownT aA (fun q hq=>by have:=(fA.out.lt hq).1;omega));have nB:w.heap.size+2<=w4.heap.size:=(by have:=aA.size;omega);clear bA aA mA pA fA vA lA aB dD eD oB;obtain⟨_,_,ha,q0,q1⟩:=(tC.out.zO9 rA).cellsT fB;simp only[Option.some.injEq,Addr.mk.injEq,and_true]at ha;obtain⟨rfl,rfl⟩:=ha;rw[<-zCx H8.out fB,Hm.out]at q0;obtain⟨r0,r1,r2,_⟩:=gD.out.zO9 rA;rw[rB.out]at r1;obtain⟨⟨x0,x1⟩,⟨x2,x3⟩⟩:=sA.out
     go_quiet (fail)
     go_wp2
     go_loopw [5,9] (fun sv i wr=>∃(i':Nat) (sa:Option Addr) (sc:Nat),i'<=8/\i = .int .i64 i'/\sv = .slice sa (zCM p k xb (p.s k) j i').length sc/\qE wr (w.heap.size+2) sv (zCM p k xb (p.s k) j i')/\zp wr w.heap.size (.slice (some ⟨b,off,none⟩) p.n c) (.slice a' p.hn c')/\Below w.heap.size w wr/\w.heap.size+2<=wr.heap.size) (fun _ i _=>8 - (intOf i).toNat)
     case atStart=>exact⟨0,some ⟨g4,0,none⟩,eA,Nat.zero_le _,rfl,by rw[zGl,List.length_append];rfl,jB.out.zO9 (zh (Below.refl _ _) _),sA.out.zO9 (zh (Below.refl _ _) _),zh rA _,nB⟩
     case round=>
      obtain⟨i,sa,sc,jD,rfl,rfl,kA,jA,nA,pB⟩:=hrel;have dA:=zL kA;have gA:=zL jA;have bD:=zNS p k xb (p.s k) (show j<=8 by omega) jD;clear kA jA jB sA rA x0 x1 x2 x3 q0 q1 r0 r1 r2 nB;by_cases kC:i<8
      ·have lD:(i:Int)<8:=(by omega);obtain⟨ub,tD,rfl,q0,q1⟩:=(iD.out.zO9 nA).cellsT kC;rw[<-zCx rB.out kC]at q0;rw[<-zE0 rB.out kC]at q1;go_wp2_with fail;refine(zAN (zb (p.s m) i) (zu (p.s m) i) wr).mono ?_;rintro e W ⟨⟨t,rfl,ht⟩,hb⟩;have cB:=zA nA hb;have tA:=zL (gA.out.zO9 hb);have bB:=zL (dA.out.zO9 hb);have oC:w.heap.size+2<=W.heap.size:=(by have:=hb.size;omega);have dD:=(hb.cell (zD q0)).trans q0;have eD:=(hb.cell (zD q1)).trans q1;clear q0 q1 nA hb dA gA pB;by_cases iA:Nil (zb (p.s m) i) (zu (p.s m) i)
       ·have tB:=zL iA;obtain rfl:t=true:=ht.2 iA;clear ht iA;have es:zCM p k xb (p.s k) j (i+1)=zCM p k xb (p.s k) j i:=zMV (by rw[cC.out];exact tB.out);have gB:=zL es;clear es;go_wp2;go_roundw
        case rel=>exact⟨i+1,sa,sc,by omega,by go_num,by rw[gB.out],by rw[gB.out];exact bB.out,tA.out,cB,oC⟩
        case measure=>simp[intOf];omega
       ·have tB:=zL iA;obtain rfl:t=false:=zW ht iA;clear ht iA;have es:zCM p k xb (p.s k) j (i+1)=zCM p k xb (p.s k) j i ++ [(zb (p.s m) i,zu (p.s m) i)]:=(by have:=zMU (p:=p) (rs:=(k:Int)) (rb:=xb) (s:=p.s k) (j:=j) (i:=i) (by rw[cC.out];exact tB.out);rw[cC.out]at this;exact this);have gB:=zL es;clear es;have cA:=zC W (.cells #[.int .i64 (zb (p.s m) i),.int .i64 (zu (p.s m) i)] 61);have fA:=zL (bB.out.zO9 cA);have vA:=zL (tA.out.zO9 cA);have lA:=zA cB cA;have oB:(W.alloc (.cells #[.int .i64 (zb (p.s m) i),.int .i64 (zu (p.s m) i)] 61)).heap.size=W.heap.size+1:=World.size_alloc _ _;have aB:=zL (World.news_of_block (heap_alloc_last W (.cells #[.int .i64 (zb (p.s m) i),.int .i64 (zu (p.s m) i)] 61)));clear cA bB tA cB;go_wp2_with (first
         | (at_builtin;refine wpList_append_lies _ rfl _ _ 62 rfl (w.heap.size+2) 61 i0 (.agg #[.int .i64 0,.int .i64 0]) 2 16 (by kernel_rfl) HI.out.1 HI.out.2.1 HI.out.2.2.1 HI.out.2.2.2 rfl (by decide) (.slice sa (zCM p k xb (p.s k) j i).length sc) (zCM p k xb (p.s k) j i).length (pcl (zCM p k xb (p.s k) j i)) rfl fA.out ⟨W.heap.size,0,none⟩ 1 1 [.int .i64 (zb (p.s m) i),.int .i64 (zu (p.s m) i)] rfl rfl aB.out (by simp[Value.oneCell']) (by decide) (by unfold maxLen;omega) (by omega) (by omega) _ rfl ?_;intro g4 eA w4 bA aA mA pA)
         | go_in)
        go_roundw
        case rel=>exact⟨i+1,some ⟨g4,0,none⟩,eA,by omega,by go_num,by rw[gB.out,List.length_append];rfl,by rw[gB.out];exact qE.next bA,vA.out.grownT aA (fun q hq=>by have:=(fA.out.lt hq).1;omega),lA.grown aA lA.size (fun q hq=>by have:=(fA.out.lt hq).1;omega),by have:=aA.size;omega⟩
        case measure=>simp[intOf];omega
      ·obtain rfl:i=8:=(by omega);go_wp2;go_roundw
       case rel=>exact⟨j+1,sa,sc,by omega,by go_num,by rw[zKc dB.out],by rw[zKc dB.out];exact dA.out,gA.out,nA,pB⟩
       case measure=>simp[intOf];omega
   ·obtain rfl:j=8:=(by omega);go_wp2;go_ret;exact⟨_,rfl,by rw[zNs HN.out];exact dA.out.mono (by omega),nA⟩
open Classical in
noncomputable def roomN(f:Nat->zO):Nat->Nat
 | 0=>0
 | k+1=>roomN f k+(if ql (f k)then 1 else 0)
theorem zIK{f:Nat->zO}{k:Nat}(h:ql (f k)):roomN f (k+1)=roomN f k+1:=by simp[roomN,h]
theorem zKF{f:Nat->zO}{k:Nat}(h:¬ql (f k)):roomN f (k+1)=roomN f k:=by simp[roomN,h]
theorem zGv(f:Nat->zO):∀k,roomN f k<=k
 | 0=>Nat.le_refl _
 | k+1=>by
  have:=zGv f k;by_cases h:ql (f k)
  ·rw[zIK h];omega
  ·rw[zKF h];omega
open Classical in
noncomputable def zL1(p:zN):Int:=if qB p then(roomN p.s p.n:Int)else 0
structure zDH where
 zPH:Int
 time:Int
 rs:Int
 rb:Int
 dn:Nat
 ds:Nat->Int
 db:Nat->Int
def zOv(s:zY):zDH:=⟨s.zPH,s.time,s.rs,s.rb,s.dn,s.ds,s.db⟩
def zOw(t:Int)(s:zv):zDH:=⟨s.zPH,t,s.rs,s.rb,s.dn,s.ds,s.db⟩
def zJ(W:zE)(i:Nat):zDH:=if i<W.pn then zOv (W.zPD i)else zOw W.time (W.zPG (i - W.pn))
def zm(W:zE):Nat:=W.pn+W.sn
theorem qA{W:zE}{i:Nat}(h:i<W.pn):zJ W i=zOv (W.zPD i):=if_pos h
theorem qz(W:zE)(i:Nat):zJ W (W.pn+i)=zOw W.time (W.zPG i):=by
 unfold zJ;rw[if_neg (by omega),show W.pn+i - W.pn=i by omega]
def yG:zY:=⟨0,ByteArray.empty,ByteArray.empty,0,0,0,0,0,fun _=>0,fun _=>0⟩
open Classical in
noncomputable def zK(W:zE)(x:Int):zY:=if h:∃k,qM W x k then W.zPD h.choose else yG
theorem qx{W:zE}{x:Int}{k:Nat}(h:qM W x k):zK W x=W.zPD k:=by
 unfold zK;rw[dif_pos ⟨k,h⟩,qM.uniq (Exists.choose_spec (⟨k,h⟩:∃k,qM W x k)) h]
theorem zEI{W:zE}{x:Int}(h:∀k,k<W.pn->(W.zPD k).id≠x):zK W x=yG:=by
 unfold zK;rw[dif_neg];rintro⟨k,hk⟩;exact h k hk.1 hk.2.1
theorem zFe{W:zE}{x:Int}:∀{n:Nat},n<=W.pn->(∃k,k<n/\(W.zPD k).id=x)->∃k,qM W x k
 | 0,_,⟨k,hk,_⟩=>absurd hk (Nat.not_lt_zero _)
 | n+1,hn,⟨k,hk,e⟩=>by
  by_cases h:∃j,j<n/\(W.zPD j).id=x
  ·exact zFe (by omega) h
  ·have:k=n:=by
    by_cases h':k<n
    ·exact absurd ⟨k,h',e⟩ h
    ·omega
   subst this;exact⟨k,by omega,e,fun j hj he=>h ⟨j,hj,he⟩⟩
def yP(W:zE)(m:zDH):List (Int×Int):=zX W.zPE m.rs m.rb
noncomputable def zB8(W:zE)(m:zDH):List (Int×Int):=zX W.zPE (zK W m.zPH).rs (zK W m.zPH).rb
def yu(l m:List (Int×Int)):List (Int×Int):=l.filter (fun x=>decide (x∉m))
def qH(l m:List (Int×Int)):List (Int×Int):=l.filter (fun x=>decide (x∈m))
def zAB(l:List (Int×Int))(t:Int):List (Int×Int):=l.filter (fun x=>decide (t<x.2))
noncomputable def zEV(W:zE)(m:zDH):List (Int×Int):=yu (yP W m) (zB8 W m)
noncomputable def yA(W:zE)(m:zDH):List (Int×Int):=zAB (yP W m) (zK W m.zPH).time
def zCm(n:Nat)(f g:Nat->Int)(l:List (Int×Int)):Prop:=zDJ n f g l.length (zk l) (zn l)
def zLc(now old:List (Int×Int))(t tm:Int):Prop:=∀x,x∈now->x.2<=tm/\(x∈old↔x.2<=t)
def zHv(W:zE)(m:zDH):Prop:=zCm m.dn m.ds m.db (yu (zB8 W m) (yP W m))/\zLc (yP W m) (zB8 W m) (zK W m.zPH).time m.time
def zOK(W:zE)(m:zDH):Prop:=m.rb<=m.time/\zCm (yA W m).length (zk (yA W m)) (zn (yA W m)) (zEV W m)/\zCm m.dn m.ds m.db (yu (zB8 W m) (qH (yP W m) (zB8 W m)))
theorem zMQ(l m:List (Int×Int)):yu m (qH l m)=yu m l:=by
 unfold yu qH;refine List.filter_congr fun x hx=>?_
 rw[decide_eq_decide];simp only[List.mem_filter,decide_eq_true_eq];exact⟨fun h h'=>h ⟨h',hx⟩,fun h h'=>h h'.1⟩
theorem yC{l:List (Int×Int)}{i:Nat}(h:i<l.length):l.getD i (0,0)=l[i]:=by
 rw[List.getD_eq_getElem?_getD,List.getElem?_eq_getElem h,Option.getD_some]
theorem zAc{l:List (Int×Int)}{x y:Int}:PIn l.length (zk l) (zn l) x y↔(x,y)∈l:=by
 constructor
 ·rintro⟨j,hj,e1,e2⟩;unfold zk at e1;unfold zn at e2;rw[yC hj]at e1 e2;have:l[j]=(x,y):=Prod.ext e1 e2;exact this▸List.getElem_mem hj
 ·intro h;obtain⟨j,hj,e⟩:=List.getElem_of_mem h;exact⟨j,hj,by unfold zk;rw[yC hj,e],by unfold zn;rw[yC hj,e]⟩
structure zAj (W:zE):Prop where
 right:qB W.zPE
 ids:∀k,k<W.pn->(W.zPD k).zPH<(W.zPD k).id
 tree:∀i,i<zm W->zz W.zPE (zJ W i).rs (zJ W i).rb
 time:∀i,i<zm W->0<=(zJ W i).time
theorem zAF{p:zN}{rs rb:Int}(hR:qB p)(hT:zz p rs rb){x:Int×Int}(hx:x∈zX p rs rb):zx p x.1 x.2/\x.2<=rb/\¬Has p.hn p.h x.1:=by
 rcases(zHG hR).2 hT with hz | ⟨hP,_,hA⟩
 ·rw[zX,if_pos hz]at hx;simp at hx
 ·have:=zDk hR hP x hx;exact⟨this.1,this.2,hA.2 x hx⟩
theorem zAQ{p:zN}{rs rb:Int}(hR:qB p)(hT:zz p rs rb):(zX p rs rb).Nodup:=by
 rcases(zHG hR).2 hT with hz | ⟨hP,_,hA⟩
 ·rw[zX,if_pos hz];exact List.nodup_nil
 ·exact hA.1
theorem zAj.old{W:zE}(h:zAj W)(x:Int):zz W.zPE (zK W x).rs (zK W x).rb:=by
 by_cases hx:∃k,qM W x k
 ·obtain⟨k,hk⟩:=hx;rw[qx hk];have:=h.tree k (by unfold zm;have:=hk.1;omega);rw[qA hk.1]at this;exact this
 ·have:zK W x=yG:=by
   unfold zK;rw[dif_neg hx]
  rw[this];exact Or.inl ⟨rfl,rfl⟩
theorem zMc{p:zN}{x y:Int}(hR:qB p)(h:zx p x y):zEi x y:=by
 have hf:=qp hR h;have h1:=hR.1;obtain⟨a,b,c,d⟩:=h;have:=hf.1.2;exact⟨b,by omega,a,by omega⟩
theorem zAn{p:zN}(hR:qB p){l:List (Int×Int)}(h:∀x,x∈l->zx p x.1 x.2)(hn:l.Nodup)(hl:l.length<=200):qN l.length (zk l) (zn l):=by
 have hs:=(zFY h).2 hn;refine⟨hl,fun i hi=>?_,fun i hi k hk=>?_⟩
 ·unfold zk zn;rw[yC hi];exact zMc hR (h _ (List.getElem_mem hi))
 ·unfold zk;rw[yC hi,yC (show k<l.length by omega)];unfold zAO List.Nodup at hs;rw[List.pairwise_map]at hs;exact List.pairwise_iff_getElem.1 hs k i (by omega) hi hk
theorem zJJ{p:zN}(hR:qB p){T:List (Int×Int)}(hT:∀x,x∈T->zx p x.1 x.2)(hn:T.Nodup)(hl:T.length<=200)(P Q:Int×Int->Bool) :
  zCm (T.filter P).length (zk (T.filter P)) (zn (T.filter P)) (T.filter Q)↔∀x,x∈T->P x=Q x:=by
 constructor
 ·rintro⟨_,_,aA,cA⟩;have h1:∀x,x∈T->P x=true->Q x=true:=fun x hx hp=>by
   have hm:x∈T.filter P:=List.mem_filter.2 ⟨hx,hp⟩;obtain⟨j,hj,e⟩:=List.getElem_of_mem hm;have:=cA j hj;rw[zAc]at this;unfold zk zn at this;rw[yC hj,e]at this;exact(List.mem_filter.1 this).2
  have h2:(T.filter Q).filter P=T.filter P:=by
   rw[List.filter_filter];refine List.filter_congr fun x hx=>?_
   cases hp:P x
   ·rfl
   ·rw[h1 x hx hp];rfl
  have h3:((T.filter Q).filter P).length=(T.filter Q).length:=(by rw[h2,aA]);rw[List.length_filter_eq_length_iff]at h3;intro x hx;cases hq:Q x
  ·cases hp:P x
   ·rfl
   ·rw[h1 x hx hp]at hq;exact absurd hq (by simp)
  ·exact h3 x (List.mem_filter.2 ⟨hx,hq⟩)
 ·intro h;have e:T.filter P=T.filter Q:=List.filter_congr h;rw[e];have bA:qN (T.filter Q).length (zk (T.filter Q)) (zn (T.filter Q)):=zAn hR (fun x hx=>hT x (List.mem_filter.1 hx).1) (hn.filter _) (Nat.le_trans (List.length_filter_le _ _) hl);exact⟨bA,bA,rfl,fun i hi=>⟨i,hi,rfl,rfl⟩⟩
theorem zGk{W:zE}(h:zAj W){i:Nat}(hi:i<zm W):zOK W (zJ W i)↔zHv W (zJ W i):=by
 generalize hm:zJ W i=m;have hT:=h.tree i hi;have eA:=h.time i hi;rw[hm]at hT eA;have bA:(yP W m).length<=200:=by have:=qK W.zPE m.rs m.rb;unfold yP;omega
 have fA:∀x,x∈yP W m->zx W.zPE x.1 x.2:=fun x hx=>(zAF h.right hT hx).1
 unfold zOK zHv;rw[zMQ];have key:zCm (yA W m).length (zk (yA W m)) (zn (yA W m)) (zEV W m)↔∀x,x∈yP W m->(x∈zB8 W m↔x.2<=(zK W m.zPH).time):=by
  unfold yA zEV zAB yu;rw[zJJ h.right fA (zAQ h.right hT) bA];refine⟨fun hh x hx=>?_,fun hh x hx=>?_⟩
  ·have:=hh x hx;rw[decide_eq_decide]at this;constructor
   ·intro aA;by_cases dA:(zK W m.zPH).time<x.2
    ·exact absurd aA (this.1 dA)
    ·omega
   ·intro cA;by_cases aA:x∈zB8 W m
    ·exact aA
    ·have:=this.2 aA;omega
  ·rw[decide_eq_decide];have:=hh x hx;constructor
   ·intro dA aA;have:=this.1 aA;omega
   ·intro aA;by_cases cA:x.2<=(zK W m.zPH).time
    ·exact absurd (this.2 cA) aA
    ·omega
 rw[key];constructor
 ·rintro⟨h1,h2,h3⟩;exact⟨h3,fun x hx=>⟨by have:=(zAF h.right hT hx).2.1;omega,h2 x hx⟩⟩
 ·rintro⟨h1,h2⟩;refine⟨?_,fun x hx=>(h2 x hx).2,h1⟩;by_cases hz:Nil m.rs m.rb
  ·rw[hz.2];exact eA
  ·have hr:(m.rs,m.rb)∈yP W m:=(by unfold yP zX;rw[if_neg hz];simp);exact(h2 _ hr).1
theorem zMq{W:zE}{m:zDH}(hS:zHv W m):yA W m=zEV W m:=by
 unfold yA zEV zAB yu;refine List.filter_congr fun x hx=>?_
 rw[decide_eq_decide];have:=(hS.2 x hx).2;constructor
 ·intro h1 h2;have:=this.1 h2;omega
 ·intro h1;by_cases h2:x.2<=(zK W m.zPH).time
  ·exact absurd (this.2 h2) h1
  ·omega
open Classical in
noncomputable def cnt(P:Nat->Prop):Nat->Nat
 | 0=>0
 | k+1=>cnt P k+(if P k then 1 else 0)
theorem zBh{P Q:Nat->Prop}:∀{n:Nat},(∀i,i<n->(P i↔Q i))->cnt P n=cnt Q n
 | 0,_=>rfl
 | n+1,h=>by
  unfold cnt;rw[zBh (fun i hi=>h i (by omega))];by_cases hp:P n
  ·rw[if_pos hp,if_pos ((h n (by omega)).1 hp)]
  ·rw[if_neg hp,if_neg (fun hq=>hp ((h n (by omega)).2 hq))]
theorem zM8{P Q:Nat->Prop}:∀{n:Nat},(∀i,i<n->P i->Q i)->cnt P n<=cnt Q n
 | 0,_=>Nat.le_refl _
 | n+1,h=>by
  unfold cnt;have:=zM8 (n:=n) (fun i hi=>h i (by omega));by_cases hp:P n
  ·rw[if_pos hp,if_pos (h n (by omega) hp)];omega
  ·rw[if_neg hp];omega
theorem zGS{P Q:Nat->Prop}:∀{n:Nat},(∀i,i<n->P i->Q i)->(cnt P n=cnt Q n↔∀i,i<n->(P i↔Q i))
 | 0,_=>⟨fun _ i hi=>absurd hi (Nat.not_lt_zero _),fun _=>rfl⟩
 | n+1,h=>by
  refine⟨fun e=>?_,fun e=>zBh e⟩;have aA:=zM8 (n:=n) (fun i hi=>h i (by omega));have ih:=zGS (n:=n) (fun i hi=>h i (by omega));unfold cnt at e;have hn:P n↔Q n:=by
   refine⟨h n (by omega),fun hq=>?_⟩;by_cases hp:P n
   ·exact hp
   ·rw[if_neg hp,if_pos hq]at e;omega
  have e':cnt P n=cnt Q n:=by
   by_cases hp:P n
   ·rw[if_pos hp,if_pos (hn.1 hp)]at e;omega
   ·rw[if_neg hp,if_neg (fun hq=>hp (hn.2 hq))]at e;omega
  intro i hi;by_cases e2:i=n
  ·subst e2;exact hn
  ·exact ih.1 e' i (by omega)
theorem zKt{P Q:Nat->Prop}:∀{n:Nat},(∀i,i<n->P i->¬Q i)->cnt (fun i=>P i\/Q i) n=cnt P n+cnt Q n
 | 0,_=>rfl
 | n+1,h=>by
  unfold cnt;rw[zKt (fun i hi=>h i (by omega))];by_cases hp:P n
  ·rw[if_pos (Or.inl hp),if_pos hp,if_neg (h n (by omega) hp)];omega
  ·by_cases hq:Q n
   ·rw[if_pos (Or.inr hq),if_neg hp,if_pos hq];omega
   ·rw[if_neg (fun h=>h.elim hp hq),if_neg hp,if_neg hq];omega
theorem zLi(P:Nat->Prop):∀n,cnt P n+cnt (fun i=>¬P i) n=n
 | 0=>rfl
 | n+1=>by
  have:=zLi P n;unfold cnt;by_cases hp:P n
  ·rw[if_pos hp,if_neg (fun h=>h hp)];omega
  ·rw[if_neg hp,if_pos hp];omega
theorem zGT{P:Nat->Prop}:∀{n:Nat},(∀i,i<n->¬P i)->cnt P n=0
 | 0,_=>rfl
 | n+1,h=>by
  unfold cnt;rw[zGT (fun i hi=>h i (by omega)),if_neg (h n (by omega))]
theorem zLj:∀{n a:Nat},a<n->cnt (fun i=>i=a) n=1
 | 0,a,h=>absurd h (Nat.not_lt_zero _)
 | n+1,a,h=>by
  unfold cnt;by_cases e:n=a
  ·subst e;rw[if_pos rfl,zGT (fun i hi=>by omega)]
  ·rw[if_neg e,zLj (by omega)]
theorem zEp{n:Nat}:∀{l:List Nat},l.Nodup->(∀x,x∈l->x<n)->cnt (fun i=>i∈l) n=l.length
 | [],_,_=>zGT (fun i hi=>by simp)
 | a :: l,hn,hl=>by
  obtain⟨h1,h2⟩:=List.nodup_cons.1 hn;have e1:cnt (fun i=>i∈a :: l) n=cnt (fun i=>i=a\/i∈l) n:=zBh (fun i _=>List.mem_cons);have e2:cnt (fun i=>i=a\/i∈l) n=cnt (fun i=>i=a) n+cnt (fun i=>i∈l) n:=zKt (fun i _ (e:i=a) hi=>h1 (e▸hi));rw[e1,e2,zLj (hl a (by simp)),zEp h2 (fun x hx=>hl x (by simp[hx])),List.length_cons];omega
theorem zJi(f:Nat->zO):∀n,roomN f n=cnt (fun i=>ql (f i)) n
 | 0=>rfl
 | n+1=>by unfold roomN cnt;rw[zJi f n]
theorem zM7{p:zN}(hR:qB p):cnt (fun i=>Has p.hn p.h i) p.n=p.hn:=by
 have h:=hR.2.2;have hl:∀x,x∈(List.range p.hn).map (fun j=>(p.h j).toNat)->x<p.n:=by
  intro x hx;obtain⟨j,hj,rfl⟩:=List.mem_map.1 hx;have:=h j (List.mem_range.1 hj);have h1:=this.1;have h2:=this.2.1;omega
 have hn:((List.range p.hn).map (fun j=>(p.h j).toNat)).Nodup:=by
  unfold List.Nodup;rw[List.pairwise_map];refine List.Pairwise.imp_of_mem ?_ (List.pairwise_lt_range);intro a b ha hb aA e;have h1:=h a (List.mem_range.1 ha);have h2:=h b (List.mem_range.1 hb);have:=h1.1;have:=h2.1;exact h2.2.2.2 ⟨a,aA,by omega⟩
 have:=zEp hn hl;rw[List.length_map,List.length_range]at this;refine Eq.trans (zBh (fun i hi=>?_)) this;constructor
 ·rintro⟨j,hj,e⟩;exact List.mem_map.2 ⟨j,List.mem_range.2 hj,by rw[e];simp⟩
 ·intro hx;obtain⟨j,hj,e⟩:=List.mem_map.1 hx;have:=(h j (List.mem_range.1 hj)).1;exact⟨j,List.mem_range.1 hj,by omega⟩
theorem zJh{p:zN}(hR:qB p):cnt (fun i=>¬ql (p.s i)/\¬Has p.hn p.h i) p.n+roomN p.s p.n+p.hn=p.n:=by
 have h1:=zLi (fun i=>ql (p.s i)\/Has p.hn p.h i) p.n;have h2:cnt (fun i=>ql (p.s i)\/Has p.hn p.h i) p.n=cnt (fun i=>ql (p.s i)) p.n+cnt (fun i=>Has p.hn p.h i) p.n:=zKt (fun i hi hf=>by
  rintro⟨j,hj,e⟩;have:=(hR.2.2 j hj).2.2.1;rw[e]at this;simp only[Int.toNat_natCast]at this;exact this hf)
 rw[zM7 hR,<-zJi]at h2;have h3:cnt (fun i=>¬(ql (p.s i)\/Has p.hn p.h i)) p.n=cnt (fun i=>¬ql (p.s i)/\¬Has p.hn p.h i) p.n:=zBh (fun i _=>not_or);omega
def zDl(W:zE):Prop:=∀i,i<W.zPE.n->((∃m,m<zm W/\∃b,((i:Int),b)∈yP W (zJ W m))↔(¬ql (W.zPE.s i)/\¬Has W.zPE.hn W.zPE.h i))
def zFJ(W:zE):Prop:=∀i,i<zm W->∀j,j<i->∀x,x∈zEV W (zJ W i)->∀y,y∈zEV W (zJ W j)->x.1≠y.1
noncomputable def zo(W:zE):Nat->List (Int×Int)
 | 0=>[]
 | k+1=>zo W k ++ yA W (zJ W k)
def zEg(W:zE):Prop:=(zo W (zm W)).Nodup/\(zo W (zm W)).length+roomN W.zPE.s W.zPE.n+W.zPE.hn=W.zPE.n
theorem zCf{W:zE}{x:Int×Int}:∀{k:Nat},x∈zo W k↔∃i,i<k/\x∈yA W (zJ W i)
 | 0=>by simp[zo]
 | k+1=>by
  unfold zo;rw[List.mem_append,zCf];constructor
  ·rintro(⟨i,hi,h⟩ | h)
   ·exact⟨i,by omega,h⟩
   ·exact⟨k,by omega,h⟩
  ·rintro⟨i,hi,h⟩;by_cases e:i=k
   ·subst e;exact Or.inr h
   ·exact Or.inl ⟨i,by omega,h⟩
theorem zFn{W:zE}:∀{k:Nat},(∀i,i<k->(yA W (zJ W i)).Nodup)->((zo W k).Nodup↔∀i,i<k->∀j,j<i->∀x,x∈yA W (zJ W i)->x∉yA W (zJ W j))
 | 0,_=>⟨fun _ i hi=>absurd hi (Nat.not_lt_zero _),fun _=>List.nodup_nil⟩
 | k+1,hy=>by
  unfold zo;rw[List.nodup_append,zFn (fun i hi=>hy i (by omega))];constructor
  ·rintro⟨h1,h2,h3⟩ i hi j hj x hx aA;by_cases e:i=k
   ·subst e;exact h3 x (zCf.2 ⟨j,hj,aA⟩) x hx rfl
   ·exact h1 i (by omega) j hj x hx aA
  ·intro h;refine⟨fun i hi=>h i (by omega),hy k (by omega),fun x hx y bA e=>?_⟩;subst e;obtain⟨i,hi,hx⟩:=zCf.1 hx;exact h k (by omega) i hi x bA hx
theorem zJr{W:zE}(h:zAj W){x:Int×Int}:∀(N:Nat) (k:Nat),k<W.pn->(W.zPD k).id<N->0<=(W.zPD k).id->(∀j,j<W.pn->0<=(W.zPD j).id)->x∈yP W (zJ W k)->∃i,i<zm W/\x∈zEV W (zJ W i)
 | 0,k,hk,h1,h2,_,_=>by omega
 | N+1,k,hk,h1,h2,h0,hx=>by
  by_cases ho:x∈zB8 W (zJ W k)
  ·have aA:∃j,qM W (zJ W k).zPH j:=by
    refine Classical.byContradiction fun bA=>?_
    have:zK W (zJ W k).zPH=yG:=(by unfold zK;rw[dif_neg bA]);unfold zB8 at ho;rw[this,zX,if_pos ⟨rfl,rfl⟩]at ho;simp at ho
   obtain⟨j,hj⟩:=aA;unfold zB8 at ho;rw[qx hj]at ho;have e1:(zJ W k).zPH=(W.zPD k).zPH:=(by rw[qA hk];rfl);have:=h.ids k hk;have:=hj.2.1;exact zJr h N j hj.1 (by omega) (h0 j hj.1) h0 (by rw[qA hj.1];exact ho)
  ·exact⟨k,by unfold zm;omega,List.mem_filter.2 ⟨hx,by simpa using ho⟩⟩
theorem zND{W:zE}(h:zAj W)(h0:∀j,j<W.pn->0<=(W.zPD j).id){x:Int×Int}{m:Nat}(hm:m<zm W)(hx:x∈yP W (zJ W m)):∃i,i<zm W/\x∈zEV W (zJ W i):=by
 by_cases ho:x∈zB8 W (zJ W m)
 ·have aA:∃j,qM W (zJ W m).zPH j:=by
   refine Classical.byContradiction fun bA=>?_
   have:zK W (zJ W m).zPH=yG:=(by unfold zK;rw[dif_neg bA]);unfold zB8 at ho;rw[this,zX,if_pos ⟨rfl,rfl⟩]at ho;simp at ho
  obtain⟨j,hj⟩:=aA;unfold zB8 at ho;rw[qx hj]at ho;have:=h0 j hj.1;exact zJr h ((W.zPD j).id.toNat+1) j hj.1 (by omega) (h0 j hj.1) h0 (by rw[qA hj.1];exact ho)
 ·exact⟨m,hm,List.mem_filter.2 ⟨hx,by simpa using ho⟩⟩
theorem zH7{W:zE}(h:zAj W)(h0:∀j,j<W.pn->0<=(W.zPD j).id)(hM:∀i,i<zm W->zHv W (zJ W i)):zEg W↔zDl W/\zFJ W:=by
 have hy:∀i,i<zm W->yA W (zJ W i)=zEV W (zJ W i):=fun i hi=>zMq (hM i hi)
 have pA:∀i,i<zm W->(yA W (zJ W i)).Nodup:=fun i hi=>(zAQ h.right (h.tree i hi)).filter _
 have lA:∀i,i<zm W->∀x,x∈zEV W (zJ W i)->x∈yP W (zJ W i):=fun i _ x hx=>(List.mem_filter.1 hx).1
 have gA:∀i,i<zm W->∀x,x∈yP W (zJ W i)->zx W.zPE x.1 x.2/\¬Has W.zPE.hn W.zPE.h x.1:=fun i hi x hx=>⟨(zAF h.right (h.tree i hi) hx).1,(zAF h.right (h.tree i hi) hx).2.2⟩
 have fA:∀x y:Int×Int,zx W.zPE x.1 x.2->zx W.zPE y.1 y.2->x.1=y.1->x=y:=fun x y hx eA e=>by
  have a1:=hx.2.2.2;have a2:=eA.2.2.2;rw[e]at a1;exact Prod.ext e (a1.symm.trans a2)
 have hA:(zo W (zm W)).Nodup↔zFJ W:=by
  rw[zFn pA];unfold zFJ;constructor
  ·intro hh i hi j hj x hx y eA e;have tA:=fA x y (gA i hi x (lA i hi x hx)).1 (gA j (by omega) y (lA j (by omega) y eA)).1 e;subst tA;exact hh i hi j hj x (by rw[hy i hi];exact hx) (by rw[hy j (by omega)];exact eA)
  ·intro hh i hi j hj x hx sA;exact hh i hi j hj x (by rw[<-hy i hi];exact hx) x (by rw[<-hy j (by omega)];exact sA) rfl
 have aA:∀x,x∈zo W (zm W)↔∃m,m<zm W/\x∈yP W (zJ W m):=fun x=>by
  rw[zCf];constructor
  ·rintro⟨i,hi,hx⟩;rw[hy i hi]at hx;exact⟨i,hi,lA i hi x hx⟩
  ·rintro⟨m,hm,hx⟩;obtain⟨i,hi,hx⟩:=zND h h0 hm hx;exact⟨i,hi,by rw[hy i hi];exact hx⟩
 unfold zEg;rw[hA];constructor
 ·rintro⟨ha,oA⟩;refine⟨?_,ha⟩;have bA:=hA.2 ha;have dA:∀x,x∈zo W (zm W)->zx W.zPE x.1 x.2:=fun x hx=>by
   obtain⟨m,hm,hx⟩:=(aA x).1 hx;exact(gA m hm x hx).1
  have hl:∀x,x∈(zo W (zm W)).map (fun x=>x.1.toNat)->x<W.zPE.n:=by
   intro x hx;obtain⟨y,eA,rfl⟩:=List.mem_map.1 hx;have:=dA y eA;have h1:=this.2.1;have h2:=this.2.2.1;omega
  have nA:((zo W (zm W)).map (fun x=>x.1.toNat)).Nodup:=by
   unfold List.Nodup;rw[List.pairwise_map];refine List.Pairwise.imp_of_mem ?_ bA;intro a b iA jA mA e;have p1:=dA a iA;have p2:=dA b jA;have:=p1.2.1;have:=p2.2.1;exact mA (fA a b p1 p2 (by omega))
  have hc:=zEp nA hl;rw[List.length_map]at hc;have hr:=zJh h.right;have cA:∀i,i<W.zPE.n->(i∈(zo W (zm W)).map (fun x=>x.1.toNat)↔∃m,m<zm W/\∃b,((i:Int),b)∈yP W (zJ W m)):=by
   intro i hi;rw[List.mem_map];constructor
   ·rintro⟨x,hx,e⟩;have:=(dA x hx).2.1;obtain⟨m,hm,hx⟩:=(aA x).1 hx;exact⟨m,hm,x.2,by rw[show(i:Int)=x.1 by omega];exact hx⟩
   ·rintro⟨m,hm,b,hx⟩;exact⟨(i,b),(aA _).2 ⟨m,hm,hx⟩,by simp⟩
  have kA:∀i,i<W.zPE.n->i∈(zo W (zm W)).map (fun x=>x.1.toNat)->¬ql (W.zPE.s i)/\¬Has W.zPE.hn W.zPE.h i:=by
   intro i hi hx;obtain⟨m,hm,b,hx⟩:=(cA i hi).1 hx;have:=gA m hm _ hx;refine⟨fun hf=>?_,this.2⟩;have h1:=this.1.1;have h2:=this.1.2.2.2;simp only[Int.toNat_natCast]at h2;rw[hf.1]at h2;simp only at h1 h2;omega
  have:=(zGS kA).1 (by rw[hc];omega);intro i hi;rw[<-cA i hi];exact this i hi
 ·rintro⟨rA,ha⟩;refine⟨ha,?_⟩;have bA:=hA.2 ha;have dA:∀x,x∈zo W (zm W)->zx W.zPE x.1 x.2:=fun x hx=>by
   obtain⟨m,hm,hx⟩:=(aA x).1 hx;exact(gA m hm x hx).1
  have hl:∀x,x∈(zo W (zm W)).map (fun x=>x.1.toNat)->x<W.zPE.n:=by
   intro x hx;obtain⟨y,eA,rfl⟩:=List.mem_map.1 hx;have:=dA y eA;have h1:=this.2.1;have h2:=this.2.2.1;omega
  have nA:((zo W (zm W)).map (fun x=>x.1.toNat)).Nodup:=by
   unfold List.Nodup;rw[List.pairwise_map];refine List.Pairwise.imp_of_mem ?_ bA;intro a b iA jA mA e;have p1:=dA a iA;have p2:=dA b jA;have:=p1.2.1;have:=p2.2.1;exact mA (fA a b p1 p2 (by omega))
  have hc:=zEp nA hl;rw[List.length_map]at hc;have hr:=zJh h.right;have cA:∀i,i<W.zPE.n->(i∈(zo W (zm W)).map (fun x=>x.1.toNat)↔∃m,m<zm W/\∃b,((i:Int),b)∈yP W (zJ W m)):=by
   intro i hi;rw[List.mem_map];constructor
   ·rintro⟨x,hx,e⟩;have:=(dA x hx).2.1;obtain⟨m,hm,hx⟩:=(aA x).1 hx;exact⟨m,hm,x.2,by rw[show(i:Int)=x.1 by omega];exact hx⟩
   ·rintro⟨m,hm,b,hx⟩;exact⟨(i,b),(aA _).2 ⟨m,hm,hx⟩,by simp⟩
  have:=zBh (P:=fun i=>i∈(zo W (zm W)).map (fun x=>x.1.toNat)) (Q:=fun i=>¬ql (W.zPE.s i)/\¬Has W.zPE.hn W.zPE.h i) (n:=W.zPE.n) (fun i hi=>(cA i hi).trans (rA i hi));omega
end Go.Proofs.YtmgeglgboadfiaaGreatDoor
