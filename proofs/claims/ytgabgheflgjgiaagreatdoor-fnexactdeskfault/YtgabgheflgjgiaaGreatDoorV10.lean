/- A part of the proof. -/
import Derived.Test.YtgabgheflgjgiaaGreatDoorV9
set_option linter.unusedVariables false
set_option maxRecDepth 20000
set_option maxHeartbeats 8000000
namespace Go.Proofs.YtgabgheflgjgiaaGreatDoor
open Go.RowKit
theorem zMM:(Tryz.prog.info? 2).map (fun i=>(i.zero,i.size,i.bytes))=some (some (.int .i64 0),1,8):=by kernel_rfl
def zEg(w:World)(base:Nat)(v:Value)(l:List Int):Prop:=w.ownsRow base 2 1 v l.length (icl l)
theorem zEg.zOU{w w1:World}{base:Nat}{v:Value}{l:List Int}(h:zEg w base v l)(hb:Below w.heap.size w w1):zEg w1 base v l:=
 World.ownsRow.kept h (zEP hb none) (by cases v.ownBlock<;>simp)
theorem zEg.next{w2:World}{base g cap:Nat}{l:List Int}{x:Int}(h:w2.ownsRow base 2 1 (.slice (some ⟨g,0,none⟩) (l.length+1) cap) (l.length+1) (icl l ++ [.int .i64 x])):zEg w2 base (.slice (some ⟨g,0,none⟩) (l.length+1) cap) (l ++ [x]):=by
 unfold zEg;rw[zJ0,List.length_append];exact h
theorem zEg.lt{w:World}{base:Nat}{v:Value}{l:List Int}(h:zEg w base v l){q:Nat}(hq:v.ownBlock=some q):base<=q:=by
 rcases h.2 with⟨rfl,_⟩ | ⟨g,cap,aA,rfl,hb,hg,_⟩
 ·simp[Value.ownBlock]at hq
 ·simp only[Value.ownBlock,Option.some.injEq]at hq;subst hq;exact hb
theorem zk.grownT{w w1:World}{b:Nat}{x y:Value}{row:Option Nat}(h:zk w b x y)(hg:w.grownBy w1 row)(hne:∀q,row=some q->b<q):zk w1 b x y:=
 h.zOW (S:=fun k=>row=some k) ⟨hg.os,hg.tape,hg.output,hg.size,fun k hk hne=>hg.block k hk (fun e=>hne e.symm)⟩ (fun e=>by have:=hne b e;omega)
theorem zBv(v0 v1:Value)(lo hi:Nat)(p:zI)(xs xb:Int)(w:World)(h1:qm w lo hi v0 v1 p)(hR:zt p) :
  Calls Tryz.prog 102 #[.agg #[v0,v1],.agg #[.int .i64 xs,.int .i64 xb]] w fun e w'=>zK (qQ p xs xb) e/\Below w.heap.size w w':=by
 have Hp:=zF h1;have HR:=zF hR;obtain⟨a,c,a',c',rfl,rfl⟩:∃a c a' c',v0 = .slice a p.n c/\v1 = .slice a' p.hn c':=by
  obtain⟨⟨_,a,c,h1,_⟩,⟨_,a',c',h3,_⟩⟩:=h1;exact⟨a,c,a',c',h1,h3⟩
 clear h1 hR;have lE:=zBz w (.slice a p.n c) (.slice a' p.hn c') (.int .i64 xs) (.int .i64 xb) 36 99;obtain⟨i0,gE,tD⟩:=Option.map_eq_some_iff.1 zMM;simp only[Prod.mk.injEq]at tD;have HI:=zF (And.intro gE tD);clear gE tD;go_enter Tryz.func102,Tryz.ntmps102;go_wp2_with fail;generalize (w.alloc (.cells #[.slice a p.n c,.slice a' p.hn c'] 36)).alloc (.cells #[.int .i64 xs,.int .i64 xb] 99)=W at lE ⊢;obtain⟨hB,hX,eA,hz⟩:=lE;refine(yN xs xb W).mono ?_;rintro e w1 ⟨⟨t,rfl,ht⟩,eC⟩;have cD:=zF (hB.zOU eC);have iD:=zF (hX.zOU eC);have pC:=zA eA eC;have hz1:=eC.size;clear hB hX eA eC;by_cases hn:Nil xs xb
 ·have HN:=zF hn;obtain rfl:t=true:=ht.2 hn;clear ht hn;go_wp2;go_ret;exact⟨zK.yes (Or.inl HN.out),pC⟩
 ·have HN:=zF hn;obtain rfl:t=false:=zP ht hn;clear ht hn;obtain⟨⟨x0,x1⟩,⟨x2,x3⟩⟩:=cD.out;obtain⟨⟨y0,y1⟩,⟨y2,y3⟩⟩:=iD.out;go_wp2_with fail;refine(zCY _ _ lo hi p xs xb _ (Hp.out.zOU pC)).mono ?_;rintro e w2 ⟨⟨t,rfl,ht⟩,fC⟩;have dD:=zF (cD.out.zOU fC);have jD:=zF (iD.out.zOU fC);have nD:=zA pC fC;have hz2:w.heap.size+2<=w2.heap.size:=(by have:=fC.size;omega);clear fC pC cD iD x0 x1 x2 x3 y0 y1 y2 y3 hz hz1;by_cases aB:zAX p xs xb
  ·have gD:=zF aB;obtain rfl:t=true:=ht.2 aB;have Hf:=zF (qq HR.out aB.1);have h8:(p.s xs.toNat).kn=8:=by rcases zCu HR.out aB.1 with h | h;(have:=aB.2.1;omega);exact h
   obtain⟨k,rfl⟩:=Int.eq_ofNat_of_zero_le aB.1.2.1;have hk:k<p.n:=(by have:=aB.1.2.2.1;omega);have eF:(k:Int)<(p.n:Int):=(by omega);rw[Int.toNat_natCast]at Hf h8;have H8:=zF h8;clear ht aB;obtain⟨b,off,ka,kc,rfl,oD⟩:=Hp.out.1.cells hk;have bE:Hid (zp w lo hi (.slice ka 8 kc) 8 (p.s k).ks (p.s k).kb):=(by have:=oD.slot.2.1;rw[h8]at this;exact this);obtain⟨q0,q1,q2,_⟩:=oD.zOU nD;rw[h8]at q1;clear h8 oD;obtain⟨⟨x0,x1⟩,⟨x2,x3⟩⟩:=dD.out;obtain⟨⟨y0,y1⟩,⟨y2,y3⟩⟩:=jD.out;have iA:=zC w2 (.cells #[.int .i64 (k:Int)] 2);have vD:=zF (show zEg (w2.alloc (.cells #[.int .i64 (k:Int)] 2)) (w.heap.size+2) (.slice (some ⟨w2.heap.size,0,none⟩) 1 1) (zAK p k (p.s k) 0)from World.ownsRow_lit (e:=2) (size:=1) w2 #[.int .i64 (k:Int)] 1 hz2 (by unfold maxLen;omega) rfl);have eD:=zF (dD.out.zOU iA);have eE:=zA nD iA;have c0:=(iA.cell (zD q0)).trans q0;have c1:=(iA.cell (zD q1)).trans q1;obtain⟨⟨z0,z1⟩,⟨z2,z3⟩⟩:=eD.out;obtain⟨⟨z4,z5⟩,⟨z6,z7⟩⟩:=jD.out.zOU iA;clear iA;go_wp2
   go_loopw [5,6,8] (fun sv nv i wr=>∃(j m:Nat) (sa:Option Addr) (sc:Nat),j<=8/\i = .int .i64 j/\nv = .int .i64 m/\m<=j/\(0<m↔∃i,i<j/\¬Nil (zU (p.s k) i) (zq (p.s k) i))/\sv = .slice sa (zAK p k (p.s k) j).length sc/\zEg wr (w.heap.size+2) sv (zAK p k (p.s k) j)/\(∀i,i<j->zNf p (p.s k) i)/\(zAK p k (p.s k) j).Nodup/\zk wr w.heap.size (.slice (some ⟨b,off,none⟩) p.n c) (.slice a' p.hn c')/\Below w.heap.size w wr/\w.heap.size+2<=wr.heap.size) (fun _ _ i _=>8 - (intOf i).toNat)
   case atStart=>exact⟨0,0,_,_,Nat.zero_le _,rfl,rfl,Nat.le_refl _,⟨fun h=>absurd h (Nat.lt_irrefl _),fun ⟨i,hi,_⟩=>absurd hi (Nat.not_lt_zero _)⟩,rfl,vD.out,fun i hi=>absurd hi (Nat.not_lt_zero _),by simp[zAK,zA4,yG],eD.out,eE,by rw[World.size_alloc];omega⟩
   case round=>
    obtain⟨j,m0,sa,sc,hj,rfl,rfl,fF,gC,rfl,dB,jC,cB,bB,fB,aD⟩:=hrel;have cC:=zF gC;have nA:=zF dB;have mB:=zF jC;have nB:=zF cB;have mA:=zF bB;have rE:=zJT p k (p.s k) hj;clear gC dB jC cB bB vD eD eE c0 c1 z0 z1 z2 z3 z4 z5 z6 z7 x0 x1 x2 x3 y0 y1 y2 y3 q0 q1 q2 dD jD;by_cases hlt:j<8
    ·have tE:(j:Int)<8:=(by omega);obtain⟨tb,vB,rfl,q0,q1⟩:=(bE.out.zOU fB).cellsT hlt;rw[<-zCX H8.out hlt]at q0;rw[<-zDt H8.out hlt]at q1;go_wp2_with fail;refine(yN (zU (p.s k) j) (zq (p.s k) j) wr).mono ?_;rintro e W ⟨⟨t,rfl,ht⟩,hb⟩;have dA:=zA fB hb;have jA:=zF (mA.out.zOU hb);have vA:=zF (nA.out.zOU hb);have sD:w.heap.size+2<=W.heap.size:=(by have:=hb.size;omega);have kC:=(hb.cell (zD q0)).trans q0;have lC:=(hb.cell (zD q1)).trans q1;clear q0 q1 fB hb nA mA aD;have q0:=kC;have q1:=lC;clear kC lC;by_cases oA:Nil (zU (p.s k) j) (zq (p.s k) j)
     ·have kA:=zF oA;obtain rfl:t=true:=ht.2 oA;clear ht oA;go_wp2;go_roundw
      case rel=>
       refine⟨j+1,m0,sa,sc,by omega,by go_num,rfl,by omega,?_,by rw[zFP kA.out],by rw[zFP kA.out];exact vA.out,qE hlt mB.out (Or.inl kA.out),by rw[zFP kA.out];exact nB.out,jA.out,dA,sD⟩;exact cC.out.trans ⟨fun ⟨i,hi,h⟩=>⟨i,by omega,h⟩,fun ⟨i,hi,h⟩=>by
        by_cases e:i=j
        ·subst e;exact absurd kA.out h
        ·exact⟨i,by omega,h⟩⟩
      case measure=>simp[intOf];omega
     ·have kA:=zF oA;obtain rfl:t=false:=zP ht oA;clear ht oA;have fA:=zF (show(zAK p k (p.s k) j).length<=maxLen by unfold maxLen;omega);obtain⟨⟨x0,x1⟩,⟨x2,x3⟩⟩:=jA.out;by_cases tC:zAX p (zU (p.s k) j) (zq (p.s k) j)
      ·have eB:=zF tC;clear tC;by_cases sC:zU (p.s k) j∈zAK p k (p.s k) j
       ·have bC:=zF sC;clear sC;go_wp2_with fail;refine wp_region_held_drew (S:=(fun w'=>w'.cell? ⟨w.heap.size,0,none⟩=some (.slice (some ⟨b,off,none⟩) p.n c)/\w'.cell? ⟨w.heap.size,1,none⟩=some (.slice a' p.hn c')/\w'.cell? ⟨tb,vB+j*2,none⟩=some (.int .i64 (zU (p.s k) j))/\w'.cell? ⟨tb,vB+j*2+1,none⟩=some (.int .i64 (zq (p.s k) j)))) (by kernel_rfl) ?_ (fun hHeld=>?_)
        ·(try dsimp only)
         go_keep
        refine tk 0 (h:=tk 1 (h:=tk 2 (h:=tk 3 (h:=tk 4 (h:=?_)))));refine rd [5] (rc (fun K hK=>?_) .nil);go_simp;go_at_call 163;refine(zCY _ _ lo hi p (zU (p.s k) j) (zq (p.s k) j) _ ?_).mono ?_
        ·first | exact Hp.out.zOU dA | exact Hp.out.zOU dA.drew
        rintro e wa ⟨⟨ta,rfl,gA⟩,eA⟩;obtain rfl:ta=true:=gA.2 eB.out;clear gA;have aA:Below W.heap.size W wa:=(by first | exact eA | exact zJ eA);obtain⟨⟨k0,_⟩,⟨k1,_⟩⟩:=jA.out.zOU aA;have k2:=(aA.cell (zD q0)).trans q0;have k3:=(aA.cell (zD q1)).trans q1
        (try go_wp2_with fail)
        refine hK.out _ _ (by(try dsimp only);go_keep) ?_;clear hK K hHeld;intro hHeld
        try simp only[Act.put,s1,s2,s3]
        refine tk 6 (h:=tk 7 (h:=tk 8 (h:=tk 9 (h:=tk 10 (h:=tk 11 (h:=tk 12 (h:=tk 13 (h:=?_))))))));refine rd [14] (rc (fun K hK=>?_) .nil);go_simp;go_at_call 105;refine(zAT _ _ 0 _ _ (zU (p.s k) j) _ (zE0 fA.out (vA.out.kept (zEP aA none) (by rcases Value.ownBlock _<;>simp)))).mono ?_;rintro e wb ⟨⟨oB,rfl,cA⟩,rfl⟩;rw[zEm]at cA;obtain rfl:oB=true:=cA.2 bC.out;clear cA
        (try go_wp2_with fail)
        refine hK.out _ _ (by(try dsimp only);go_keep) ?_;clear hK K hHeld;intro hHeld
        try simp only[Act.put,s1,s2,s3]
        refine tk 15 (h:=?_);refine wpAnyH_done (by kernel_rfl) ?_ _;have pA:=zA dA aA;go_wp2;go_ret;refine⟨zK.no fun h=>?_,pA⟩;have hd:=zHo HN.out (h.resolve_left HN.out).2.2 hlt (Nat.zero_le _) kA.out;exact(zDE.1 (show(zAK p k (p.s k) j ++ [zU (p.s k) j]).Nodup from hd)).2 bC.out
       ·have bC:=zF sC;clear sC;go_wp2_with fail;refine wp_region_held_drew (S:=(fun w'=>w'.cell? ⟨w.heap.size,0,none⟩=some (.slice (some ⟨b,off,none⟩) p.n c)/\w'.cell? ⟨w.heap.size,1,none⟩=some (.slice a' p.hn c')/\w'.cell? ⟨tb,vB+j*2,none⟩=some (.int .i64 (zU (p.s k) j))/\w'.cell? ⟨tb,vB+j*2+1,none⟩=some (.int .i64 (zq (p.s k) j)))) (by kernel_rfl) ?_ (fun hHeld=>?_)
        ·(try dsimp only)
         go_keep
        refine tk 0 (h:=tk 1 (h:=tk 2 (h:=tk 3 (h:=tk 4 (h:=?_)))));refine rd [5] (rc (fun K hK=>?_) .nil);go_simp;go_at_call 163;refine(zCY _ _ lo hi p (zU (p.s k) j) (zq (p.s k) j) _ ?_).mono ?_
        ·first | exact Hp.out.zOU dA | exact Hp.out.zOU dA.drew
        rintro e wa ⟨⟨ta,rfl,gA⟩,eA⟩;obtain rfl:ta=true:=gA.2 eB.out;clear gA;have aA:Below W.heap.size W wa:=(by first | exact eA | exact zJ eA);obtain⟨⟨k0,_⟩,⟨k1,_⟩⟩:=jA.out.zOU aA;have k2:=(aA.cell (zD q0)).trans q0;have k3:=(aA.cell (zD q1)).trans q1
        (try go_wp2_with fail)
        refine hK.out _ _ (by(try dsimp only);go_keep) ?_;clear hK K hHeld;intro hHeld
        try simp only[Act.put,s1,s2,s3]
        refine tk 6 (h:=tk 7 (h:=tk 8 (h:=tk 9 (h:=tk 10 (h:=tk 11 (h:=tk 12 (h:=tk 13 (h:=?_))))))));refine rd [14] (rc (fun K hK=>?_) .nil);go_simp;go_at_call 105;refine(zAT _ _ 0 _ _ (zU (p.s k) j) _ (zE0 fA.out (vA.out.kept (zEP aA none) (by rcases Value.ownBlock _<;>simp)))).mono ?_;rintro e wb ⟨⟨oB,rfl,cA⟩,rfl⟩;rw[zEm]at cA;obtain rfl:oB=false:=zP cA bC.out;clear cA
        (try go_wp2_with fail)
        refine hK.out _ _ (by(try dsimp only);go_keep) ?_;clear hK K hHeld;intro hHeld
        try simp only[Act.put,s1,s2,s3]
        refine tk 15 (h:=?_);refine wpAnyH_done (by kernel_rfl) ?_ _;have pA:=zA dA aA;have dF:w.heap.size+2<=wb.heap.size:=(by have:=aA.size;omega);obtain⟨m,hm⟩:=Int.eq_ofNat_of_zero_le eB.out.1.2.1;have aF:m<p.n:=(by have:=eB.out.1.2.2.1;omega);have bF:(m:Int)<(p.n:Int):=(by omega);have vC:(zU (p.s k) j).toNat=m:=(by rw[hm];rfl);have aE:=zF (qq HR.out eB.out.1);rw[vC]at aE;have mD:(p.s m).kn=8:=by
         have h0:=eB.out.2.1;rw[vC]at h0;rcases zF7 aE.out with h | h
         ·omega
         ·exact h
        have bD:=zF mD;obtain⟨_,_,ua,uc,ha,pD⟩:=Hp.out.1.cells aF;simp only[Option.some.injEq,Addr.mk.injEq,and_true]at ha;obtain⟨rfl,rfl⟩:=ha;have nE:Hid (zp w lo hi (.slice ua 8 uc) 8 (p.s m).ks (p.s m).kb):=(by have:=pD.slot.2.1;rw[mD]at this;exact this);have mE:=zF pD;have Hm:=zF hm;have rB:=zF vC;have iA:=zC wb (.cells #[.int .i64 (zU (p.s k) j)] 2);have jB:=zF ((vA.out.zOU aA).zOU iA);have mC:=zF ((jA.out.zOU aA).zOU iA);have sB:=zA pA iA;have cF:(wb.alloc (.cells #[.int .i64 (zU (p.s k) j)] 2)).heap.size=wb.heap.size+1:=World.size_alloc _ _;have nC:=zF (World.news_of_block (heap_alloc_last wb (.cells #[.int .i64 (zU (p.s k) j)] 2)));have iF:(m0:Int)<9:=(by omega);clear pD mD hm vC iA vA jA dA aA q0 q1 k0 k1 k3 x0 x1 x2 x3;go_wp2_with (first
         | (at_builtin;refine wpList_append_lies _ rfl _ _ 34 rfl (w.heap.size+2) 2 i0 (.int .i64 0) 1 8 (by kernel_rfl) HI.out.1 HI.out.2.1 HI.out.2.2.1 HI.out.2.2.2 rfl (by decide) (.slice sa (zAK p k (p.s k) j).length sc) (zAK p k (p.s k) j).length (icl (zAK p k (p.s k) j)) rfl jB.out ⟨wb.heap.size,0,none⟩ 1 1 [.int .i64 (zU (p.s k) j)] rfl rfl nC.out (by simp[Value.oneCell']) (by decide) (by unfold maxLen;omega) (by omega) (by omega) _ rfl ?_;intro g4 gB w4 lA bA dC iC)
         | fail)
        have dE:Hid (zEg w4 (w.heap.size+2) (.slice (some ⟨g4,0,none⟩) ((zAK p k (p.s k) j).length+1) gB) (zA6 p k (p.s k) j 0)):=by
         rw[zFJ];exact zEg.next lA
        have rC:Below w.heap.size w w4:=sB.grown bA sB.size (fun q hq=>by have:=jB.out.lt hq;omega);have fD:=zF (mC.out.grownT bA (fun q hq=>by have:=jB.out.lt hq;omega));have hz4:w.heap.size+2<=w4.heap.size:=(by have:=bA.size;omega);have jE:(zA6 p k (p.s k) j 0).Nodup:=(by rw[zFJ];exact zDE.2 ⟨nB.out,bC.out⟩);have cE:=zF jE;clear lA bA dC iC jB mC sB pA nC jE k2;obtain⟨_,_,ha,q0,q1⟩:=(bE.out.zOU rC).cellsT hlt;simp only[Option.some.injEq,Addr.mk.injEq,and_true]at ha;obtain⟨rfl,rfl⟩:=ha;rw[<-zCX H8.out hlt,Hm.out]at q0;obtain⟨r0,r1,r2,_⟩:=mE.out.zOU rC;rw[bD.out]at r1;obtain⟨⟨x0,x1⟩,⟨x2,x3⟩⟩:=fD.out
        go_quiet (fail)
        go_wp2
        go_loopw [5,9,11] (fun sv nv i wr=>∃(i' m1:Nat) (sa:Option Addr) (sc:Nat),i'<=8/\i = .int .i64 i'/\nv = .int .i64 m1/\m1<=i'/\(0<m1↔∃i,i<i'/\¬Nil (zU (p.s m) i) (zq (p.s m) i))/\sv = .slice sa (zA6 p k (p.s k) j i').length sc/\zEg wr (w.heap.size+2) sv (zA6 p k (p.s k) j i')/\(∀i,i<i'->Nil (zU (p.s m) i) (zq (p.s m) i)\/zA8 p (zU (p.s m) i) (zq (p.s m) i))/\(zA6 p k (p.s k) j i').Nodup/\zk wr w.heap.size (.slice (some ⟨b,off,none⟩) p.n c) (.slice a' p.hn c')/\Below w.heap.size w wr/\w.heap.size+2<=wr.heap.size) (fun _ _ i _=>8 - (intOf i).toNat)
        case atStart=>exact⟨0,0,some ⟨g4,0,none⟩,gB,Nat.zero_le _,rfl,rfl,Nat.le_refl _,⟨fun h=>absurd h (Nat.lt_irrefl _),fun ⟨i,hi,_⟩=>absurd hi (Nat.not_lt_zero _)⟩,by rw[zFJ,List.length_append];rfl,dE.out.zOU (zV (Below.refl _ _) _),fun i hi=>absurd hi (Nat.not_lt_zero _),cE.out,fD.out.zOU (zV (Below.refl _ _) _),zV rC _,hz4⟩
        case round=>
         obtain⟨i,m1,sa,sc,pE,rfl,rfl,gF,kB,rfl,dB,kE,cB,bB,fB,aD⟩:=hrel;have sA:=zF kB;have nA:=zF dB;have lD:=zF kE;have tA:=zF cB;have mA:=zF bB;have iE:=zNS p k (p.s k) (show j<=8 by omega) pE;clear kB dB kE cB bB dE fD rC cE x0 x1 x2 x3 q0 q1 r0 r1 r2 hz4;by_cases tB:i<8
         ·have sE:(i:Int)<8:=(by omega);obtain⟨ub,aC,rfl,q0,q1⟩:=(nE.out.zOU fB).cellsT tB;rw[<-zCX bD.out tB]at q0;rw[<-zDt bD.out tB]at q1;go_wp2_with fail;refine(yN (zU (p.s m) i) (zq (p.s m) i) wr).mono ?_;rintro e W ⟨⟨t,rfl,ht⟩,hb⟩;have dA:=zA fB hb;have jA:=zF (mA.out.zOU hb);have vA:=zF (nA.out.zOU hb);have sD:w.heap.size+2<=W.heap.size:=(by have:=hb.size;omega);have kC:=(hb.cell (zD q0)).trans q0;have lC:=(hb.cell (zD q1)).trans q1;clear q0 q1 fB hb nA mA aD;have q0:=kC;have q1:=lC;clear kC lC;by_cases oA:Nil (zU (p.s m) i) (zq (p.s m) i)
          ·have lB:=zF oA;obtain rfl:t=true:=ht.2 oA;clear ht oA;have es:zA6 p k (p.s k) j (i+1)=zA6 p k (p.s k) j i:=zMZ (by rw[rB.out];exact lB.out);go_wp2;go_roundw
           case rel=>
            refine⟨i+1,m1,sa,sc,by omega,by go_num,rfl,by omega,?_,by rw[es],by rw[es];exact vA.out,qE tB lD.out (Or.inl lB.out),by rw[es];exact tA.out,jA.out,dA,sD⟩;exact sA.out.trans ⟨fun ⟨i,hi,h⟩=>⟨i,by omega,h⟩,fun ⟨i',hi,h⟩=>by
             by_cases e:i'=i
             ·subst e;exact absurd lB.out h
             ·exact⟨i',by omega,h⟩⟩
           case measure=>simp[intOf];omega
          ·have lB:=zF oA;obtain rfl:t=false:=zP ht oA;clear ht oA;have fA:=zF (show(zA6 p k (p.s k) j i).length<=maxLen by unfold maxLen;omega);obtain⟨⟨x0,x1⟩,⟨x2,x3⟩⟩:=jA.out;have es:zA6 p k (p.s k) j (i+1)=zA6 p k (p.s k) j i ++ [zU (p.s m) i]:=(by have:=zMY (p:=p) (rs:=(k:Int)) (s:=p.s k) (j:=j) (i:=i) (by rw[rB.out];exact lB.out);rw[rB.out]at this;exact this);have oC:=zF es;clear es;by_cases hP:zA8 p (zU (p.s m) i) (zq (p.s m) i)
           ·have pB:=zF hP;clear hP;by_cases iB:zU (p.s m) i∈zA6 p k (p.s k) j i
            ·have rA:=zF iB;clear iB;go_wp2_with fail;refine wp_region_held_drew (S:=(fun w'=>w'.cell? ⟨w.heap.size,0,none⟩=some (.slice (some ⟨b,off,none⟩) p.n c)/\w'.cell? ⟨w.heap.size,1,none⟩=some (.slice a' p.hn c')/\w'.cell? ⟨ub,aC+i*2,none⟩=some (.int .i64 (zU (p.s m) i))/\w'.cell? ⟨ub,aC+i*2+1,none⟩=some (.int .i64 (zq (p.s m) i)))) (by kernel_rfl) ?_ (fun hHeld=>?_)
             ·(try dsimp only)
              go_keep
             refine tk 0 (h:=tk 1 (h:=tk 2 (h:=tk 3 (h:=tk 4 (h:=?_)))));refine rd [5] (rc (fun K hK=>?_) .nil);go_simp;go_at_call 164;refine(zDd _ _ lo hi p (zU (p.s m) i) (zq (p.s m) i) _ ?_).mono ?_
             ·first | exact Hp.out.zOU dA | exact Hp.out.zOU dA.drew
             rintro e wa ⟨⟨ta,rfl,gA⟩,eA⟩;obtain rfl:ta=true:=gA.2 pB.out;clear gA;have aA:Below W.heap.size W wa:=(by first | exact eA | exact zJ eA);obtain⟨⟨k0,_⟩,⟨k1,_⟩⟩:=jA.out.zOU aA;have k2:=(aA.cell (zD q0)).trans q0;have k3:=(aA.cell (zD q1)).trans q1
             (try go_wp2_with fail)
             refine hK.out _ _ (by(try dsimp only);go_keep) ?_;clear hK K hHeld;intro hHeld
             try simp only[Act.put,s1,s2,s3]
             refine tk 6 (h:=tk 7 (h:=tk 8 (h:=tk 9 (h:=tk 10 (h:=tk 11 (h:=tk 12 (h:=tk 13 (h:=?_))))))));refine rd [14] (rc (fun K hK=>?_) .nil);go_simp;go_at_call 105;refine(zAT _ _ 0 _ _ (zU (p.s m) i) _ (zE0 fA.out (vA.out.kept (zEP aA none) (by rcases Value.ownBlock _<;>simp)))).mono ?_;rintro e wb ⟨⟨oB,rfl,cA⟩,rfl⟩;rw[zEm]at cA;obtain rfl:oB=true:=cA.2 rA.out;clear cA
             (try go_wp2_with fail)
             refine hK.out _ _ (by(try dsimp only);go_keep) ?_;clear hK K hHeld;intro hHeld
             try simp only[Act.put,s1,s2,s3]
             refine tk 15 (h:=?_);refine wpAnyH_done (by kernel_rfl) ?_ _;have pA:=zA dA aA;go_wp2;go_ret;refine⟨zK.no fun h=>?_,pA⟩;have hd:=zHo HN.out (h.resolve_left HN.out).2.2 hlt (show i+1<=8 by omega) kA.out;have fE:(zA6 p k (p.s k) j (i+1)).Nodup:=hd;rw[oC.out]at fE;exact(zDE.1 fE).2 rA.out
            ·have rA:=zF iB;clear iB;go_wp2_with fail;refine wp_region_held_drew (S:=(fun w'=>w'.cell? ⟨w.heap.size,0,none⟩=some (.slice (some ⟨b,off,none⟩) p.n c)/\w'.cell? ⟨w.heap.size,1,none⟩=some (.slice a' p.hn c')/\w'.cell? ⟨ub,aC+i*2,none⟩=some (.int .i64 (zU (p.s m) i))/\w'.cell? ⟨ub,aC+i*2+1,none⟩=some (.int .i64 (zq (p.s m) i)))) (by kernel_rfl) ?_ (fun hHeld=>?_)
             ·(try dsimp only)
              go_keep
             refine tk 0 (h:=tk 1 (h:=tk 2 (h:=tk 3 (h:=tk 4 (h:=?_)))));refine rd [5] (rc (fun K hK=>?_) .nil);go_simp;go_at_call 164;refine(zDd _ _ lo hi p (zU (p.s m) i) (zq (p.s m) i) _ ?_).mono ?_
             ·first | exact Hp.out.zOU dA | exact Hp.out.zOU dA.drew
             rintro e wa ⟨⟨ta,rfl,gA⟩,eA⟩;obtain rfl:ta=true:=gA.2 pB.out;clear gA;have aA:Below W.heap.size W wa:=(by first | exact eA | exact zJ eA);obtain⟨⟨k0,_⟩,⟨k1,_⟩⟩:=jA.out.zOU aA;have k2:=(aA.cell (zD q0)).trans q0;have k3:=(aA.cell (zD q1)).trans q1
             (try go_wp2_with fail)
             refine hK.out _ _ (by(try dsimp only);go_keep) ?_;clear hK K hHeld;intro hHeld
             try simp only[Act.put,s1,s2,s3]
             refine tk 6 (h:=tk 7 (h:=tk 8 (h:=tk 9 (h:=tk 10 (h:=tk 11 (h:=tk 12 (h:=tk 13 (h:=?_))))))));refine rd [14] (rc (fun K hK=>?_) .nil);go_simp;go_at_call 105;refine(zAT _ _ 0 _ _ (zU (p.s m) i) _ (zE0 fA.out (vA.out.kept (zEP aA none) (by rcases Value.ownBlock _<;>simp)))).mono ?_;rintro e wb ⟨⟨oB,rfl,cA⟩,rfl⟩;rw[zEm]at cA;obtain rfl:oB=false:=zP cA rA.out;clear cA
             (try go_wp2_with fail)
             refine hK.out _ _ (by(try dsimp only);go_keep) ?_;clear hK K hHeld;intro hHeld
             try simp only[Act.put,s1,s2,s3]
             refine tk 15 (h:=?_);refine wpAnyH_done (by kernel_rfl) ?_ _;have pA:=zA dA aA;have dF:w.heap.size+2<=wb.heap.size:=(by have:=aA.size;omega);have iA:=zC wb (.cells #[.int .i64 (zU (p.s m) i)] 2);have jB:=zF ((vA.out.zOU aA).zOU iA);have mC:=zF ((jA.out.zOU aA).zOU iA);have sB:=zA pA iA;have cF:(wb.alloc (.cells #[.int .i64 (zU (p.s m) i)] 2)).heap.size=wb.heap.size+1:=World.size_alloc _ _;have nC:=zF (World.news_of_block (heap_alloc_last wb (.cells #[.int .i64 (zU (p.s m) i)] 2)));have vE:(m1:Int)<9:=(by omega);clear iA vA jA dA aA q0 q1 k0 k1 k3 x0 x1 x2 x3;go_wp2_with (first
              | (at_builtin;refine wpList_append_lies _ rfl _ _ 34 rfl (w.heap.size+2) 2 i0 (.int .i64 0) 1 8 (by kernel_rfl) HI.out.1 HI.out.2.1 HI.out.2.2.1 HI.out.2.2.2 rfl (by decide) (.slice sa (zA6 p k (p.s k) j i).length sc) (zA6 p k (p.s k) j i).length (icl (zA6 p k (p.s k) j i)) rfl jB.out ⟨wb.heap.size,0,none⟩ 1 1 [.int .i64 (zU (p.s m) i)] rfl rfl nC.out (by simp[Value.oneCell']) (by decide) (by unfold maxLen;omega) (by omega) (by omega) _ rfl ?_;intro g4 gB w4 lA bA dC iC)
              | go_in)
             go_roundw
             case rel=>
              refine⟨i+1,m1+1,some ⟨g4,0,none⟩,gB,by omega,by go_num,by go_num,by omega,⟨fun _=>⟨i,by omega,lB.out⟩,fun _=>by omega⟩,by rw[oC.out,List.length_append];rfl,by rw[oC.out];exact zEg.next lA,qE tB lD.out (Or.inr pB.out),by rw[oC.out];exact zDE.2 ⟨tA.out,rA.out⟩,mC.out.grownT bA (fun q hq=>by have:=jB.out.lt hq;omega),sB.grown bA sB.size (fun q hq=>by have:=jB.out.lt hq;omega),by have:=bA.size;omega⟩
             case measure=>simp[intOf];omega
           ·have pB:=zF hP;clear hP;go_wp2_with fail;refine wp_region_held_drew (S:=(fun w'=>w'.cell? ⟨w.heap.size,0,none⟩=some (.slice (some ⟨b,off,none⟩) p.n c)/\w'.cell? ⟨w.heap.size,1,none⟩=some (.slice a' p.hn c')/\w'.cell? ⟨ub,aC+i*2,none⟩=some (.int .i64 (zU (p.s m) i))/\w'.cell? ⟨ub,aC+i*2+1,none⟩=some (.int .i64 (zq (p.s m) i)))) (by kernel_rfl) ?_ (fun hHeld=>?_)
            ·(try dsimp only)
             go_keep
            refine tk 0 (h:=tk 1 (h:=tk 2 (h:=tk 3 (h:=tk 4 (h:=?_)))));refine rd [5] (rc (fun K hK=>?_) .nil);go_simp;go_at_call 164;refine(zDd _ _ lo hi p (zU (p.s m) i) (zq (p.s m) i) _ ?_).mono ?_
            ·first | exact Hp.out.zOU dA | exact Hp.out.zOU dA.drew
            rintro e wa ⟨⟨ta,rfl,gA⟩,eA⟩;obtain rfl:ta=false:=zP gA pB.out;clear gA;have aA:Below W.heap.size W wa:=(by first | exact eA | exact zJ eA);obtain⟨⟨k0,_⟩,⟨k1,_⟩⟩:=jA.out.zOU aA;have k2:=(aA.cell (zD q0)).trans q0;have k3:=(aA.cell (zD q1)).trans q1
            (try go_wp2_with fail)
            refine hK.out _ _ (by(try dsimp only);go_keep) ?_;clear hK K hHeld;intro hHeld
            try simp only[Act.put,s1,s2,s3]
            refine tk 6 (h:=tk 7 (h:=ts 8 (h:=ts 9 (h:=ts 10 (h:=ts 11 (h:=ts 12 (h:=ts 13 (h:=?_))))))));refine rd [14] (rc (fun K hK=>?_) .nil);split
            ·rename_i rD
             exact absurd (show false=true from rD) Bool.false_ne_true
            refine hK.out _ _ (by assumption) (fun hHeld=>?_);clear hK K
            try simp only[Act.put,s1,s2,s3]
            refine tk 15 (h:=?_);refine wpAnyH_done (by kernel_rfl) ?_ _;have pA:=zA dA aA;go_wp2;go_ret;refine⟨zK.no fun h=>?_,pA⟩;rcases(h.resolve_left HN.out).2.1.1 j hlt with h | h
            ·exact kA.out h
            ·have h2:Nil (zU (p.s (zU (p.s k) j).toNat) i) (zq (p.s (zU (p.s k) j).toNat) i)\/zA8 p (zU (p.s (zU (p.s k) j).toNat) i) (zq (p.s (zU (p.s k) j).toNat) i):=h.2.1 i tB;rw[rB.out]at h2;rcases h2 with h2 | h2
             ·exact lB.out h2
             ·exact pB.out h2
         ·obtain rfl:i=8:=(by omega);by_cases hz0:m1=0
          ·subst hz0;have e0:((0:Nat):Int)=0:=rfl;go_wp2;go_ret;refine⟨zK.no fun h=>?_,fB⟩;rcases(h.resolve_left HN.out).2.1.1 j hlt with h | h
           ·exact kA.out h
           ·have h2:∃i,i<8/\¬Nil (zU (p.s (zU (p.s k) j).toNat) i) (zq (p.s (zU (p.s k) j).toNat) i):=h.2.2;rw[rB.out]at h2;have:=sA.out.2 h2;omega
          ·have e0:((m1:Int) == 0)=false:=(by simp;omega);have oE:=zF (show 0<m1 by omega);have kD:Hid (zLn p (p.s (zU (p.s k) j).toNat)):=(by rw[rB.out];exact⟨lD.out,sA.out.1 oE.out⟩);clear hz0;go_wp2;go_roundw
           case rel=>
            refine⟨j+1,m0+1,sa,sc,by omega,by go_num,by go_num,by omega,⟨fun _=>⟨j,by omega,kA.out⟩,fun _=>by omega⟩,by rw[zDz kA.out],by rw[zDz kA.out];exact nA.out,qE hlt mB.out (Or.inr ⟨eB.out,kD.out⟩),by rw[zDz kA.out];exact tA.out,mA.out,fB,aD⟩
           case measure=>simp[intOf];omega
      ·have eB:=zF tC;clear tC;go_wp2_with fail;refine wp_region_held_drew (S:=(fun w'=>w'.cell? ⟨w.heap.size,0,none⟩=some (.slice (some ⟨b,off,none⟩) p.n c)/\w'.cell? ⟨w.heap.size,1,none⟩=some (.slice a' p.hn c')/\w'.cell? ⟨tb,vB+j*2,none⟩=some (.int .i64 (zU (p.s k) j))/\w'.cell? ⟨tb,vB+j*2+1,none⟩=some (.int .i64 (zq (p.s k) j)))) (by kernel_rfl) ?_ (fun hHeld=>?_)
       ·(try dsimp only)
        go_keep
       refine tk 0 (h:=tk 1 (h:=tk 2 (h:=tk 3 (h:=tk 4 (h:=?_)))));refine rd [5] (rc (fun K hK=>?_) .nil);go_simp;go_at_call 163;refine(zCY _ _ lo hi p (zU (p.s k) j) (zq (p.s k) j) _ ?_).mono ?_
       ·first | exact Hp.out.zOU dA | exact Hp.out.zOU dA.drew
       rintro e wa ⟨⟨ta,rfl,gA⟩,eA⟩;obtain rfl:ta=false:=zP gA eB.out;clear gA;have aA:Below W.heap.size W wa:=(by first | exact eA | exact zJ eA);obtain⟨⟨k0,_⟩,⟨k1,_⟩⟩:=jA.out.zOU aA;have k2:=(aA.cell (zD q0)).trans q0;have k3:=(aA.cell (zD q1)).trans q1
       (try go_wp2_with fail)
       refine hK.out _ _ (by(try dsimp only);go_keep) ?_;clear hK K hHeld;intro hHeld
       try simp only[Act.put,s1,s2,s3]
       refine tk 6 (h:=tk 7 (h:=ts 8 (h:=ts 9 (h:=ts 10 (h:=ts 11 (h:=ts 12 (h:=ts 13 (h:=?_))))))));refine rd [14] (rc (fun K hK=>?_) .nil);split
       ·rename_i rD
        exact absurd (show false=true from rD) Bool.false_ne_true
       refine hK.out _ _ (by assumption) (fun hHeld=>?_);clear hK K
       try simp only[Act.put,s1,s2,s3]
       refine tk 15 (h:=?_);refine wpAnyH_done (by kernel_rfl) ?_ _;have pA:=zA dA aA;go_wp2;go_ret;refine⟨zK.no fun h=>?_,pA⟩;rcases(h.resolve_left HN.out).2.1.1 j hlt with h | h
       ·exact kA.out h
       ·exact eB.out h.1
    ·obtain rfl:j=8:=(by omega);go_wp2;go_ret;refine⟨⟨_,rfl,?_⟩,fB⟩;have hc:=cC.out;constructor
     ·intro h;refine Or.inr ⟨gD.out,⟨mB.out,hc.1 (by simpa using h)⟩,?_⟩;rw[zHC HN.out];exact nB.out
     ·intro h;have:=hc.2 (h.resolve_left HN.out).2.1.2;simpa using this
  ·have gD:=zF aB;obtain rfl:t=false:=zP ht aB;clear ht aB;go_wp2;go_ret;exact⟨zK.no fun h=>(h.resolve_left HN.out).1 |> gD.out,nD⟩
end Go.Proofs.YtgabgheflgjgiaaGreatDoor
