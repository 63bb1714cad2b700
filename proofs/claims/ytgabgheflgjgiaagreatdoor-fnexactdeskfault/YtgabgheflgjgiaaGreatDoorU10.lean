/- A part of the proof. -/
import Derived.Test.YtgabgheflgjgiaaGreatDoorU9
set_option linter.unusedVariables false
set_option maxRecDepth 20000
set_option maxHeartbeats 8000000
namespace Go.Proofs.YtgabgheflgjgiaaGreatDoor
open Go.RowKit
theorem zMd:(Tryz.prog.info? 2).map (fun i=>(i.zero,i.size,i.bytes))=some (some (.int .i64 0),1,8):=by kernel_rfl
def zEo(w:World)(base:Nat)(v:Value)(l:List Int):Prop:=w.ownsRow base 2 1 v l.length (icl l)
theorem zEo.zOp{w w1:World}{base:Nat}{v:Value}{l:List Int}(h:zEo w base v l)(hb:Below w.heap.size w w1):zEo w1 base v l:=
 World.ownsRow.kept h (zEX hb none) (by cases v.ownBlock<;>simp)
theorem zEo.next{w2:World}{base g cap:Nat}{l:List Int}{x:Int}(h:w2.ownsRow base 2 1 (.slice (some ⟨g,0,none⟩) (l.length+1) cap) (l.length+1) (icl l ++ [.int .i64 x])):zEo w2 base (.slice (some ⟨g,0,none⟩) (l.length+1) cap) (l ++ [x]):=by
 unfold zEo;rw[zKD,List.length_append];exact h
theorem zEo.lt{w:World}{base:Nat}{v:Value}{l:List Int}(h:zEo w base v l){q:Nat}(hq:v.ownBlock=some q):base<=q:=by
 rcases h.2 with⟨rfl,_⟩ | ⟨g,cap,aA,rfl,hb,hg,_⟩
 ·simp[Value.ownBlock]at hq
 ·simp only[Value.ownBlock,Option.some.injEq]at hq;subst hq;exact hb
theorem zk.grownT{w w1:World}{b:Nat}{x y:Value}{row:Option Nat}(h:zk w b x y)(hg:w.grownBy w1 row)(aA:∀q,row=some q->b<q):zk w1 b x y:=
 h.zOr (S:=fun k=>row=some k) ⟨hg.os,hg.tape,hg.output,hg.size,fun k hk aA=>hg.block k hk (fun e=>aA e.symm)⟩ (fun e=>by have:=aA b e;omega)
theorem zBx(v0 v1:Value)(lo hi:Nat)(p:zI)(xs xb:Int)(w:World)(h1:qm w lo hi v0 v1 p)(hR:zt p) :
  Calls Tryz.prog 102 #[.agg #[v0,v1],.agg #[.int .i64 xs,.int .i64 xb]] w fun e w'=>zK (qQ p xs xb) e/\Below w.heap.size w w':=by
 have Hp:=zF h1;have HR:=zF hR;obtain⟨a,c,a',c',rfl,rfl⟩:∃a c a' c',v0 = .slice a p.n c/\v1 = .slice a' p.hn c':=by
  obtain⟨⟨_,a,c,h1,_⟩,⟨_,a',c',h3,_⟩⟩:=h1;exact⟨a,c,a',c',h1,h3⟩
 clear h1 hR;have mE:=zB1 w (.slice a p.n c) (.slice a' p.hn c') (.int .i64 xs) (.int .i64 xb) 36 99;obtain⟨i0,iE,vD⟩:=Option.map_eq_some_iff.1 zMd;simp only[Prod.mk.injEq]at vD;have HI:=zF (And.intro iE vD);clear iE vD;go_enter Tryz.func102,Tryz.ntmps102;go_wp2_with fail;generalize (w.alloc (.cells #[.slice a p.n c,.slice a' p.hn c'] 36)).alloc (.cells #[.int .i64 xs,.int .i64 xb] 99)=W at mE ⊢;obtain⟨hB,hX,eA,hz⟩:=mE;refine(yN xs xb W).mono ?_;rintro e w1 ⟨⟨t,rfl,ht⟩,fC⟩;have dD:=zF (hB.zOp fC);have jD:=zF (hX.zOp fC);have rC:=zA eA fC;have fF:=fC.size;clear hB hX eA fC;by_cases hn:Nil xs xb
 ·have HN:=zF hn;obtain rfl:t=true:=ht.2 hn;clear ht hn;go_wp2;go_ret;exact⟨zK.yes (Or.inl HN.out),rC⟩
 ·have HN:=zF hn;obtain rfl:t=false:=zP ht hn;clear ht hn;obtain⟨⟨x0,x1⟩,⟨x2,x3⟩⟩:=dD.out;obtain⟨⟨y0,y1⟩,⟨y2,y3⟩⟩:=jD.out;go_wp2_with fail;refine(zCb _ _ lo hi p xs xb _ (Hp.out.zOp rC)).mono ?_;rintro e w2 ⟨⟨t,rfl,ht⟩,gC⟩;have eD:=zF (dD.out.zOp gC);have kD:=zF (jD.out.zOp gC);have oD:=zA rC gC;have gF:w.heap.size+2<=w2.heap.size:=(by have:=gC.size;omega);clear gC rC dD jD x0 x1 x2 x3 y0 y1 y2 y3 hz fF;by_cases bB:zAY p xs xb
  ·have iD:=zF bB;obtain rfl:t=true:=ht.2 bB;have Hf:=zF (qq HR.out bB.1);have h8:(p.s xs.toNat).kn=8:=by rcases zCy HR.out bB.1 with h | h;(have:=bB.2.1;omega);exact h
   obtain⟨k,rfl⟩:=Int.eq_ofNat_of_zero_le bB.1.2.1;have hk:k<p.n:=(by have:=bB.1.2.2.1;omega);have kF:(k:Int)<(p.n:Int):=(by omega);rw[Int.toNat_natCast]at Hf h8;have H8:=zF h8;clear ht bB;obtain⟨b,off,ka,kc,rfl,pD⟩:=Hp.out.1.cells hk;have cE:Hid (zp w lo hi (.slice ka 8 kc) 8 (p.s k).ks (p.s k).kb):=(by have:=pD.slot.2.1;rw[h8]at this;exact this);obtain⟨q0,q1,q2,_⟩:=pD.zOp oD;rw[h8]at q1;clear h8 pD;obtain⟨⟨x0,x1⟩,⟨x2,x3⟩⟩:=eD.out;obtain⟨⟨y0,y1⟩,⟨y2,y3⟩⟩:=kD.out;have iA:=zC w2 (.cells #[.int .i64 (k:Int)] 2);have aE:=zF (show zEo (w2.alloc (.cells #[.int .i64 (k:Int)] 2)) (w.heap.size+2) (.slice (some ⟨w2.heap.size,0,none⟩) 1 1) (zAL p k (p.s k) 0)from World.ownsRow_lit (e:=2) (size:=1) w2 #[.int .i64 (k:Int)] 1 gF (by unfold maxLen;omega) rfl);have fD:=zF (eD.out.zOp iA);have fE:=zA oD iA;have c0:=(iA.cell (zD q0)).trans q0;have c1:=(iA.cell (zD q1)).trans q1;obtain⟨⟨z0,z1⟩,⟨z2,z3⟩⟩:=fD.out;obtain⟨⟨z4,z5⟩,⟨z6,z7⟩⟩:=kD.out.zOp iA;clear iA;go_wp2
   go_loopw [5,6,8] (fun sv nv i wr=>∃(j m:Nat) (sa:Option Addr) (sc:Nat),j<=8/\i = .int .i64 j/\nv = .int .i64 m/\m<=j/\(0<m↔∃i,i<j/\¬Nil (zU (p.s k) i) (zq (p.s k) i))/\sv = .slice sa (zAL p k (p.s k) j).length sc/\zEo wr (w.heap.size+2) sv (zAL p k (p.s k) j)/\(∀i,i<j->zNy p (p.s k) i)/\(zAL p k (p.s k) j).Nodup/\zk wr w.heap.size (.slice (some ⟨b,off,none⟩) p.n c) (.slice a' p.hn c')/\Below w.heap.size w wr/\w.heap.size+2<=wr.heap.size) (fun _ _ i _=>8 - (intOf i).toNat)
   case atStart=>exact⟨0,0,_,_,Nat.zero_le _,rfl,rfl,Nat.le_refl _,⟨fun h=>absurd h (Nat.lt_irrefl _),fun ⟨i,hi,_⟩=>absurd hi (Nat.not_lt_zero _)⟩,rfl,aE.out,fun i hi=>absurd hi (Nat.not_lt_zero _),by simp[zAL,zA5,yG],fD.out,fE,by rw[World.size_alloc];omega⟩
   case round=>
    obtain⟨j,m0,sa,sc,hj,rfl,rfl,lF,iC,rfl,eB,kC,dB,cB,gB,bD⟩:=hrel;have dC:=zF iC;have nA:=zF eB;have nB:=zF kC;have oB:=zF dB;have mA:=zF cB;have vE:=zJg p k (p.s k) hj;clear iC eB kC dB cB aE fD fE c0 c1 z0 z1 z2 z3 z4 z5 z6 z7 x0 x1 x2 x3 y0 y1 y2 y3 q0 q1 q2 eD kD;by_cases rA:j<8
    ·have bF:(j:Int)<8:=(by omega);obtain⟨tb,aC,rfl,q0,q1⟩:=(cE.out.zOp gB).cellsT rA;rw[<-zCa H8.out rA]at q0;rw[<-zDz H8.out rA]at q1;go_wp2_with fail;refine(yN (zU (p.s k) j) (zq (p.s k) j) wr).mono ?_;rintro e W ⟨⟨t,rfl,ht⟩,hb⟩;have dA:=zA gB hb;have jA:=zF (mA.out.zOp hb);have aB:=zF (nA.out.zOp hb);have tD:w.heap.size+2<=W.heap.size:=(by have:=hb.size;omega);have lC:=(hb.cell (zD q0)).trans q0;have mC:=(hb.cell (zD q1)).trans q1;clear q0 q1 gB hb nA mA bD;have q0:=lC;have q1:=mC;clear lC mC;by_cases oA:Nil (zU (p.s k) j) (zq (p.s k) j)
     ·have kA:=zF oA;obtain rfl:t=true:=ht.2 oA;clear ht oA;go_wp2;go_roundw
      case rel=>
       refine⟨j+1,m0,sa,sc,by omega,by go_num,rfl,by omega,?_,by rw[zFY kA.out],by rw[zFY kA.out];exact aB.out,qE rA nB.out (Or.inl kA.out),by rw[zFY kA.out];exact oB.out,jA.out,dA,tD⟩;exact dC.out.trans ⟨fun ⟨i,hi,h⟩=>⟨i,by omega,h⟩,fun ⟨i,hi,h⟩=>by
        by_cases e:i=j
        ·subst e;exact absurd kA.out h
        ·exact⟨i,by omega,h⟩⟩
      case measure=>simp[intOf];omega
     ·have kA:=zF oA;obtain rfl:t=false:=zP ht oA;clear ht oA;have fA:=zF (show(zAL p k (p.s k) j).length<=maxLen by unfold maxLen;omega);obtain⟨⟨x0,x1⟩,⟨x2,x3⟩⟩:=jA.out;by_cases vC:zAY p (zU (p.s k) j) (zq (p.s k) j)
      ·have fB:=zF vC;clear vC;by_cases tC:zU (p.s k) j∈zAL p k (p.s k) j
       ·have cC:=zF tC;clear tC;go_wp2_with fail;refine wp_region_held_drew (S:=(fun w'=>w'.cell? ⟨w.heap.size,0,none⟩=some (.slice (some ⟨b,off,none⟩) p.n c)/\w'.cell? ⟨w.heap.size,1,none⟩=some (.slice a' p.hn c')/\w'.cell? ⟨tb,aC+j*2,none⟩=some (.int .i64 (zU (p.s k) j))/\w'.cell? ⟨tb,aC+j*2+1,none⟩=some (.int .i64 (zq (p.s k) j)))) (by kernel_rfl) ?_ (fun hHeld=>?_)
        ·(try dsimp only)
         go_keep
        refine tk 0 (h:=tk 1 (h:=tk 2 (h:=tk 3 (h:=tk 4 (h:=?_)))));refine rd [5] (rc (fun K hK=>?_) .nil);go_simp;go_at_call 163;refine(zCb _ _ lo hi p (zU (p.s k) j) (zq (p.s k) j) _ ?_).mono ?_
        ·first | exact Hp.out.zOp dA | exact Hp.out.zOp dA.drew
        rintro e wa ⟨⟨ta,rfl,gA⟩,eA⟩;obtain rfl:ta=true:=gA.2 fB.out;clear gA;have aA:Below W.heap.size W wa:=(by first | exact eA | exact zJ eA);obtain⟨⟨k0,_⟩,⟨k1,_⟩⟩:=jA.out.zOp aA;have k2:=(aA.cell (zD q0)).trans q0;have k3:=(aA.cell (zD q1)).trans q1
        (try go_wp2_with fail)
        refine hK.out _ _ (by(try dsimp only);go_keep) ?_;clear hK K hHeld;intro hHeld
        try simp only[Act.put,s1,s2,s3]
        refine tk 6 (h:=tk 7 (h:=tk 8 (h:=tk 9 (h:=tk 10 (h:=tk 11 (h:=tk 12 (h:=tk 13 (h:=?_))))))));refine rd [14] (rc (fun K hK=>?_) .nil);go_simp;go_at_call 105;refine(zAU _ _ 0 _ _ (zU (p.s k) j) _ (zE8 fA.out (aB.out.kept (zEX aA none) (by rcases Value.ownBlock _<;>simp)))).mono ?_;rintro e wb ⟨⟨pB,rfl,cA⟩,rfl⟩;rw[zEu]at cA;obtain rfl:pB=true:=cA.2 cC.out;clear cA
        (try go_wp2_with fail)
        refine hK.out _ _ (by(try dsimp only);go_keep) ?_;clear hK K hHeld;intro hHeld
        try simp only[Act.put,s1,s2,s3]
        refine tk 15 (h:=?_);refine wpAnyH_done (by kernel_rfl) ?_ _;have pA:=zA dA aA;go_wp2;go_ret;refine⟨zK.no fun h=>?_,pA⟩;have hd:=zH0 HN.out (h.resolve_left HN.out).2.2 rA (Nat.zero_le _) kA.out;exact(zDI.1 (show(zAL p k (p.s k) j ++ [zU (p.s k) j]).Nodup from hd)).2 cC.out
       ·have cC:=zF tC;clear tC;go_wp2_with fail;refine wp_region_held_drew (S:=(fun w'=>w'.cell? ⟨w.heap.size,0,none⟩=some (.slice (some ⟨b,off,none⟩) p.n c)/\w'.cell? ⟨w.heap.size,1,none⟩=some (.slice a' p.hn c')/\w'.cell? ⟨tb,aC+j*2,none⟩=some (.int .i64 (zU (p.s k) j))/\w'.cell? ⟨tb,aC+j*2+1,none⟩=some (.int .i64 (zq (p.s k) j)))) (by kernel_rfl) ?_ (fun hHeld=>?_)
        ·(try dsimp only)
         go_keep
        refine tk 0 (h:=tk 1 (h:=tk 2 (h:=tk 3 (h:=tk 4 (h:=?_)))));refine rd [5] (rc (fun K hK=>?_) .nil);go_simp;go_at_call 163;refine(zCb _ _ lo hi p (zU (p.s k) j) (zq (p.s k) j) _ ?_).mono ?_
        ·first | exact Hp.out.zOp dA | exact Hp.out.zOp dA.drew
        rintro e wa ⟨⟨ta,rfl,gA⟩,eA⟩;obtain rfl:ta=true:=gA.2 fB.out;clear gA;have aA:Below W.heap.size W wa:=(by first | exact eA | exact zJ eA);obtain⟨⟨k0,_⟩,⟨k1,_⟩⟩:=jA.out.zOp aA;have k2:=(aA.cell (zD q0)).trans q0;have k3:=(aA.cell (zD q1)).trans q1
        (try go_wp2_with fail)
        refine hK.out _ _ (by(try dsimp only);go_keep) ?_;clear hK K hHeld;intro hHeld
        try simp only[Act.put,s1,s2,s3]
        refine tk 6 (h:=tk 7 (h:=tk 8 (h:=tk 9 (h:=tk 10 (h:=tk 11 (h:=tk 12 (h:=tk 13 (h:=?_))))))));refine rd [14] (rc (fun K hK=>?_) .nil);go_simp;go_at_call 105;refine(zAU _ _ 0 _ _ (zU (p.s k) j) _ (zE8 fA.out (aB.out.kept (zEX aA none) (by rcases Value.ownBlock _<;>simp)))).mono ?_;rintro e wb ⟨⟨pB,rfl,cA⟩,rfl⟩;rw[zEu]at cA;obtain rfl:pB=false:=zP cA cC.out;clear cA
        (try go_wp2_with fail)
        refine hK.out _ _ (by(try dsimp only);go_keep) ?_;clear hK K hHeld;intro hHeld
        try simp only[Act.put,s1,s2,s3]
        refine tk 15 (h:=?_);refine wpAnyH_done (by kernel_rfl) ?_ _;have pA:=zA dA aA;have jF:w.heap.size+2<=wb.heap.size:=(by have:=aA.size;omega);obtain⟨m,hm⟩:=Int.eq_ofNat_of_zero_le fB.out.1.2.1;have dF:m<p.n:=(by have:=fB.out.1.2.2.1;omega);have eF:(m:Int)<(p.n:Int):=(by omega);have aD:(zU (p.s k) j).toNat=m:=(by rw[hm];rfl);have bE:=zF (qq HR.out fB.out.1);rw[aD]at bE;have nD:(p.s m).kn=8:=by
         have h0:=fB.out.2.1;rw[aD]at h0;rcases zGI bE.out with h | h
         ·omega
         ·exact h
        have cD:=zF nD;obtain⟨_,_,ua,uc,ha,rD⟩:=Hp.out.1.cells dF;simp only[Option.some.injEq,Addr.mk.injEq,and_true]at ha;obtain⟨rfl,rfl⟩:=ha;have rE:Hid (zp w lo hi (.slice ua 8 uc) 8 (p.s m).ks (p.s m).kb):=(by have:=rD.slot.2.1;rw[nD]at this;exact this);have pE:=zF rD;have Hm:=zF hm;have sB:=zF aD;have iA:=zC wb (.cells #[.int .i64 (zU (p.s k) j)] 2);have kB:=zF ((aB.out.zOp aA).zOp iA);have nC:=zF ((jA.out.zOp aA).zOp iA);have tB:=zA pA iA;have iF:(wb.alloc (.cells #[.int .i64 (zU (p.s k) j)] 2)).heap.size=wb.heap.size+1:=World.size_alloc _ _;have oC:=zF (World.news_of_block (heap_alloc_last wb (.cells #[.int .i64 (zU (p.s k) j)] 2)));have nF:(m0:Int)<9:=(by omega);clear rD nD hm aD iA aB jA dA aA q0 q1 k0 k1 k3 x0 x1 x2 x3;go_wp2_with (first
         | (at_builtin;refine wpList_append_lies _ rfl _ _ 34 rfl (w.heap.size+2) 2 i0 (.int .i64 0) 1 8 (by kernel_rfl) HI.out.1 HI.out.2.1 HI.out.2.2.1 HI.out.2.2.2 rfl (by decide) (.slice sa (zAL p k (p.s k) j).length sc) (zAL p k (p.s k) j).length (icl (zAL p k (p.s k) j)) rfl kB.out ⟨wb.heap.size,0,none⟩ 1 1 [.int .i64 (zU (p.s k) j)] rfl rfl oC.out (by simp[Value.oneCell']) (by decide) (by unfold maxLen;omega) (by omega) (by omega) _ rfl ?_;intro g4 iB w4 lA bA eC jC)
         | fail)
        have eE:Hid (zEo w4 (w.heap.size+2) (.slice (some ⟨g4,0,none⟩) ((zAL p k (p.s k) j).length+1) iB) (zA7 p k (p.s k) j 0)):=by
         rw[zFS];exact zEo.next lA
        have sC:Below w.heap.size w w4:=tB.grown bA tB.size (fun q hq=>by have:=kB.out.lt hq;omega);have gD:=zF (nC.out.grownT bA (fun q hq=>by have:=kB.out.lt hq;omega));have oE:w.heap.size+2<=w4.heap.size:=(by have:=bA.size;omega);have kE:(zA7 p k (p.s k) j 0).Nodup:=(by rw[zFS];exact zDI.2 ⟨oB.out,cC.out⟩);have dE:=zF kE;clear lA bA eC jC kB nC tB pA oC kE k2;obtain⟨_,_,ha,q0,q1⟩:=(cE.out.zOp sC).cellsT rA;simp only[Option.some.injEq,Addr.mk.injEq,and_true]at ha;obtain⟨rfl,rfl⟩:=ha;rw[<-zCa H8.out rA,Hm.out]at q0;obtain⟨r0,r1,r2,_⟩:=pE.out.zOp sC;rw[cD.out]at r1;obtain⟨⟨x0,x1⟩,⟨x2,x3⟩⟩:=gD.out
        go_quiet (fail)
        go_wp2
        go_loopw [5,9,11] (fun sv nv i wr=>∃(i' m1:Nat) (sa:Option Addr) (sc:Nat),i'<=8/\i = .int .i64 i'/\nv = .int .i64 m1/\m1<=i'/\(0<m1↔∃i,i<i'/\¬Nil (zU (p.s m) i) (zq (p.s m) i))/\sv = .slice sa (zA7 p k (p.s k) j i').length sc/\zEo wr (w.heap.size+2) sv (zA7 p k (p.s k) j i')/\(∀i,i<i'->Nil (zU (p.s m) i) (zq (p.s m) i)\/zA9 p (zU (p.s m) i) (zq (p.s m) i))/\(zA7 p k (p.s k) j i').Nodup/\zk wr w.heap.size (.slice (some ⟨b,off,none⟩) p.n c) (.slice a' p.hn c')/\Below w.heap.size w wr/\w.heap.size+2<=wr.heap.size) (fun _ _ i _=>8 - (intOf i).toNat)
        case atStart=>exact⟨0,0,some ⟨g4,0,none⟩,iB,Nat.zero_le _,rfl,rfl,Nat.le_refl _,⟨fun h=>absurd h (Nat.lt_irrefl _),fun ⟨i,hi,_⟩=>absurd hi (Nat.not_lt_zero _)⟩,by rw[zFS,List.length_append];rfl,eE.out.zOp (zV (Below.refl _ _) _),fun i hi=>absurd hi (Nat.not_lt_zero _),dE.out,gD.out.zOp (zV (Below.refl _ _) _),zV sC _,oE⟩
        case round=>
         obtain⟨i,m1,sa,sc,tE,rfl,rfl,mF,lB,rfl,eB,lE,dB,cB,gB,bD⟩:=hrel;have tA:=zF lB;have nA:=zF eB;have mD:=zF lE;have vA:=zF dB;have mA:=zF cB;have jE:=zNl p k (p.s k) (show j<=8 by omega) tE;clear lB eB lE dB cB eE gD sC dE x0 x1 x2 x3 q0 q1 r0 r1 r2 oE;by_cases vB:i<8
         ·have aF:(i:Int)<8:=(by omega);obtain⟨ub,bC,rfl,q0,q1⟩:=(rE.out.zOp gB).cellsT vB;rw[<-zCa cD.out vB]at q0;rw[<-zDz cD.out vB]at q1;go_wp2_with fail;refine(yN (zU (p.s m) i) (zq (p.s m) i) wr).mono ?_;rintro e W ⟨⟨t,rfl,ht⟩,hb⟩;have dA:=zA gB hb;have jA:=zF (mA.out.zOp hb);have aB:=zF (nA.out.zOp hb);have tD:w.heap.size+2<=W.heap.size:=(by have:=hb.size;omega);have lC:=(hb.cell (zD q0)).trans q0;have mC:=(hb.cell (zD q1)).trans q1;clear q0 q1 gB hb nA mA bD;have q0:=lC;have q1:=mC;clear lC mC;by_cases oA:Nil (zU (p.s m) i) (zq (p.s m) i)
          ·have mB:=zF oA;obtain rfl:t=true:=ht.2 oA;clear ht oA;have es:zA7 p k (p.s k) j (i+1)=zA7 p k (p.s k) j i:=zMr (by rw[sB.out];exact mB.out);go_wp2;go_roundw
           case rel=>
            refine⟨i+1,m1,sa,sc,by omega,by go_num,rfl,by omega,?_,by rw[es],by rw[es];exact aB.out,qE vB mD.out (Or.inl mB.out),by rw[es];exact vA.out,jA.out,dA,tD⟩;exact tA.out.trans ⟨fun ⟨i,hi,h⟩=>⟨i,by omega,h⟩,fun ⟨i',hi,h⟩=>by
             by_cases e:i'=i
             ·subst e;exact absurd mB.out h
             ·exact⟨i',by omega,h⟩⟩
           case measure=>simp[intOf];omega
          ·have mB:=zF oA;obtain rfl:t=false:=zP ht oA;clear ht oA;have fA:=zF (show(zA7 p k (p.s k) j i).length<=maxLen by unfold maxLen;omega);obtain⟨⟨x0,x1⟩,⟨x2,x3⟩⟩:=jA.out;have es:zA7 p k (p.s k) j (i+1)=zA7 p k (p.s k) j i ++ [zU (p.s m) i]:=(by have:=zMq (p:=p) (rs:=(k:Int)) (s:=p.s k) (j:=j) (i:=i) (by rw[sB.out];exact mB.out);rw[sB.out]at this;exact this);have pC:=zF es;clear es;by_cases hP:zA9 p (zU (p.s m) i) (zq (p.s m) i)
           ·have rB:=zF hP;clear hP;by_cases jB:zU (p.s m) i∈zA7 p k (p.s k) j i
            ·have sA:=zF jB;clear jB;go_wp2_with fail;refine wp_region_held_drew (S:=(fun w'=>w'.cell? ⟨w.heap.size,0,none⟩=some (.slice (some ⟨b,off,none⟩) p.n c)/\w'.cell? ⟨w.heap.size,1,none⟩=some (.slice a' p.hn c')/\w'.cell? ⟨ub,bC+i*2,none⟩=some (.int .i64 (zU (p.s m) i))/\w'.cell? ⟨ub,bC+i*2+1,none⟩=some (.int .i64 (zq (p.s m) i)))) (by kernel_rfl) ?_ (fun hHeld=>?_)
             ·(try dsimp only)
              go_keep
             refine tk 0 (h:=tk 1 (h:=tk 2 (h:=tk 3 (h:=tk 4 (h:=?_)))));refine rd [5] (rc (fun K hK=>?_) .nil);go_simp;go_at_call 164;refine(zDj _ _ lo hi p (zU (p.s m) i) (zq (p.s m) i) _ ?_).mono ?_
             ·first | exact Hp.out.zOp dA | exact Hp.out.zOp dA.drew
             rintro e wa ⟨⟨ta,rfl,gA⟩,eA⟩;obtain rfl:ta=true:=gA.2 rB.out;clear gA;have aA:Below W.heap.size W wa:=(by first | exact eA | exact zJ eA);obtain⟨⟨k0,_⟩,⟨k1,_⟩⟩:=jA.out.zOp aA;have k2:=(aA.cell (zD q0)).trans q0;have k3:=(aA.cell (zD q1)).trans q1
             (try go_wp2_with fail)
             refine hK.out _ _ (by(try dsimp only);go_keep) ?_;clear hK K hHeld;intro hHeld
             try simp only[Act.put,s1,s2,s3]
             refine tk 6 (h:=tk 7 (h:=tk 8 (h:=tk 9 (h:=tk 10 (h:=tk 11 (h:=tk 12 (h:=tk 13 (h:=?_))))))));refine rd [14] (rc (fun K hK=>?_) .nil);go_simp;go_at_call 105;refine(zAU _ _ 0 _ _ (zU (p.s m) i) _ (zE8 fA.out (aB.out.kept (zEX aA none) (by rcases Value.ownBlock _<;>simp)))).mono ?_;rintro e wb ⟨⟨pB,rfl,cA⟩,rfl⟩;rw[zEu]at cA;obtain rfl:pB=true:=cA.2 sA.out;clear cA
             (try go_wp2_with fail)
             refine hK.out _ _ (by(try dsimp only);go_keep) ?_;clear hK K hHeld;intro hHeld
             try simp only[Act.put,s1,s2,s3]
             refine tk 15 (h:=?_);refine wpAnyH_done (by kernel_rfl) ?_ _;have pA:=zA dA aA;go_wp2;go_ret;refine⟨zK.no fun h=>?_,pA⟩;have hd:=zH0 HN.out (h.resolve_left HN.out).2.2 rA (show i+1<=8 by omega) kA.out;have gE:(zA7 p k (p.s k) j (i+1)).Nodup:=hd;rw[pC.out]at gE;exact(zDI.1 gE).2 sA.out
            ·have sA:=zF jB;clear jB;go_wp2_with fail;refine wp_region_held_drew (S:=(fun w'=>w'.cell? ⟨w.heap.size,0,none⟩=some (.slice (some ⟨b,off,none⟩) p.n c)/\w'.cell? ⟨w.heap.size,1,none⟩=some (.slice a' p.hn c')/\w'.cell? ⟨ub,bC+i*2,none⟩=some (.int .i64 (zU (p.s m) i))/\w'.cell? ⟨ub,bC+i*2+1,none⟩=some (.int .i64 (zq (p.s m) i)))) (by kernel_rfl) ?_ (fun hHeld=>?_)
             ·(try dsimp only)
              go_keep
             refine tk 0 (h:=tk 1 (h:=tk 2 (h:=tk 3 (h:=tk 4 (h:=?_)))));refine rd [5] (rc (fun K hK=>?_) .nil);go_simp;go_at_call 164;refine(zDj _ _ lo hi p (zU (p.s m) i) (zq (p.s m) i) _ ?_).mono ?_
             ·first | exact Hp.out.zOp dA | exact Hp.out.zOp dA.drew
             rintro e wa ⟨⟨ta,rfl,gA⟩,eA⟩;obtain rfl:ta=true:=gA.2 rB.out;clear gA;have aA:Below W.heap.size W wa:=(by first | exact eA | exact zJ eA);obtain⟨⟨k0,_⟩,⟨k1,_⟩⟩:=jA.out.zOp aA;have k2:=(aA.cell (zD q0)).trans q0;have k3:=(aA.cell (zD q1)).trans q1
             (try go_wp2_with fail)
             refine hK.out _ _ (by(try dsimp only);go_keep) ?_;clear hK K hHeld;intro hHeld
             try simp only[Act.put,s1,s2,s3]
             refine tk 6 (h:=tk 7 (h:=tk 8 (h:=tk 9 (h:=tk 10 (h:=tk 11 (h:=tk 12 (h:=tk 13 (h:=?_))))))));refine rd [14] (rc (fun K hK=>?_) .nil);go_simp;go_at_call 105;refine(zAU _ _ 0 _ _ (zU (p.s m) i) _ (zE8 fA.out (aB.out.kept (zEX aA none) (by rcases Value.ownBlock _<;>simp)))).mono ?_;rintro e wb ⟨⟨pB,rfl,cA⟩,rfl⟩;rw[zEu]at cA;obtain rfl:pB=false:=zP cA sA.out;clear cA
             (try go_wp2_with fail)
             refine hK.out _ _ (by(try dsimp only);go_keep) ?_;clear hK K hHeld;intro hHeld
             try simp only[Act.put,s1,s2,s3]
             refine tk 15 (h:=?_);refine wpAnyH_done (by kernel_rfl) ?_ _;have pA:=zA dA aA;have jF:w.heap.size+2<=wb.heap.size:=(by have:=aA.size;omega);have iA:=zC wb (.cells #[.int .i64 (zU (p.s m) i)] 2);have kB:=zF ((aB.out.zOp aA).zOp iA);have nC:=zF ((jA.out.zOp aA).zOp iA);have tB:=zA pA iA;have iF:(wb.alloc (.cells #[.int .i64 (zU (p.s m) i)] 2)).heap.size=wb.heap.size+1:=World.size_alloc _ _;have oC:=zF (World.news_of_block (heap_alloc_last wb (.cells #[.int .i64 (zU (p.s m) i)] 2)));have cF:(m1:Int)<9:=(by omega);clear iA aB jA dA aA q0 q1 k0 k1 k3 x0 x1 x2 x3;go_wp2_with (first
              | (at_builtin;refine wpList_append_lies _ rfl _ _ 34 rfl (w.heap.size+2) 2 i0 (.int .i64 0) 1 8 (by kernel_rfl) HI.out.1 HI.out.2.1 HI.out.2.2.1 HI.out.2.2.2 rfl (by decide) (.slice sa (zA7 p k (p.s k) j i).length sc) (zA7 p k (p.s k) j i).length (icl (zA7 p k (p.s k) j i)) rfl kB.out ⟨wb.heap.size,0,none⟩ 1 1 [.int .i64 (zU (p.s m) i)] rfl rfl oC.out (by simp[Value.oneCell']) (by decide) (by unfold maxLen;omega) (by omega) (by omega) _ rfl ?_;intro g4 iB w4 lA bA eC jC)
              | go_in)
             go_roundw
             case rel=>
              refine⟨i+1,m1+1,some ⟨g4,0,none⟩,iB,by omega,by go_num,by go_num,by omega,⟨fun _=>⟨i,by omega,mB.out⟩,fun _=>by omega⟩,by rw[pC.out,List.length_append];rfl,by rw[pC.out];exact zEo.next lA,qE vB mD.out (Or.inr rB.out),by rw[pC.out];exact zDI.2 ⟨vA.out,sA.out⟩,nC.out.grownT bA (fun q hq=>by have:=kB.out.lt hq;omega),tB.grown bA tB.size (fun q hq=>by have:=kB.out.lt hq;omega),by have:=bA.size;omega⟩
             case measure=>simp[intOf];omega
           ·have rB:=zF hP;clear hP;go_wp2_with fail;refine wp_region_held_drew (S:=(fun w'=>w'.cell? ⟨w.heap.size,0,none⟩=some (.slice (some ⟨b,off,none⟩) p.n c)/\w'.cell? ⟨w.heap.size,1,none⟩=some (.slice a' p.hn c')/\w'.cell? ⟨ub,bC+i*2,none⟩=some (.int .i64 (zU (p.s m) i))/\w'.cell? ⟨ub,bC+i*2+1,none⟩=some (.int .i64 (zq (p.s m) i)))) (by kernel_rfl) ?_ (fun hHeld=>?_)
            ·(try dsimp only)
             go_keep
            refine tk 0 (h:=tk 1 (h:=tk 2 (h:=tk 3 (h:=tk 4 (h:=?_)))));refine rd [5] (rc (fun K hK=>?_) .nil);go_simp;go_at_call 164;refine(zDj _ _ lo hi p (zU (p.s m) i) (zq (p.s m) i) _ ?_).mono ?_
            ·first | exact Hp.out.zOp dA | exact Hp.out.zOp dA.drew
            rintro e wa ⟨⟨ta,rfl,gA⟩,eA⟩;obtain rfl:ta=false:=zP gA rB.out;clear gA;have aA:Below W.heap.size W wa:=(by first | exact eA | exact zJ eA);obtain⟨⟨k0,_⟩,⟨k1,_⟩⟩:=jA.out.zOp aA;have k2:=(aA.cell (zD q0)).trans q0;have k3:=(aA.cell (zD q1)).trans q1
            (try go_wp2_with fail)
            refine hK.out _ _ (by(try dsimp only);go_keep) ?_;clear hK K hHeld;intro hHeld
            try simp only[Act.put,s1,s2,s3]
            refine tk 6 (h:=tk 7 (h:=ts 8 (h:=ts 9 (h:=ts 10 (h:=ts 11 (h:=ts 12 (h:=ts 13 (h:=?_))))))));refine rd [14] (rc (fun K hK=>?_) .nil);split
            ·rename_i sD
             exact absurd (show false=true from sD) Bool.false_ne_true
            refine hK.out _ _ (by assumption) (fun hHeld=>?_);clear hK K
            try simp only[Act.put,s1,s2,s3]
            refine tk 15 (h:=?_);refine wpAnyH_done (by kernel_rfl) ?_ _;have pA:=zA dA aA;go_wp2;go_ret;refine⟨zK.no fun h=>?_,pA⟩;rcases(h.resolve_left HN.out).2.1.1 j rA with h | h
            ·exact kA.out h
            ·have h2:Nil (zU (p.s (zU (p.s k) j).toNat) i) (zq (p.s (zU (p.s k) j).toNat) i)\/zA9 p (zU (p.s (zU (p.s k) j).toNat) i) (zq (p.s (zU (p.s k) j).toNat) i):=h.2.1 i vB;rw[sB.out]at h2;rcases h2 with h2 | h2
             ·exact mB.out h2
             ·exact rB.out h2
         ·obtain rfl:i=8:=(by omega);by_cases nE:m1=0
          ·subst nE;have e0:((0:Nat):Int)=0:=rfl;go_wp2;go_ret;refine⟨zK.no fun h=>?_,gB⟩;rcases(h.resolve_left HN.out).2.1.1 j rA with h | h
           ·exact kA.out h
           ·have h2:∃i,i<8/\¬Nil (zU (p.s (zU (p.s k) j).toNat) i) (zq (p.s (zU (p.s k) j).toNat) i):=h.2.2;rw[sB.out]at h2;have:=tA.out.2 h2;omega
          ·have e0:((m1:Int) == 0)=false:=(by simp;omega);have sE:=zF (show 0<m1 by omega);have lD:Hid (zL4 p (p.s (zU (p.s k) j).toNat)):=(by rw[sB.out];exact⟨mD.out,tA.out.1 sE.out⟩);clear nE;go_wp2;go_roundw
           case rel=>
            refine⟨j+1,m0+1,sa,sc,by omega,by go_num,by go_num,by omega,⟨fun _=>⟨j,by omega,kA.out⟩,fun _=>by omega⟩,by rw[zD5 kA.out],by rw[zD5 kA.out];exact nA.out,qE rA nB.out (Or.inr ⟨fB.out,lD.out⟩),by rw[zD5 kA.out];exact vA.out,mA.out,gB,bD⟩
           case measure=>simp[intOf];omega
      ·have fB:=zF vC;clear vC;go_wp2_with fail;refine wp_region_held_drew (S:=(fun w'=>w'.cell? ⟨w.heap.size,0,none⟩=some (.slice (some ⟨b,off,none⟩) p.n c)/\w'.cell? ⟨w.heap.size,1,none⟩=some (.slice a' p.hn c')/\w'.cell? ⟨tb,aC+j*2,none⟩=some (.int .i64 (zU (p.s k) j))/\w'.cell? ⟨tb,aC+j*2+1,none⟩=some (.int .i64 (zq (p.s k) j)))) (by kernel_rfl) ?_ (fun hHeld=>?_)
       ·(try dsimp only)
        go_keep
       refine tk 0 (h:=tk 1 (h:=tk 2 (h:=tk 3 (h:=tk 4 (h:=?_)))));refine rd [5] (rc (fun K hK=>?_) .nil);go_simp;go_at_call 163;refine(zCb _ _ lo hi p (zU (p.s k) j) (zq (p.s k) j) _ ?_).mono ?_
       ·first | exact Hp.out.zOp dA | exact Hp.out.zOp dA.drew
       rintro e wa ⟨⟨ta,rfl,gA⟩,eA⟩;obtain rfl:ta=false:=zP gA fB.out;clear gA;have aA:Below W.heap.size W wa:=(by first | exact eA | exact zJ eA);obtain⟨⟨k0,_⟩,⟨k1,_⟩⟩:=jA.out.zOp aA;have k2:=(aA.cell (zD q0)).trans q0;have k3:=(aA.cell (zD q1)).trans q1
       (try go_wp2_with fail)
       refine hK.out _ _ (by(try dsimp only);go_keep) ?_;clear hK K hHeld;intro hHeld
       try simp only[Act.put,s1,s2,s3]
       refine tk 6 (h:=tk 7 (h:=ts 8 (h:=ts 9 (h:=ts 10 (h:=ts 11 (h:=ts 12 (h:=ts 13 (h:=?_))))))));refine rd [14] (rc (fun K hK=>?_) .nil);split
       ·rename_i sD
        exact absurd (show false=true from sD) Bool.false_ne_true
       refine hK.out _ _ (by assumption) (fun hHeld=>?_);clear hK K
       try simp only[Act.put,s1,s2,s3]
       refine tk 15 (h:=?_);refine wpAnyH_done (by kernel_rfl) ?_ _;have pA:=zA dA aA;go_wp2;go_ret;refine⟨zK.no fun h=>?_,pA⟩;rcases(h.resolve_left HN.out).2.1.1 j rA with h | h
       ·exact kA.out h
       ·exact fB.out h.1
    ·obtain rfl:j=8:=(by omega);go_wp2;go_ret;refine⟨⟨_,rfl,?_⟩,gB⟩;have hc:=dC.out;constructor
     ·intro h;refine Or.inr ⟨iD.out,⟨nB.out,hc.1 (by simpa using h)⟩,?_⟩;rw[zHO HN.out];exact oB.out
     ·intro h;have:=hc.2 (h.resolve_left HN.out).2.1.2;simpa using this
  ·have iD:=zF bB;obtain rfl:t=false:=zP ht bB;clear ht bB;go_wp2;go_ret;exact⟨zK.no fun h=>(h.resolve_left HN.out).1 |> iD.out,oD⟩
end Go.Proofs.YtgabgheflgjgiaaGreatDoor
