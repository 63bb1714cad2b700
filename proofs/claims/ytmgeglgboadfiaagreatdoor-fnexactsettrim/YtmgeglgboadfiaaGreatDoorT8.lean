/- What spec.l02Right and spec.TreeRight answer. -/
import Derived.Test.YtmgeglgboadfiaaGreatDoorT7
set_option linter.unusedVariables false
set_option maxRecDepth 20000
set_option maxHeartbeats 4000000
namespace Go.Proofs.YtmgeglgboadfiaaGreatDoor
open Go.RowKit
theorem zPT:(Tryz.prog.info? 2).map(fun i=>(i.zero,i.size,i.bytes))=some(some(.int .i64 0),1,8):=by kernel_rfl
def zFy(w:World)(base:Nat)(v:Value)(l:List Int):Prop:=w.ownsRow base 2 1 v l.length(icl l)
theorem zFy.zRJ{w w1:World}{base:Nat}{v:Value}{l:List Int}(h:zFy w base v l)(hb:Below w.heap.size w w1):zFy w1 base v l:=
 World.ownsRow.kept h(yu hb none)(by cases v.ownBlock<;>simp)
theorem zFy.next{w2:World}{base g aA:Nat}{l:List Int}{x:Int}(h:w2.ownsRow base 2 1(.slice(some ⟨g,0,none⟩)(l.length+1) aA)(l.length+1)(icl l ++ [.int .i64 x])):zFy w2 base(.slice(some ⟨g,0,none⟩)(l.length+1) aA)(l ++ [x]):=by
 unfold zFy;rw [zMq,List.length_append];exact h
theorem zFy.lt{w:World}{base:Nat}{v:Value}{l:List Int}(h:zFy w base v l){q:Nat}(hq:v.ownBlock=some q):base<=q:=by
 rcases h.2 with⟨rfl,_⟩ | ⟨g,cap,cur,rfl,hb,hg,_⟩
 ·simp [Value.ownBlock] at hq
 ·simp only [Value.ownBlock,Option.some.injEq] at hq;subst hq;exact hb
theorem zc.grownT{w w1:World}{b:Nat}{x y:Value}{row:Option Nat}(h:zc w b x y)(hg:w.grownBy w1 row)(aA:∀q,row=some q->b<q):zc w1 b x y:=
 h.zRR(S:=fun k=>row=some k) ⟨hg.os,hg.tape,hg.output,hg.size,fun k hk aA=>hg.block k hk(fun e=>aA e.symm)⟩(fun e=>by have:=aA b e;omega)
theorem zCD(v0 v1:Value)(lo hi:Nat)(p:zJ)(xs xb:Int)(w:World)(h1:zy w lo hi v0 v1 p)(hR:zv p) :
  Calls Tryz.prog 71 #[.agg #[v0,v1],.agg #[.int .i64 xs,.int .i64 xb]] w fun e w'=>zG(qF p xs xb) e/\Below w.heap.size w w':=by
 have Hp:=zE h1;have HR:=zE hR;obtain⟨a,c,a',c',rfl,rfl⟩:∃a c a' c',v0 = .slice a p.n c/\v1 = .slice a' p.hn c':=by
  obtain⟨⟨_,a,c,h1,_⟩,⟨_,a',c',h3,_⟩⟩:=h1;exact⟨a,c,a',c',h1,h3⟩
 clear h1 hR;have mD:=zBx w(.slice a p.n c)(.slice a' p.hn c')(.int .i64 xs)(.int .i64 xb) 33 61;obtain⟨i0,hi0,hzz⟩:=Option.map_eq_some_iff.1 zPT;simp only [Prod.mk.injEq] at hzz;have HI:=zE(And.intro hi0 hzz);clear hi0 hzz;go_enter Tryz.func71,Tryz.ntmps71;go_wp2_with fail;generalize(w.alloc(.cells #[.slice a p.n c,.slice a' p.hn c'] 33)).alloc(.cells #[.int .i64 xs,.int .i64 xb] 61)=W at mD ⊢;obtain⟨hB,hX,hba,hz⟩:=mD;refine(ye xs xb W).mono ?_;rintro e w1 ⟨⟨t,rfl,ht⟩,hb1⟩;have nC:=zE(hB.zRJ hb1);have tC:=zE(hX.zRJ hb1);have vB:=zA hba hb1;have pD:=hb1.size;clear hB hX hba hb1;by_cases hn:Nil xs xb
 ·have HN:=zE hn;obtain rfl:t=true:=ht.2 hn;clear ht hn;go_wp2;go_ret;exact⟨zG.yes(Or.inl HN.out),vB⟩
 ·have HN:=zE hn;obtain rfl:t=false:=zQ ht hn;clear ht hn;obtain⟨⟨x0,x1⟩,⟨x2,x3⟩⟩:=nC.out;obtain⟨⟨y0,y1⟩,⟨y2,y3⟩⟩:=tC.out;go_wp2_with fail;refine(zCv _ _ lo hi p xs xb _(Hp.out.zRJ vB)).mono ?_;rintro e w2 ⟨⟨t,rfl,ht⟩,hb2⟩;have jC:=zE(nC.out.zRJ hb2);have pC:=zE(tC.out.zRJ hb2);have aD:=zA vB hb2;have sD:w.heap.size+2<=w2.heap.size:=(by have:=hb2.size;omega);clear hb2 vB nC tC x0 x1 x2 x3 y0 y1 y2 y3 hz pD;by_cases pA:zAy p xs xb
  ·have sC:=zE pA;obtain rfl:t=true:=ht.2 pA;have Hf:=zE(qV HR.out pA.1);have h8:(p.s xs.toNat).kn=8:=by rcases zDD HR.out pA.1 with h | h;(have:=pA.2.1;omega);exact h
   obtain⟨k,rfl⟩:=Int.eq_ofNat_of_zero_le pA.1.2.1;have hk:k<p.n:=(by have:=pA.1.2.2.1;omega);have iE:(k:Int)<(p.n:Int):=(by omega);rw [Int.toNat_natCast] at Hf h8;have H8:=zE h8;clear ht pA;obtain⟨b,off,ka,kc,rfl,hsc⟩:=Hp.out.1.cells hk;have iD:Hid(zR w lo hi(.slice ka 8 kc) 8(p.s k).ks(p.s k).kb):=(by have:=hsc.slot.2.1;rw [h8] at this;exact this);obtain⟨q0,q1,q2,_⟩:=hsc.zRJ aD;rw [h8] at q1;clear h8 hsc;obtain⟨⟨x0,x1⟩,⟨x2,x3⟩⟩:=jC.out;obtain⟨⟨y0,y1⟩,⟨y2,y3⟩⟩:=pC.out;have eA:=zC w2(.cells #[.int .i64(k:Int)] 2);have gD:=zE(show zFy(w2.alloc(.cells #[.int .i64(k:Int)] 2))(w.heap.size+2)(.slice(some ⟨w2.heap.size,0,none⟩) 1 1)(zAL p k(p.s k) 0)from World.ownsRow_lit(e:=2)(size:=1) w2 #[.int .i64(k:Int)] 1 sD(by unfold maxLen;omega) rfl);have gC:=zE(jC.out.zRJ eA);have dD:=zA aD eA;have c0:=(eA.cell(zD q0)).trans q0;have c1:=(eA.cell(zD q1)).trans q1;obtain⟨⟨z0,z1⟩,⟨z2,z3⟩⟩:=gC.out;obtain⟨⟨z4,z5⟩,⟨z6,z7⟩⟩:=pC.out.zRJ eA;clear eA;go_wp2
   go_loopw [5,6,8](fun sv nv i wr=>∃(j m:Nat)(sa:Option Addr)(sc:Nat),j<=8/\i = .int .i64 j/\nv = .int .i64 m/\m<=j/\(0<m↔∃i,i<j/\¬Nil(zb(p.s k) i)(zu(p.s k) i))/\sv = .slice sa(zAL p k(p.s k) j).length sc/\zFy wr(w.heap.size+2) sv(zAL p k(p.s k) j)/\(∀i,i<j->zQW p(p.s k) i)/\(zAL p k(p.s k) j).Nodup/\zc wr w.heap.size(.slice(some ⟨b,off,none⟩) p.n c)(.slice a' p.hn c')/\Below w.heap.size w wr/\w.heap.size+2<=wr.heap.size)(fun _ _ i _=>8 - (intOf i).toNat)
   case atStart=>exact⟨0,0,_,_,Nat.zero_le _,rfl,rfl,Nat.le_refl _,⟨fun h=>absurd h(Nat.lt_irrefl _),fun ⟨i,hi,_⟩=>absurd hi(Nat.not_lt_zero _)⟩,rfl,gD.out,fun i hi=>absurd hi(Nat.not_lt_zero _),by simp [zAL,zAv,yK],gC.out,dD,by rw [World.size_alloc];omega⟩
   case round=>
    obtain⟨j,m0,sa,sc,hj,rfl,rfl,hm0,hcnt,rfl,hrow,hmid,hnod,hbox,hbr,hzr⟩:=hrel;have sB:=zE hcnt;have kA:=zE hrow;have eB:=zE hmid;have dB:=zE hnod;have jA:=zE hbox;have aE:=zLD p k(p.s k) hj;clear hcnt hrow hmid hnod hbox gD gC dD c0 c1 z0 z1 z2 z3 z4 z5 z6 z7 x0 x1 x2 x3 y0 y1 y2 y3 q0 q1 q2 jC pC;by_cases mA:j<8
    ·have eE:(j:Int)<8:=(by omega);obtain⟨tb,tof,rfl,q0,q1⟩:=(iD.out.zRJ hbr).cellsT mA;rw [<-zCz H8.out mA] at q0;rw [<-zEi H8.out mA] at q1;go_wp2_with fail;refine(ye(zb(p.s k) j)(zu(p.s k) j) wr).mono ?_;rintro e W ⟨⟨t,rfl,ht⟩,hb⟩;have cA:=zA hbr hb;have gA:=zE(jA.out.zRJ hb);have oA:=zE(kA.out.zRJ hb);have kC:w.heap.size+2<=W.heap.size:=(by have:=hb.size;omega);have mB:=(hb.cell(zD q0)).trans q0;have pB:=(hb.cell(zD q1)).trans q1;clear q0 q1 hbr hb kA jA hzr;have q0:=mB;have q1:=pB;clear mB pB;by_cases lA:Nil(zb(p.s k) j)(zu(p.s k) j)
     ·have fA:=zE lA;obtain rfl:t=true:=ht.2 lA;clear ht lA;go_wp2;go_roundw
      case rel=>
       refine⟨j+1,m0,sa,sc,by omega,by go_num,rfl,by omega,?_,by rw [zGj fA.out],by rw [zGj fA.out];exact oA.out,zo mA eB.out(Or.inl fA.out),by rw [zGj fA.out];exact dB.out,gA.out,cA,kC⟩;exact sB.out.trans ⟨fun ⟨i,hi,h⟩=>⟨i,by omega,h⟩,fun ⟨i,hi,h⟩=>by
        by_cases e:i=j
        ·subst e;exact absurd fA.out h
        ·exact⟨i,by omega,h⟩⟩
      case measure=>simp [intOf];omega
     ·have fA:=zE lA;obtain rfl:t=false:=zQ ht lA;clear ht lA;have dA:=zE(show(zAL p k(p.s k) j).length<=maxLen by unfold maxLen;omega);obtain⟨⟨x0,x1⟩,⟨x2,x3⟩⟩:=gA.out;by_cases cC:zAy p(zb(p.s k) j)(zu(p.s k) j)
      ·have vA:=zE cC;clear cC;by_cases bC:zb(p.s k) j∈zAL p k(p.s k) j
       ·have nB:=zE bC;clear bC;go_wp2_with fail;refine wp_region_held_drew(S:=(fun w'=>w'.cell? ⟨w.heap.size,0,none⟩=some(.slice(some ⟨b,off,none⟩) p.n c)/\w'.cell? ⟨w.heap.size,1,none⟩=some(.slice a' p.hn c')/\w'.cell? ⟨tb,tof+j*2,none⟩=some(.int .i64(zb(p.s k) j))/\w'.cell? ⟨tb,tof+j*2+1,none⟩=some(.int .i64(zu(p.s k) j))))(by kernel_rfl) ?_(fun hHeld=>?_)
        ·(try dsimp only)
         go_keep
        refine tk 0(h:=tk 1(h:=tk 2(h:=tk 3(h:=tk 4(h:=?_)))));refine rd [5](rc(fun K hK=>?_) .nil);go_simp;go_at_call 139;refine(zCv _ _ lo hi p(zb(p.s k) j)(zu(p.s k) j) _ ?_).mono ?_
        ·first | exact Hp.out.zRJ cA | exact Hp.out.zRJ cA.drew
        rintro e wa ⟨⟨ta,rfl,hta⟩,hba⟩;obtain rfl:ta=true:=hta.2 vA.out;clear hta;have aA:Below W.heap.size W wa:=(by first | exact hba | exact zK hba);obtain⟨⟨k0,_⟩,⟨k1,_⟩⟩:=gA.out.zRJ aA;have k2:=(aA.cell(zD q0)).trans q0;have k3:=(aA.cell(zD q1)).trans q1
        (try go_wp2_with fail)
        refine hK.out _ _(by(try dsimp only);go_keep) ?_;clear hK K hHeld;intro hHeld
        try simp only [Act.put,s1,s2,s3]
        refine tk 6(h:=tk 7(h:=tk 8(h:=tk 9(h:=tk 10(h:=tk 11(h:=tk 12(h:=tk 13(h:=?_))))))));refine rd [14](rc(fun K hK=>?_) .nil);go_simp;go_at_call 75;refine(zAR _ _ 0 _ _(zb(p.s k) j) _(zF0 dA.out(oA.out.kept(yu aA none)(by rcases Value.ownBlock _<;>simp)))).mono ?_;rintro e wb ⟨⟨fB,rfl,htb2⟩,rfl⟩;rw [zFj] at htb2;obtain rfl:fB=true:=htb2.2 nB.out;clear htb2
        (try go_wp2_with fail)
        refine hK.out _ _(by(try dsimp only);go_keep) ?_;clear hK K hHeld;intro hHeld
        try simp only [Act.put,s1,s2,s3]
        refine tk 15(h:=?_);refine wpAnyH_done(by kernel_rfl) ?_ _;have nA:=zA cA aA;go_wp2;go_ret;refine⟨zG.no fun h=>?_,nA⟩;have hd:=zJM HN.out(h.resolve_left HN.out).2.2 mA(Nat.zero_le _) fA.out;exact(zDc.1(show(zAL p k(p.s k) j ++ [zb(p.s k) j]).Nodup from hd)).2 nB.out
       ·have nB:=zE bC;clear bC;go_wp2_with fail;refine wp_region_held_drew(S:=(fun w'=>w'.cell? ⟨w.heap.size,0,none⟩=some(.slice(some ⟨b,off,none⟩) p.n c)/\w'.cell? ⟨w.heap.size,1,none⟩=some(.slice a' p.hn c')/\w'.cell? ⟨tb,tof+j*2,none⟩=some(.int .i64(zb(p.s k) j))/\w'.cell? ⟨tb,tof+j*2+1,none⟩=some(.int .i64(zu(p.s k) j))))(by kernel_rfl) ?_(fun hHeld=>?_)
        ·(try dsimp only)
         go_keep
        refine tk 0(h:=tk 1(h:=tk 2(h:=tk 3(h:=tk 4(h:=?_)))));refine rd [5](rc(fun K hK=>?_) .nil);go_simp;go_at_call 139;refine(zCv _ _ lo hi p(zb(p.s k) j)(zu(p.s k) j) _ ?_).mono ?_
        ·first | exact Hp.out.zRJ cA | exact Hp.out.zRJ cA.drew
        rintro e wa ⟨⟨ta,rfl,hta⟩,hba⟩;obtain rfl:ta=true:=hta.2 vA.out;clear hta;have aA:Below W.heap.size W wa:=(by first | exact hba | exact zK hba);obtain⟨⟨k0,_⟩,⟨k1,_⟩⟩:=gA.out.zRJ aA;have k2:=(aA.cell(zD q0)).trans q0;have k3:=(aA.cell(zD q1)).trans q1
        (try go_wp2_with fail)
        refine hK.out _ _(by(try dsimp only);go_keep) ?_;clear hK K hHeld;intro hHeld
        try simp only [Act.put,s1,s2,s3]
        refine tk 6(h:=tk 7(h:=tk 8(h:=tk 9(h:=tk 10(h:=tk 11(h:=tk 12(h:=tk 13(h:=?_))))))));refine rd [14](rc(fun K hK=>?_) .nil);go_simp;go_at_call 75;refine(zAR _ _ 0 _ _(zb(p.s k) j) _(zF0 dA.out(oA.out.kept(yu aA none)(by rcases Value.ownBlock _<;>simp)))).mono ?_;rintro e wb ⟨⟨fB,rfl,htb2⟩,rfl⟩;rw [zFj] at htb2;obtain rfl:fB=false:=zQ htb2 nB.out;clear htb2
        (try go_wp2_with fail)
        refine hK.out _ _(by(try dsimp only);go_keep) ?_;clear hK K hHeld;intro hHeld
        try simp only [Act.put,s1,s2,s3]
        refine tk 15(h:=?_);refine wpAnyH_done(by kernel_rfl) ?_ _;have nA:=zA cA aA;have tD:w.heap.size+2<=wb.heap.size:=(by have:=aA.size;omega);obtain⟨m,hm⟩:=Int.eq_ofNat_of_zero_le vA.out.1.2.1;have bE:m<p.n:=(by have:=vA.out.1.2.2.1;omega);have cE:(m:Int)<(p.n:Int):=(by omega);have tB:(zb(p.s k) j).toNat=m:=(by rw [hm];rfl);have kD:=zE(qV HR.out vA.out.1);rw [tB] at kD;have mC:(p.s m).kn=8:=by
         have h0:=vA.out.2.1;rw [tB] at h0;rcases zEl kD.out with h | h
         ·omega
         ·exact h
        have iC:=zE mC;obtain⟨_,_,ua,uc,ha,hsm⟩:=Hp.out.1.cells bE;simp only [Option.some.injEq,Addr.mk.injEq,and_true] at ha;obtain⟨rfl,rfl⟩:=ha;have gE:Hid(zR w lo hi(.slice ua 8 uc) 8(p.s m).ks(p.s m).kb):=(by have:=hsm.slot.2.1;rw [mC] at this;exact this);have vD:=zE hsm;have Hm:=zE hm;have jB:=zE tB;have eA:=zC wb(.cells #[.int .i64(zb(p.s k) j)] 2);have cB:=zE((oA.out.zRJ aA).zRJ eA);have fC:=zE((gA.out.zRJ aA).zRJ eA);have kB:=zA nA eA;have rD:(wb.alloc(.cells #[.int .i64(zb(p.s k) j)] 2)).heap.size=wb.heap.size+1:=World.size_alloc _ _;have dC:=zE(World.news_of_block(heap_alloc_last wb(.cells #[.int .i64(zb(p.s k) j)] 2)));have jE:(m0:Int)<9:=(by omega);clear hsm mC hm tB eA oA gA cA aA q0 q1 k0 k1 k3 x0 x1 x2 x3;go_wp2_with(first
         |(at_builtin;refine wpList_append_lies _ rfl _ _ 23 rfl(w.heap.size+2) 2 i0(.int .i64 0) 1 8(by kernel_rfl) HI.out.1 HI.out.2.1 HI.out.2.2.1 HI.out.2.2.2 rfl(by decide)(.slice sa(zAL p k(p.s k) j).length sc)(zAL p k(p.s k) j).length(icl(zAL p k(p.s k) j)) rfl cB.out ⟨wb.heap.size,0,none⟩ 1 1 [.int .i64(zb(p.s k) j)] rfl rfl dC.out(by simp [Value.oneCell'])(by decide)(by unfold maxLen;omega)(by omega)(by omega) _ rfl ?_;intro g4 bB w4 iA bA oB rB)
         |fail)
        have jD:Hid(zFy w4(w.heap.size+2)(.slice(some ⟨g4,0,none⟩)((zAL p k(p.s k) j).length+1) bB)(zBN p k(p.s k) j 0)):=by
         rw [zGd];exact zFy.next iA
        have eC:Below w.heap.size w w4:=kB.grown bA kB.size(fun q hq=>by have:=cB.out.lt hq;omega);have rC:=zE(fC.out.grownT bA(fun q hq=>by have:=cB.out.lt hq;omega));have eD:w.heap.size+2<=w4.heap.size:=(by have:=bA.size;omega);have lD:(zBN p k(p.s k) j 0).Nodup:=(by rw [zGd];exact zDc.2 ⟨dB.out,nB.out⟩);have bD:=zE lD;clear iA bA oB rB cB fC kB nA dC lD k2;obtain⟨_,_,ha,q0,q1⟩:=(iD.out.zRJ eC).cellsT mA;simp only [Option.some.injEq,Addr.mk.injEq,and_true] at ha;obtain⟨rfl,rfl⟩:=ha;rw [<-zCz H8.out mA,Hm.out] at q0;obtain⟨r0,r1,r2,_⟩:=vD.out.zRJ eC;rw [iC.out] at r1;obtain⟨⟨x0,x1⟩,⟨x2,x3⟩⟩:=rC.out
        go_quiet(fail)
        go_wp2
        go_loopw [5,9,11](fun sv nv i wr=>∃(i' m1:Nat)(sa:Option Addr)(sc:Nat),i'<=8/\i = .int .i64 i'/\nv = .int .i64 m1/\m1<=i'/\(0<m1↔∃i,i<i'/\¬Nil(zb(p.s m) i)(zu(p.s m) i))/\sv = .slice sa(zBN p k(p.s k) j i').length sc/\zFy wr(w.heap.size+2) sv(zBN p k(p.s k) j i')/\(∀i,i<i'->Nil(zb(p.s m) i)(zu(p.s m) i)\/zD6 p(zb(p.s m) i)(zu(p.s m) i))/\(zBN p k(p.s k) j i').Nodup/\zc wr w.heap.size(.slice(some ⟨b,off,none⟩) p.n c)(.slice a' p.hn c')/\Below w.heap.size w wr/\w.heap.size+2<=wr.heap.size)(fun _ _ i _=>8 - (intOf i).toNat)
        case atStart=>exact⟨0,0,some ⟨g4,0,none⟩,bB,Nat.zero_le _,rfl,rfl,Nat.le_refl _,⟨fun h=>absurd h(Nat.lt_irrefl _),fun ⟨i,hi,_⟩=>absurd hi(Nat.not_lt_zero _)⟩,by rw [zGd,List.length_append];rfl,jD.out.zRJ(zg(Below.refl _ _) _),fun i hi=>absurd hi(Nat.not_lt_zero _),bD.out,rC.out.zRJ(zg(Below.refl _ _) _),zg eC _,eD⟩
        case round=>
         obtain⟨i,m1,sa,sc,hi8,rfl,rfl,hm1,hcnt1,rfl,hrow,hpg,hnod,hbox,hbr,hzr⟩:=hrel;have sA:=zE hcnt1;have kA:=zE hrow;have vC:=zE hpg;have tA:=zE hnod;have jA:=zE hbox;have fD:=zQA p k(p.s k)(show j<=8 by omega) hi8;clear hcnt1 hrow hpg hnod hbox jD rC eC bD x0 x1 x2 x3 q0 q1 r0 r1 r2 eD;by_cases iB:i<8
         ·have fE:(i:Int)<8:=(by omega);obtain⟨ub,uof,rfl,q0,q1⟩:=(gE.out.zRJ hbr).cellsT iB;rw [<-zCz iC.out iB] at q0;rw [<-zEi iC.out iB] at q1;go_wp2_with fail;refine(ye(zb(p.s m) i)(zu(p.s m) i) wr).mono ?_;rintro e W ⟨⟨t,rfl,ht⟩,hb⟩;have cA:=zA hbr hb;have gA:=zE(jA.out.zRJ hb);have oA:=zE(kA.out.zRJ hb);have kC:w.heap.size+2<=W.heap.size:=(by have:=hb.size;omega);have mB:=(hb.cell(zD q0)).trans q0;have pB:=(hb.cell(zD q1)).trans q1;clear q0 q1 hbr hb kA jA hzr;have q0:=mB;have q1:=pB;clear mB pB;by_cases lA:Nil(zb(p.s m) i)(zu(p.s m) i)
          ·have gB:=zE lA;obtain rfl:t=true:=ht.2 lA;clear ht lA;have es:zBN p k(p.s k) j(i+1)=zBN p k(p.s k) j i:=zPc(by rw [jB.out];exact gB.out);go_wp2;go_roundw
           case rel=>
            refine⟨i+1,m1,sa,sc,by omega,by go_num,rfl,by omega,?_,by rw [es],by rw [es];exact oA.out,zo iB vC.out(Or.inl gB.out),by rw [es];exact tA.out,gA.out,cA,kC⟩;exact sA.out.trans ⟨fun ⟨i,hi,h⟩=>⟨i,by omega,h⟩,fun ⟨i',hi,h⟩=>by
             by_cases e:i'=i
             ·subst e;exact absurd gB.out h
             ·exact⟨i',by omega,h⟩⟩
           case measure=>simp [intOf];omega
          ·have gB:=zE lA;obtain rfl:t=false:=zQ ht lA;clear ht lA;have dA:=zE(show(zBN p k(p.s k) j i).length<=maxLen by unfold maxLen;omega);obtain⟨⟨x0,x1⟩,⟨x2,x3⟩⟩:=gA.out;have es:zBN p k(p.s k) j(i+1)=zBN p k(p.s k) j i ++ [zb(p.s m) i]:=(by have:=zPo(p:=p)(rs:=(k:Int))(s:=p.s k)(j:=j)(i:=i)(by rw [jB.out];exact gB.out);rw [jB.out] at this;exact this);have aC:=zE es;clear es;by_cases hP:zD6 p(zb(p.s m) i)(zu(p.s m) i)
           ·have lB:=zE hP;clear hP;by_cases aB:zb(p.s m) i∈zBN p k(p.s k) j i
            ·have rA:=zE aB;clear aB;go_wp2_with fail;refine wp_region_held_drew(S:=(fun w'=>w'.cell? ⟨w.heap.size,0,none⟩=some(.slice(some ⟨b,off,none⟩) p.n c)/\w'.cell? ⟨w.heap.size,1,none⟩=some(.slice a' p.hn c')/\w'.cell? ⟨ub,uof+i*2,none⟩=some(.int .i64(zb(p.s m) i))/\w'.cell? ⟨ub,uof+i*2+1,none⟩=some(.int .i64(zu(p.s m) i))))(by kernel_rfl) ?_(fun hHeld=>?_)
             ·(try dsimp only)
              go_keep
             refine tk 0(h:=tk 1(h:=tk 2(h:=tk 3(h:=tk 4(h:=?_)))));refine rd [5](rc(fun K hK=>?_) .nil);go_simp;go_at_call 140;refine(zEJ _ _ lo hi p(zb(p.s m) i)(zu(p.s m) i) _ ?_).mono ?_
             ·first | exact Hp.out.zRJ cA | exact Hp.out.zRJ cA.drew
             rintro e wa ⟨⟨ta,rfl,hta⟩,hba⟩;obtain rfl:ta=true:=hta.2 lB.out;clear hta;have aA:Below W.heap.size W wa:=(by first | exact hba | exact zK hba);obtain⟨⟨k0,_⟩,⟨k1,_⟩⟩:=gA.out.zRJ aA;have k2:=(aA.cell(zD q0)).trans q0;have k3:=(aA.cell(zD q1)).trans q1
             (try go_wp2_with fail)
             refine hK.out _ _(by(try dsimp only);go_keep) ?_;clear hK K hHeld;intro hHeld
             try simp only [Act.put,s1,s2,s3]
             refine tk 6(h:=tk 7(h:=tk 8(h:=tk 9(h:=tk 10(h:=tk 11(h:=tk 12(h:=tk 13(h:=?_))))))));refine rd [14](rc(fun K hK=>?_) .nil);go_simp;go_at_call 75;refine(zAR _ _ 0 _ _(zb(p.s m) i) _(zF0 dA.out(oA.out.kept(yu aA none)(by rcases Value.ownBlock _<;>simp)))).mono ?_;rintro e wb ⟨⟨fB,rfl,htb2⟩,rfl⟩;rw [zFj] at htb2;obtain rfl:fB=true:=htb2.2 rA.out;clear htb2
             (try go_wp2_with fail)
             refine hK.out _ _(by(try dsimp only);go_keep) ?_;clear hK K hHeld;intro hHeld
             try simp only [Act.put,s1,s2,s3]
             refine tk 15(h:=?_);refine wpAnyH_done(by kernel_rfl) ?_ _;have nA:=zA cA aA;go_wp2;go_ret;refine⟨zG.no fun h=>?_,nA⟩;have hd:=zJM HN.out(h.resolve_left HN.out).2.2 mA(show i+1<=8 by omega) fA.out;have cD:(zBN p k(p.s k) j(i+1)).Nodup:=hd;rw [aC.out] at cD;exact(zDc.1 cD).2 rA.out
            ·have rA:=zE aB;clear aB;go_wp2_with fail;refine wp_region_held_drew(S:=(fun w'=>w'.cell? ⟨w.heap.size,0,none⟩=some(.slice(some ⟨b,off,none⟩) p.n c)/\w'.cell? ⟨w.heap.size,1,none⟩=some(.slice a' p.hn c')/\w'.cell? ⟨ub,uof+i*2,none⟩=some(.int .i64(zb(p.s m) i))/\w'.cell? ⟨ub,uof+i*2+1,none⟩=some(.int .i64(zu(p.s m) i))))(by kernel_rfl) ?_(fun hHeld=>?_)
             ·(try dsimp only)
              go_keep
             refine tk 0(h:=tk 1(h:=tk 2(h:=tk 3(h:=tk 4(h:=?_)))));refine rd [5](rc(fun K hK=>?_) .nil);go_simp;go_at_call 140;refine(zEJ _ _ lo hi p(zb(p.s m) i)(zu(p.s m) i) _ ?_).mono ?_
             ·first | exact Hp.out.zRJ cA | exact Hp.out.zRJ cA.drew
             rintro e wa ⟨⟨ta,rfl,hta⟩,hba⟩;obtain rfl:ta=true:=hta.2 lB.out;clear hta;have aA:Below W.heap.size W wa:=(by first | exact hba | exact zK hba);obtain⟨⟨k0,_⟩,⟨k1,_⟩⟩:=gA.out.zRJ aA;have k2:=(aA.cell(zD q0)).trans q0;have k3:=(aA.cell(zD q1)).trans q1
             (try go_wp2_with fail)
             refine hK.out _ _(by(try dsimp only);go_keep) ?_;clear hK K hHeld;intro hHeld
             try simp only [Act.put,s1,s2,s3]
             refine tk 6(h:=tk 7(h:=tk 8(h:=tk 9(h:=tk 10(h:=tk 11(h:=tk 12(h:=tk 13(h:=?_))))))));refine rd [14](rc(fun K hK=>?_) .nil);go_simp;go_at_call 75;refine(zAR _ _ 0 _ _(zb(p.s m) i) _(zF0 dA.out(oA.out.kept(yu aA none)(by rcases Value.ownBlock _<;>simp)))).mono ?_;rintro e wb ⟨⟨fB,rfl,htb2⟩,rfl⟩;rw [zFj] at htb2;obtain rfl:fB=false:=zQ htb2 rA.out;clear htb2
             (try go_wp2_with fail)
             refine hK.out _ _(by(try dsimp only);go_keep) ?_;clear hK K hHeld;intro hHeld
             try simp only [Act.put,s1,s2,s3]
             refine tk 15(h:=?_);refine wpAnyH_done(by kernel_rfl) ?_ _;have nA:=zA cA aA;have tD:w.heap.size+2<=wb.heap.size:=(by have:=aA.size;omega);have eA:=zC wb(.cells #[.int .i64(zb(p.s m) i)] 2);have cB:=zE((oA.out.zRJ aA).zRJ eA);have fC:=zE((gA.out.zRJ aA).zRJ eA);have kB:=zA nA eA;have rD:(wb.alloc(.cells #[.int .i64(zb(p.s m) i)] 2)).heap.size=wb.heap.size+1:=World.size_alloc _ _;have dC:=zE(World.news_of_block(heap_alloc_last wb(.cells #[.int .i64(zb(p.s m) i)] 2)));have dE:(m1:Int)<9:=(by omega);clear eA oA gA cA aA q0 q1 k0 k1 k3 x0 x1 x2 x3;go_wp2_with(first
              |(at_builtin;refine wpList_append_lies _ rfl _ _ 23 rfl(w.heap.size+2) 2 i0(.int .i64 0) 1 8(by kernel_rfl) HI.out.1 HI.out.2.1 HI.out.2.2.1 HI.out.2.2.2 rfl(by decide)(.slice sa(zBN p k(p.s k) j i).length sc)(zBN p k(p.s k) j i).length(icl(zBN p k(p.s k) j i)) rfl cB.out ⟨wb.heap.size,0,none⟩ 1 1 [.int .i64(zb(p.s m) i)] rfl rfl dC.out(by simp [Value.oneCell'])(by decide)(by unfold maxLen;omega)(by omega)(by omega) _ rfl ?_;intro g4 bB w4 iA bA oB rB)
              |go_in)
             go_roundw
             case rel=>
              refine⟨i+1,m1+1,some ⟨g4,0,none⟩,bB,by omega,by go_num,by go_num,by omega,⟨fun _=>⟨i,by omega,gB.out⟩,fun _=>by omega⟩,by rw [aC.out,List.length_append];rfl,by rw [aC.out];exact zFy.next iA,zo iB vC.out(Or.inr lB.out),by rw [aC.out];exact zDc.2 ⟨tA.out,rA.out⟩,fC.out.grownT bA(fun q hq=>by have:=cB.out.lt hq;omega),kB.grown bA kB.size(fun q hq=>by have:=cB.out.lt hq;omega),by have:=bA.size;omega⟩
             case measure=>simp [intOf];omega
           ·have lB:=zE hP;clear hP;go_wp2_with fail;refine wp_region_held_drew(S:=(fun w'=>w'.cell? ⟨w.heap.size,0,none⟩=some(.slice(some ⟨b,off,none⟩) p.n c)/\w'.cell? ⟨w.heap.size,1,none⟩=some(.slice a' p.hn c')/\w'.cell? ⟨ub,uof+i*2,none⟩=some(.int .i64(zb(p.s m) i))/\w'.cell? ⟨ub,uof+i*2+1,none⟩=some(.int .i64(zu(p.s m) i))))(by kernel_rfl) ?_(fun hHeld=>?_)
            ·(try dsimp only)
             go_keep
            refine tk 0(h:=tk 1(h:=tk 2(h:=tk 3(h:=tk 4(h:=?_)))));refine rd [5](rc(fun K hK=>?_) .nil);go_simp;go_at_call 140;refine(zEJ _ _ lo hi p(zb(p.s m) i)(zu(p.s m) i) _ ?_).mono ?_
            ·first | exact Hp.out.zRJ cA | exact Hp.out.zRJ cA.drew
            rintro e wa ⟨⟨ta,rfl,hta⟩,hba⟩;obtain rfl:ta=false:=zQ hta lB.out;clear hta;have aA:Below W.heap.size W wa:=(by first | exact hba | exact zK hba);obtain⟨⟨k0,_⟩,⟨k1,_⟩⟩:=gA.out.zRJ aA;have k2:=(aA.cell(zD q0)).trans q0;have k3:=(aA.cell(zD q1)).trans q1
            (try go_wp2_with fail)
            refine hK.out _ _(by(try dsimp only);go_keep) ?_;clear hK K hHeld;intro hHeld
            try simp only [Act.put,s1,s2,s3]
            refine tk 6(h:=tk 7(h:=ts 8(h:=ts 9(h:=ts 10(h:=ts 11(h:=ts 12(h:=ts 13(h:=?_))))))));refine rd [14](rc(fun K hK=>?_) .nil);split
            ·rename_i oC
             exact absurd(show false=true from oC) Bool.false_ne_true
            refine hK.out _ _(by assumption)(fun hHeld=>?_);clear hK K
            try simp only [Act.put,s1,s2,s3]
            refine tk 15(h:=?_);refine wpAnyH_done(by kernel_rfl) ?_ _;have nA:=zA cA aA;go_wp2;go_ret;refine⟨zG.no fun h=>?_,nA⟩;rcases(h.resolve_left HN.out).2.1.1 j mA with h | h
            ·exact fA.out h
            ·have h2:Nil(zb(p.s(zb(p.s k) j).toNat) i)(zu(p.s(zb(p.s k) j).toNat) i)\/zD6 p(zb(p.s(zb(p.s k) j).toNat) i)(zu(p.s(zb(p.s k) j).toNat) i):=h.2.1 i iB;rw [jB.out] at h2;rcases h2 with h2 | h2
             ·exact gB.out h2
             ·exact lB.out h2
         ·obtain rfl:i=8:=(by omega);by_cases nD:m1=0
          ·subst nD;have e0:((0:Nat):Int)=0:=rfl;go_wp2;go_ret;refine⟨zG.no fun h=>?_,hbr⟩;rcases(h.resolve_left HN.out).2.1.1 j mA with h | h
           ·exact fA.out h
           ·have h2:∃i,i<8/\¬Nil(zb(p.s(zb(p.s k) j).toNat) i)(zu(p.s(zb(p.s k) j).toNat) i):=h.2.2;rw [jB.out] at h2;have:=sA.out.2 h2;omega
          ·have e0:((m1:Int) == 0)=false:=(by simp;omega);have oD:=zE(show 0<m1 by omega);have lC:Hid(zPe p(p.s(zb(p.s k) j).toNat)):=(by rw [jB.out];exact⟨vC.out,sA.out.1 oD.out⟩);clear nD;go_wp2;go_roundw
           case rel=>
            refine⟨j+1,m0+1,sa,sc,by omega,by go_num,by go_num,by omega,⟨fun _=>⟨j,by omega,fA.out⟩,fun _=>by omega⟩,by rw [zEb fA.out],by rw [zEb fA.out];exact kA.out,zo mA eB.out(Or.inr ⟨vA.out,lC.out⟩),by rw [zEb fA.out];exact tA.out,jA.out,hbr,hzr⟩
           case measure=>simp [intOf];omega
      ·have vA:=zE cC;clear cC;go_wp2_with fail;refine wp_region_held_drew(S:=(fun w'=>w'.cell? ⟨w.heap.size,0,none⟩=some(.slice(some ⟨b,off,none⟩) p.n c)/\w'.cell? ⟨w.heap.size,1,none⟩=some(.slice a' p.hn c')/\w'.cell? ⟨tb,tof+j*2,none⟩=some(.int .i64(zb(p.s k) j))/\w'.cell? ⟨tb,tof+j*2+1,none⟩=some(.int .i64(zu(p.s k) j))))(by kernel_rfl) ?_(fun hHeld=>?_)
       ·(try dsimp only)
        go_keep
       refine tk 0(h:=tk 1(h:=tk 2(h:=tk 3(h:=tk 4(h:=?_)))));refine rd [5](rc(fun K hK=>?_) .nil);go_simp;go_at_call 139;refine(zCv _ _ lo hi p(zb(p.s k) j)(zu(p.s k) j) _ ?_).mono ?_
       ·first | exact Hp.out.zRJ cA | exact Hp.out.zRJ cA.drew
       rintro e wa ⟨⟨ta,rfl,hta⟩,hba⟩;obtain rfl:ta=false:=zQ hta vA.out;clear hta;have aA:Below W.heap.size W wa:=(by first | exact hba | exact zK hba);obtain⟨⟨k0,_⟩,⟨k1,_⟩⟩:=gA.out.zRJ aA;have k2:=(aA.cell(zD q0)).trans q0;have k3:=(aA.cell(zD q1)).trans q1
       (try go_wp2_with fail)
       refine hK.out _ _(by(try dsimp only);go_keep) ?_;clear hK K hHeld;intro hHeld
       try simp only [Act.put,s1,s2,s3]
       refine tk 6(h:=tk 7(h:=ts 8(h:=ts 9(h:=ts 10(h:=ts 11(h:=ts 12(h:=ts 13(h:=?_))))))));refine rd [14](rc(fun K hK=>?_) .nil);split
       ·rename_i oC
        exact absurd(show false=true from oC) Bool.false_ne_true
       refine hK.out _ _(by assumption)(fun hHeld=>?_);clear hK K
       try simp only [Act.put,s1,s2,s3]
       refine tk 15(h:=?_);refine wpAnyH_done(by kernel_rfl) ?_ _;have nA:=zA cA aA;go_wp2;go_ret;refine⟨zG.no fun h=>?_,nA⟩;rcases(h.resolve_left HN.out).2.1.1 j mA with h | h
       ·exact fA.out h
       ·exact vA.out h.1
    ·obtain rfl:j=8:=(by omega);go_wp2;go_ret;refine⟨⟨_,rfl,?_⟩,hbr⟩;have hc:=sB.out;constructor
     ·intro h;refine Or.inr ⟨sC.out,⟨eB.out,hc.1(by simpa using h)⟩,?_⟩;rw [zH6 HN.out];exact dB.out
     ·intro h;have:=hc.2(h.resolve_left HN.out).2.1.2;simpa using this
  ·have sC:=zE pA;obtain rfl:t=false:=zQ ht pA;clear ht pA;go_wp2;go_ret;exact⟨zG.no fun h=>(h.resolve_left HN.out).1 |> sC.out,aD⟩
end Go.Proofs.YtmgeglgboadfiaaGreatDoor
