/- What impl.TreeTrim answers. -/
import Derived.Test.YtmgeglgboadfiaaGreatDoorT28
set_option linter.unusedVariables false
set_option maxRecDepth 20000
set_option maxHeartbeats 4000000
namespace Go.Proofs.YtmgeglgboadfiaaGreatDoor
open Go.RowKit
theorem zOy{p:zJ}{xs xb:Int}{n:Nat}{b:Int}{o:zDe}(h:(zAw p xs xb n b o).code≠0):zAw p xs xb n b o=zAb(zAw p xs xb n b o).code:=by
 unfold zAw at h ⊢;split
 ·rfl
 ·split
  ·rfl
  ·rename_i h1 h2
   rw [if_neg h1,if_neg h2] at h;exact absurd rfl h
theorem zQu{p:zJ}{xs xb:Int}{n:Nat}{b:Int}{o:zDe}(h:(zAw p xs xb n b o).code=0):zAw p xs xb n b o=⟨(layS p xs xb n b o 2).zRQ,(layS p xs xb n b o 2).ps,(layS p xs xb n b o 2).pb,qe p xs xb n 3,0⟩:=by
 unfold zAw at h ⊢;split
 ·rename_i h1
  rw [if_pos h1] at h;exact absurd h h1
 ·split
  ·rename_i h1 h2
   rw [if_neg h1,if_pos h2] at h;exact absurd h h2
  ·rfl
theorem zA4{w wr:World}{R:Nat}{c:Int}(aA:w.heap.size<=R)(hb:Below w.heap.size w wr) :
  zHK(zAb c) w(.returned(.agg #[.slice none 0 0,.slice none 0 0,.int .i64 0,.int .i64 0,.slice none 0 0,.int .i64 c]))(put6 wr R(.slice none 0 0)(.slice none 0 0)(.int .i64 0)(.int .i64 0)(.slice none 0 0)(.int .i64 c)):=by
 have t:=zF.put6 wr R(.slice none 0 0)(.slice none 0 0)(.int .i64 0)(.int .i64 0)(.slice none 0 0)(.int .i64 c);exact⟨_,_,_,w.heap.size,w.heap.size,rfl,Nat.le_refl _,by have:=hb.size;have:=t.size;omega,zHV,zw.nil _ _,fun k hk=>by simp [Value.ownBlock] at hk,hb.trans(t.zRJ(by have:=hb.size;omega)(fun k hk=>by omega))⟩
theorem zO5(w:World)(a0 a1 x0 x1:Value)(t1 t2 t3:TypeId) :
  zc(((w.alloc(.cells #[a0,a1] t1)).alloc(.cells #[x0,x1] t2)).alloc(.cells #[.slice none 0 0,.slice none 0 0,.int .i64 0,.int .i64 0,.slice none 0 0,.int .i64 0] t3)) w.heap.size a0 a1/\
  zc(((w.alloc(.cells #[a0,a1] t1)).alloc(.cells #[x0,x1] t2)).alloc(.cells #[.slice none 0 0,.slice none 0 0,.int .i64 0,.int .i64 0,.slice none 0 0,.int .i64 0] t3))(w.heap.size+1) x0 x1/\
  zi(((w.alloc(.cells #[a0,a1] t1)).alloc(.cells #[x0,x1] t2)).alloc(.cells #[.slice none 0 0,.slice none 0 0,.int .i64 0,.int .i64 0,.slice none 0 0,.int .i64 0] t3))(w.heap.size+1+1)(.slice none 0 0)(.slice none 0 0)(.int .i64 0)(.int .i64 0)(.slice none 0 0)(.int .i64 0)/\
  Below w.heap.size w(((w.alloc(.cells #[a0,a1] t1)).alloc(.cells #[x0,x1] t2)).alloc(.cells #[.slice none 0 0,.slice none 0 0,.int .i64 0,.int .i64 0,.slice none 0 0,.int .i64 0] t3))/\
  (((w.alloc(.cells #[a0,a1] t1)).alloc(.cells #[x0,x1] t2)).alloc(.cells #[.slice none 0 0,.slice none 0 0,.int .i64 0,.int .i64 0,.slice none 0 0,.int .i64 0] t3)).heap.size=w.heap.size+3:=by
 refine⟨((zc.zRL w a0 a1 t1).zRJ(zC _ _)).zRJ(zC _ _),?_,?_,zA(zA(zC _ _)(zC _ _))(zC _ _),by simp⟩
 ·have:=(zc.zRL(w.alloc(.cells #[a0,a1] t1)) x0 x1 t2).zRJ(zC _(.cells #[.slice none 0 0,.slice none 0 0,.int .i64 0,.int .i64 0,.slice none 0 0,.int .i64 0] t3));rw [World.size_alloc] at this;exact this
 ·have:=zi.zRL((w.alloc(.cells #[a0,a1] t1)).alloc(.cells #[x0,x1] t2))(.slice none 0 0)(.slice none 0 0)(.int .i64 0)(.int .i64 0)(.slice none 0 0)(.int .i64 0) t3;rw [World.size_alloc,World.size_alloc] at this;exact this
open Classical in
noncomputable def zAM(p:zJ)(xs xb zRV b:Int):zCB:=
 if ym p xs xb/\zAa xb b then(if zDV zRV then(if Nil(qo p xs xb zRV.toNat)(qp p xs xb zRV.toNat)then zAb 4 else zAw p xs xb zRV.toNat b ⟨p,0,0,0⟩)else zAb 8)else zAb 1
theorem zDK{p:zJ}{xs xb zRV b:Int}(h:¬(ym p xs xb/\zAa xb b)):zAM p xs xb zRV b=zAb 1:=if_neg h
theorem zFO{p:zJ}{xs xb zRV b:Int}(h:ym p xs xb/\zAa xb b)(h2:¬zDV zRV):zAM p xs xb zRV b=zAb 8:=(if_pos h).trans(if_neg h2)
theorem zGS{p:zJ}{xs xb zRV b:Int}(h:ym p xs xb/\zAa xb b)(h2:zDV zRV)(h3:Nil(qo p xs xb zRV.toNat)(qp p xs xb zRV.toNat)):zAM p xs xb zRV b=zAb 4:=((if_pos h).trans(if_pos h2)).trans(if_pos h3)
theorem zF8{p:zJ}{xs xb zRV b:Int}(h:ym p xs xb/\zAa xb b)(h2:zDV zRV)(h3:¬Nil(qo p xs xb zRV.toNat)(qp p xs xb zRV.toNat)):zAM p xs xb zRV b=zAw p xs xb zRV.toNat b ⟨p,0,0,0⟩:=((if_pos h).trans(if_pos h2)).trans(if_neg h3)
theorem zGE(v0 v1:Value)(lo hi:Nat)(p:zJ)(xs xb zRV b:Int)(w:World)(h1:zy w lo hi v0 v1 p) :
  Calls Tryz.prog 48 #[.agg #[v0,v1],.agg #[.int .i64 xs,.int .i64 xb],.int .i64 zRV,.int .i64 b] w(zHK(zAM p xs xb zRV b) w):=by
 have Hp:=zE h1;obtain⟨a,c,a',c',rfl,rfl⟩:=h1.form;clear h1;have tB:=zO5 w(.slice a p.n c)(.slice a' p.hn c')(.int .i64 xs)(.int .i64 xb) 33 61 64;go_enter Tryz.func48,Tryz.ntmps48;go_wp2_with fail;generalize((w.alloc(.cells #[.slice a p.n c,.slice a' p.hn c'] 33)).alloc(.cells #[.int .i64 xs,.int .i64 xb] 61)).alloc(.cells #[.slice none 0 0,.slice none 0 0,.int .i64 0,.int .i64 0,.slice none 0 0,.int .i64 0] 64)=W at tB ⊢;obtain⟨hB,hX,hR,hba,hz⟩:=tB;refine(zFi _ _ lo hi p xs xb W(Hp.out.zRJ hba)).mono ?_;rintro e w1 ⟨⟨t,rfl,ht⟩,hb1⟩;have mB:=zE(hB.zRJ hb1);have cB:=zE(hX.zRJ hb1);have bB:=zE(hR.zRJ hb1);have fB:=zA hba hb1;have vB:w.heap.size+3<=w1.heap.size:=by have:=hb1.size;omega
 clear hB hX hR hba hb1 hz;by_cases iA:ym p xs xb
 ·have lA:=zE iA;obtain rfl:t=true:=ht.2 iA;clear ht iA;obtain⟨⟨y0,y1⟩,⟨y2,y3⟩⟩:=cB.out;go_wp2_with fail;refine(zKz xs xb b w1).mono ?_;rintro e w2 ⟨⟨t,rfl,ht⟩,hb2⟩;have dB:=zE(mB.out.zRJ hb2);have pB:=zE(cB.out.zRJ hb2);have eA:=zE(bB.out.zRJ hb2);have rA:=zA fB hb2;have dC:w.heap.size+3<=w2.heap.size:=(by have:=hb2.size;omega);clear hb2 fB mB cB bB vB y0 y1 y2 y3;by_cases jA:zAa xb b
  ·have sA:=zE(And.intro lA.out jA);obtain rfl:t=true:=ht.2 jA;clear ht jA;by_cases hN:zDV zRV
   ·have fA:=zE hN;obtain⟨n,rfl⟩:=Int.eq_ofNat_of_zero_le hN.1;have kA:n<64:=(by have:=hN.2;omega);clear hN;obtain⟨⟨x0,x1⟩,⟨x2,x3⟩⟩:=dB.out;obtain⟨⟨y0,y1⟩,⟨y2,y3⟩⟩:=pB.out;go_wp2_with(first | (go_at_call 99;refine(zEV _ _).mono ?_;rintro e w9 ⟨⟨t2,rfl,ht2⟩,rfl⟩;obtain rfl:t2=true:=ht2.2 fA.out;clear ht2) | fail);go_wp2_with fail;refine(zNn _ lo hi p xs xb n _(Hp.out.zRJ rA).1 lA.out kA).mono ?_;rintro e w3 ⟨o,rfl,hro,hb3⟩;obtain⟨oa,oc,ho,_⟩:=zW hro;have sB:=zE hro;have lB:=zE(dB.out.zRJ hb3);have nB:=zE(eA.out.zRJ hb3);have oB:=zA rA hb3;have aC:w.heap.size+3<=w3.heap.size:=(by have:=hb3.size;omega);have gB:=hb3.size;clear hb3 hro ho x0 x1 x2 x3 y0 y1 y2 y3 dB pB eA;have nA:=zC w3(.cells(zAT(yI p xs xb n 2 3 o)) 159);have HY:Hid((w3.alloc(.cells(zAT(yI p xs xb n 2 3 o)) 159)).heap[w3.heap.size]?=some(.cells(zAT(yI p xs xb n 2 3 o)) 159(0,0))):=heap_alloc_last _ _;have mA:Hid(zX(w3.alloc(.cells(zAT(yI p xs xb n 2 3 o)) 159)) w3.heap.size 38(.int .i64(qo p xs xb n))/\zX(w3.alloc(.cells(zAT(yI p xs xb n 2 3 o)) 159)) w3.heap.size 39(.int .i64(qp p xs xb n))):=⟨zI HY.out(by rfl),zI HY.out(by rfl)⟩;have aB:=zE(lB.out.zRJ nA);have gA:=zE(nB.out.zRJ nA);have bA:=zE(sB.out.zRJ nA);have oA:=zA oB nA;have rB:w3.heap.size<(w3.alloc(.cells(zAT(yI p xs xb n 2 3 o)) 159)).heap.size:=(by rw [World.size_alloc];omega);clear nA lB nB sB oB;go_upto_region 6 with(first
     |(refine wpList_store_row rfl 159(.tmp 9)(.tmp 29) rfl w3.heap.size(zAT(yI p xs xb n 2 3 o)) rfl rfl 159 zOb(heap_alloc_last _ _)(zDF _)(by rw [zEg];rfl)(zIC _ _ _ _ _ _ bA.out.one) ?_;rw [World.setRow_alloc_new])
     |fail)
    generalize w3.alloc(.cells(zAT(yI p xs xb n 2 3 o)) 159)=w4 at HY mA aB gA bA oA rB ⊢;generalize w3.heap.size=Y at HY mA aC rB gB ⊢;obtain⟨⟨y0,y1⟩,⟨y2,y3⟩⟩:=mA.out;obtain⟨⟨x0,x1⟩,⟨x2,x3⟩⟩:=aB.out;obtain⟨wd,hwd⟩:=Option.map_eq_some_iff.1 zOf;have HU:=zE hwd;clear hwd;by_cases dA:Nil(qo p xs xb n)(qp p xs xb n)
    ·have tA:=zE dA;rw [dA.1] at y0;rw [dA.2] at y2;clear dA;obtain⟨⟨r0,r1⟩,⟨r2,r3⟩,⟨r4,r5⟩,⟨r6,r7⟩,⟨r8,r9⟩,⟨r10,r11⟩⟩:=gA.out
     try go_wp2
     have aA:=gA.out.put(.slice none 0 0)(.slice none 0 0)(.int .i64 0)(.int .i64 0)(.slice none 0 0)(.int .i64 4);have cA:=zA4(R:=w.heap.size+1+1)(c:=4)(by omega) oA;rw [zGS sA.out fA.out tA.out];exact bodyPost_ret(v:=.agg #[.slice none 0 0,.slice none 0 0,.int .i64 0,.int .i64 0,.slice none 0 0,.int .i64 4])(by simp [results,Tryz.results48,go_sem,aA.1.1,aA.2.1.1,aA.2.2.1.1,aA.2.2.2.1.1,aA.2.2.2.2.1.1,aA.2.2.2.2.2.1]) rfl cA
    ·have tA:=zE dA;rcases zAO dA with e0 | ⟨e0,e1⟩
     all_goals
      clear dA;go_wp2_with(first
       |(refine wpList_load_row rfl 159(.tmp 9) rfl Y rfl 159(zAT(yI p xs xb n 2 3 o))(0,0) _ HY.out HU.out.1(by have:=HU.out.2;cases wd<;>exact this)(zDF _) ?_)
       |fail)
      refine(zLJ _ _ lo hi p p xs xb 0 0 b n o w4(Hp.out.zRJ oA) kA(by have:=zDy lA.out.1;omega)(bA.out.mono(Nat.zero_le _))).mono ?_;rintro e w5(⟨hc,rfl,hb5⟩ | ⟨hc,s0,s1,rfl,ho5,hb5⟩)
      ·have hE:zAM p xs xb(n:Int) b=zAb(zAw p xs xb n b ⟨p,0,0,0⟩).code:=(zF8 sA.out fA.out tA.out).trans(zOy hc);have HE:=zE hE;have pA:=zE(gA.out.zRJ hb5);have vA:=zA oA hb5;clear hc hE hb5 x0 x1 x2 x3 y0 y1 y2 y3 aB gA HY mA;generalize(zAw p xs xb n b ⟨p,0,0,0⟩).code=cc at HE ⊢;obtain⟨⟨r0,r1⟩,⟨r2,r3⟩,⟨r4,r5⟩,⟨r6,r7⟩,⟨r8,r9⟩,⟨r10,r11⟩⟩:=pA.out
       try go_wp2
       have aA:=pA.out.put(.slice none 0 0)(.slice none 0 0)(.int .i64 0)(.int .i64 0)(.slice none 0 0)(.int .i64 cc);have cA:=zA4(R:=w.heap.size+1+1)(c:=cc)(by omega) vA;rw [HE.out];exact bodyPost_ret(v:=.agg #[.slice none 0 0,.slice none 0 0,.int .i64 0,.int .i64 0,.slice none 0 0,.int .i64 cc])(by simp [results,Tryz.results48,go_sem,aA.1.1,aA.2.1.1,aA.2.2.1.1,aA.2.2.2.1.1,aA.2.2.2.2.1.1,aA.2.2.2.2.2.1]) rfl cA
      ·obtain⟨jB,oc2,rfl,_⟩:=zW bA.out;have hE:zAM p xs xb(n:Int) b=⟨(layS p xs xb n b ⟨p,0,0,0⟩ 2).zRQ,(layS p xs xb n b ⟨p,0,0,0⟩ 2).ps,(layS p xs xb n b ⟨p,0,0,0⟩ 2).pb,qe p xs xb n 3,0⟩:=(zF8 sA.out fA.out tA.out).trans(zQu hc);have HE:=zE hE;have pA:=zE(gA.out.zRJ hb5);have eB:=zE(bA.out.zRJ hb5);have iB:=zE ho5;have vA:=zA oA hb5;have cC:=hb5.size;clear hc hE hb5 ho5 x0 x1 x2 x3 y0 y1 y2 y3 aB gA HY mA;generalize layS p xs xb n b ⟨p,0,0,0⟩ 2=od at HE iB ⊢;obtain⟨a5,c5,a6,c6,rfl,rfl⟩:=iB.out.form;obtain⟨⟨r0,r1⟩,⟨r2,r3⟩,⟨r4,r5⟩,⟨r6,r7⟩,⟨r8,r9⟩,⟨r10,r11⟩⟩:=pA.out
       try go_wp2
       have aA:=pA.out.put(.slice a5 od.zRQ.n c5)(.slice a6 od.zRQ.hn c6)(.int .i64 od.ps)(.int .i64 od.pb)(.slice jB(qe p xs xb n 3).length oc2)(.int .i64 0);have kB:=zF.put6 w5(w.heap.size+1+1)(.slice a5 od.zRQ.n c5)(.slice a6 od.zRQ.hn c6)(.int .i64 od.ps)(.int .i64 od.pb)(.slice jB(qe p xs xb n 3).length oc2)(.int .i64 0);rw [HE.out];exact bodyPost_ret(v:=.agg #[.slice a5 od.zRQ.n c5,.slice a6 od.zRQ.hn c6,.int .i64 od.ps,.int .i64 od.pb,.slice jB(qe p xs xb n 3).length oc2,.int .i64 0])(by simp [results,Tryz.results48,go_sem,aA.1.1,aA.2.1.1,aA.2.2.1.1,aA.2.2.2.1.1,aA.2.2.2.2.1.1,aA.2.2.2.2.2.1]) rfl ⟨_,_,_,w4.heap.size,w5.heap.size,rfl,by omega,kB.size,iB.out.zRR kB(by intro k hk;omega),((((((eB.out.put(by omega) _).put(by omega) _).put(by omega) _).put(by omega) _).put(by omega) _).put(by omega) _).mono(by omega),fun k hk=>Or.inl(bA.out.lt hk).2,vA.trans(kB.zRJ(B:=w.heap.size) vA.size(by intro k hk;omega))⟩
   ·have fA:=zE hN;clear hN;obtain⟨⟨r0,r1⟩,⟨r2,r3⟩,⟨r4,r5⟩,⟨r6,r7⟩,⟨r8,r9⟩,⟨r10,r11⟩⟩:=eA.out;go_wp2_with(first | (go_at_call 99;refine(zEV _ _).mono ?_;rintro e w9 ⟨⟨t2,rfl,ht2⟩,rfl⟩;obtain rfl:t2=false:=zQ ht2 fA.out;clear ht2) | fail);obtain⟨⟨r0,r1⟩,⟨r2,r3⟩,⟨r4,r5⟩,⟨r6,r7⟩,⟨r8,r9⟩,⟨r10,r11⟩⟩:=eA.out
    try go_wp2
    have aA:=eA.out.put(.slice none 0 0)(.slice none 0 0)(.int .i64 0)(.int .i64 0)(.slice none 0 0)(.int .i64 8);have cA:=zA4(R:=w.heap.size+1+1)(c:=8)(by omega) rA;rw [zFO sA.out fA.out];exact bodyPost_ret(v:=.agg #[.slice none 0 0,.slice none 0 0,.int .i64 0,.int .i64 0,.slice none 0 0,.int .i64 8])(by simp [results,Tryz.results48,go_sem,aA.1.1,aA.2.1.1,aA.2.2.1.1,aA.2.2.2.1.1,aA.2.2.2.2.1.1,aA.2.2.2.2.2.1]) rfl cA
  ·have bC:=zE jA;obtain rfl:t=false:=zQ ht jA;clear ht jA;obtain⟨⟨r0,r1⟩,⟨r2,r3⟩,⟨r4,r5⟩,⟨r6,r7⟩,⟨r8,r9⟩,⟨r10,r11⟩⟩:=eA.out
   try go_wp2
   have aA:=eA.out.put(.slice none 0 0)(.slice none 0 0)(.int .i64 0)(.int .i64 0)(.slice none 0 0)(.int .i64 1);have cA:=zA4(R:=w.heap.size+1+1)(c:=1)(by omega) rA;rw [zDK(fun h=>bC.out h.2)];exact bodyPost_ret(v:=.agg #[.slice none 0 0,.slice none 0 0,.int .i64 0,.int .i64 0,.slice none 0 0,.int .i64 1])(by simp [results,Tryz.results48,go_sem,aA.1.1,aA.2.1.1,aA.2.2.1.1,aA.2.2.2.1.1,aA.2.2.2.2.1.1,aA.2.2.2.2.2.1]) rfl cA
 ·have lA:=zE iA;obtain rfl:t=false:=zQ ht iA;clear ht iA;obtain⟨⟨r0,r1⟩,⟨r2,r3⟩,⟨r4,r5⟩,⟨r6,r7⟩,⟨r8,r9⟩,⟨r10,r11⟩⟩:=bB.out
  try go_wp2
  have aA:=bB.out.put(.slice none 0 0)(.slice none 0 0)(.int .i64 0)(.int .i64 0)(.slice none 0 0)(.int .i64 1);have cA:=zA4(R:=w.heap.size+1+1)(c:=1)(by omega) fB;rw [zDK(fun h=>lA.out h.1)];exact bodyPost_ret(v:=.agg #[.slice none 0 0,.slice none 0 0,.int .i64 0,.int .i64 0,.slice none 0 0,.int .i64 1])(by simp [results,Tryz.results48,go_sem,aA.1.1,aA.2.1.1,aA.2.2.1.1,aA.2.2.2.1.1,aA.2.2.2.2.1.1,aA.2.2.2.2.2.1]) rfl cA
theorem zIP{p:zJ}{xs xb:Int}{n:Nat}(hT:ym p xs xb)(hn:n<64):∀{L:Nat},L<3->¬Nil(qq p xs xb n L)(yR p xs xb n L)->zr p(qq p xs xb n L)(yR p xs xb n L)/\yR p xs xb n L<=xb
 |0,_,hN=>⟨(hT.2.resolve_left hN).1.1,Int.le_refl _⟩
 |L+1,hL,hN=>by
  have aA:¬Nil(qq p xs xb n L)(yR p xs xb n L):=fun h=>hN(zEY h(by omega))
  obtain⟨h1,h2⟩:=zIP hT hn(L:=L)(by omega) aA;rw [(zDI p xs xb n(show L<2 by omega)).1,(zDI p xs xb n(show L<2 by omega)).2] at hN ⊢;unfold zB8 at hN ⊢;rw [if_neg aA,if_neg aA] at hN ⊢;obtain⟨h3,h4⟩:=zAi(qV hT.1 h1)(zIb(n:=n)(L:=L) hn) hN;refine⟨h3,?_⟩;have h5:=h1.2.2.2;have bA:zk(p.s(qq p xs xb n L).toNat)(plc n L*2+1)<=(p.s(qq p xs xb n L).toNat).zRU:=h4;omega
theorem zAf{p q:zJ}{xs xb x y b:Int}{n L:Nat}(hT:ym p xs xb)(hn:n<64)(hL:L<2)(hB:zAa xb b)(bA:∀s t,zr p s t->zr q s t)(hx:Nil x y\/(zr q x y/\y<=b)) :
  zAN q(qY(qK p xs xb n L x)(qL p xs xb n L y) b):=by
 refine⟨hB.1,Or.inr ⟨rfl,by simp [qY,Go.ByteArray.toList_eq],fun i hi=>?_⟩⟩;have aA:i<8:=hi;show zH4 q b(qK p xs xb n L x i)(qL p xs xb n L y i);unfold qK qL;by_cases e:i=plc n L
 ·rw [if_pos e,if_pos e];rcases hx with h | h
  ·exact Or.inl h
  ·exact Or.inr h
 ·rw [if_neg e,if_neg e];unfold yn zAF;by_cases hN:Nil(qq p xs xb n L)(yR p xs xb n L)
  ·rw [if_pos hN,if_pos hN];exact Or.inl ⟨rfl,rfl⟩
  ·rw [if_neg hN,if_neg hN];obtain⟨h1,h2⟩:=zIP hT hn(L:=L)(by omega) hN;by_cases hk:Nil(zb(p.s(qq p xs xb n L).toNat) i)(zu(p.s(qq p xs xb n L).toNat) i)
   ·exact Or.inl hk
   ·obtain⟨h3,h4⟩:=zAi(qV hT.1 h1) aA hk;refine Or.inr ⟨bA _ _ h3,?_⟩;have h5:=h1.2.2.2;have h6:=hB.2;omega
theorem zEe{f:Nat->zL}:∀{n:Nat},roomN f n=0->∀j,j<n->¬qG(f j)
 |0,_,j,hj=>absurd hj(Nat.not_lt_zero _)
 |n+1,h,j,hj=>by
  by_cases hf:qG(f n)
  ·rw [zGI hf] at h;omega
  ·rw [zFb hf] at h;by_cases e:j=n
   ·rw [e];exact hf
   ·exact zEe h j(by omega)
theorem zFB{f:Nat->zL}:∀{n:Nat},0<roomN f n->∃i,zBZ n f i
 |0,h=>absurd h(Nat.lt_irrefl _)
 |n+1,h=>by
  by_cases h0:0<roomN f n
  ·obtain⟨i,h1,h2,h3⟩:=zFB h0;exact⟨i,by omega,h2,h3⟩
  ·by_cases hf:qG(f n)
   ·exact⟨n,by omega,hf,zEe(by omega)⟩
   ·rw [zFb hf] at h;exact absurd h h0
theorem zFA{p:zJ}{i:Nat}{s:zL}(hi:zBZ p.n p.s i)(hs:1<=s.zRU):zr(qm p i s)(i:Int) s.zRU:=
 ⟨hs,by omega,by have:=hi.1;show(i:Int)<(p.n:Int);omega,by rw [Int.toNat_natCast,zEB]⟩
theorem zId{l:List(Int×Int)}{x:Int}:x∈yK l↔∃y,(x,y)∈l:=by
 unfold yK;rw [List.mem_map];constructor
 ·rintro⟨⟨a,b⟩,h,rfl⟩;exact⟨b,h⟩
 ·rintro⟨y,h⟩;exact⟨(x,y),h,rfl⟩
theorem zE8{xs xb x:Int}:x∈yK(one xs xb)↔x=xs/\¬Nil xs xb:=by
 rw [zId];constructor
 ·rintro⟨y,h⟩;obtain⟨e,hn⟩:=zKH.1 h;simp only [Prod.mk.injEq] at e;exact⟨e.1,hn⟩
 ·rintro⟨rfl,hn⟩;exact⟨xb,zKH.2 ⟨rfl,hn⟩⟩
theorem zEI{ks kb:Nat->Int}{k:Nat}{x:Int}:x∈yK(kidsUp ks kb k)↔∃i,i<k/\x=ks i/\¬Nil(ks i)(kb i):=by
 rw [zId];constructor
 ·rintro⟨y,h⟩;obtain⟨i,hi,e,hn⟩:=yj.1 h;simp only [Prod.mk.injEq] at e;exact⟨i,hi,e.1,hn⟩
 ·rintro⟨i,hi,rfl,hn⟩;exact⟨kb i,yj.2 ⟨i,hi,rfl,hn⟩⟩
theorem zOA(xs xb:Int):(yK(one xs xb)).Nodup:=by
 unfold one yK;split<;>simp
theorem zFt{ks kb:Nat->Int}:∀{k:Nat},(yK(kidsUp ks kb k)).Nodup↔∀i,i<k->∀j,j<i->¬Nil(ks i)(kb i)->¬Nil(ks j)(kb j)->ks j≠ks i
 |0=>by simp [kidsUp,yK]
 |k+1=>by
  rw [kidsUp,zA2,List.nodup_append,zFt(k:=k)];constructor
  ·rintro⟨h1,_,h2⟩ i hi j hj ni nj;by_cases e:i=k
   ·subst e;exact h2 _(zEI.2 ⟨j,hj,rfl,nj⟩) _(zE8.2 ⟨rfl,ni⟩)
   ·exact h1 i(by omega) j hj ni nj
  ·intro h;refine⟨fun i hi j hj=>h i(by omega) j hj,zOA _ _,fun a ha b hb=>?_⟩;obtain⟨j,hj,rfl,nj⟩:=zEI.1 ha;obtain⟨rfl,nk⟩:=zE8.1 hb;exact h k(Nat.lt_succ_self k) j hj nk nj
theorem zGO{p:zJ}{x xb y yb:Int}(h:zAy p x xb)(h':zD6 p y yb):x≠y:=fun e=>by
 subst e;have:=h.2.1;have:=h'.2.1;omega
theorem zN1{p:zJ}{rs:Int}(hT:zQY p(p.s rs.toNat)){i:Nat}(hi:i<8)(hn:¬Nil(zb(p.s rs.toNat) i)(zu(p.s rs.toNat) i)):zb(p.s rs.toNat) i≠rs:=fun e=>by
 have h1:=(hT.1 i hi).resolve_left hn;rw [e] at h1;obtain⟨j,hj,nj⟩:=hT.2;have h2:=((hT.1 j hj).resolve_left nj).1;have h3:=(h1.2.1 j hj).resolve_left nj;exact zGO h2 h3 rfl
structure Ext(p q:zJ):Prop where
 n:q.n=p.n
 hn:q.hn=p.hn
 h:q.h=p.h
 s:∀j,¬qG(p.s j)->q.s j=p.s j
theorem Ext.refl(p:zJ):Ext p p:=⟨rfl,rfl,rfl,fun _ _=>rfl⟩
theorem Ext.trans{p q r:zJ}(h:Ext p q)(k:Ext q r):Ext p r:=⟨k.n.trans h.n,k.hn.trans h.hn,k.h.trans h.h,fun j hj=>(k.s j(by rw [h.s j hj];exact hj)).trans(h.s j hj)⟩
theorem Ext.set{p:zJ}{i:Nat}(hi:qG(p.s i))(s:zL):Ext p(qm p i s):=⟨rfl,rfl,rfl,fun j hj=>zEm p s(fun e=>hj(e▸hi))⟩
theorem zHG{p:zJ}{xs xb:Int}(h:zr p xs xb):¬qG(p.s xs.toNat):=fun hf=>by
 have:=hf.1;have:=h.1;have:=h.2.2.2;omega
theorem Ext.at{p q:zJ}(h:Ext p q){xs xb:Int}(hp:zr p xs xb):q.s xs.toNat=p.s xs.toNat:=h.s _(zHG hp)
theorem Ext.points{p q:zJ}(h:Ext p q){xs xb:Int}(hp:zr p xs xb):zr q xs xb:=⟨hp.1,hp.2.1,by rw [h.n];exact hp.2.2.1,by rw [h.at hp];exact hp.2.2.2⟩
theorem Ext.has{p q:zJ}(h:Ext p q)(x:Int):Has q.hn q.h x↔Has p.hn p.h x:=by rw [h.hn,h.h]
theorem Ext.node{p q:zJ}(h:Ext p q){xs xb:Int}(hp:zAy p xs xb):zAy q xs xb:=⟨h.points hp.1,by rw [h.at hp.1];exact hp.2.1,fun e=>hp.2.2((h.has xs).1 e)⟩
def zJU(p:zJ)(x:Int):Prop:=qG(p.s x.toNat)
structure New(p:zJ)(xs xb:Int)(n:Nat)(b:Int)(q:zJ)(ys yb ms mb gs gb:Int):Prop where
 ext:Ext p q;right:zv q
 zRV:Nil gs gb\/(zD6 q gs gb/\zJU p gs)
 node:(Nil ms mb/\yJ(qK p xs xb n 1 gs)(qL p xs xb n 1 gb))\/(zAy q ms mb/\zJU p ms/\q.s ms.toNat=qY(qK p xs xb n 1 gs)(qL p xs xb n 1 gb) b/\¬yJ(qK p xs xb n 1 gs)(qL p xs xb n 1 gb))
 root:(Nil ys yb/\yJ(qK p xs xb n 0 ms)(qL p xs xb n 0 mb))\/(zAy q ys yb/\zJU p ys/\q.s ys.toNat=qY(qK p xs xb n 0 ms)(qL p xs xb n 0 mb) b/\¬yJ(qK p xs xb n 0 ms)(qL p xs xb n 0 mb))
theorem zPi{p:zJ}{xs xb:Int}(hT:ym p xs xb){z:Int×Int}:z∈zT p xs xb↔(z=(xs,xb)/\¬Nil xs xb)\/(∃i,i<8/\z=(yn p xs xb i,zAF p xs xb i)/\¬Nil(yn p xs xb i)(zAF p xs xb i))\/∃k,k<64/\z=(qo p xs xb k,qp p xs xb k)/\¬Nil(qo p xs xb k)(qp p xs xb k):=by
 by_cases hz:Nil xs xb
 ·have e0:∀i,yn p xs xb i=0/\zAF p xs xb i=0:=fun i=>⟨if_pos hz,if_pos hz⟩
  have e1:∀k,Nil(qo p xs xb k)(qp p xs xb k):=fun k=>by
   have hn:Nil(qy p xs xb k)(yL p xs xb k):=e0(k / 8);exact⟨if_pos hn,if_pos hn⟩
  unfold zT;rw [if_pos hz];constructor
  ·intro h;simp at h
  ·rintro(⟨_,h⟩ | ⟨i,_,_,h⟩ | ⟨k,_,_,h⟩)
   ·exact absurd hz h
   ·exact absurd(e0 i) h
   ·exact absurd(e1 k) h
 ·have e0:∀i,yn p xs xb i=zb(p.s xs.toNat) i/\zAF p xs xb i=zu(p.s xs.toNat) i:=fun i=>⟨if_neg hz,if_neg hz⟩
  unfold zT;rw [if_neg hz,List.mem_cons,zCP];constructor
  ·rintro(h | ⟨i,hi,h⟩)
   ·exact Or.inl ⟨h,hz⟩
   ·obtain⟨hn,h⟩:=zCf.1 h;rw [<-(e0 i).1,<-(e0 i).2] at hn;rcases h with h | h
    ·exact Or.inr(Or.inl ⟨i,hi,by rw [(e0 i).1,(e0 i).2];exact h,hn⟩)
    ·obtain⟨a,ha,h,na⟩:=yj.1 h;have q1:(i*8+a) / 8=i:=(by omega);have q2:(i*8+a) % 8=a:=(by omega);have e1:qo p xs xb(i*8+a)=zb(p.s(zb(p.s xs.toNat) i).toNat) a:=by
      unfold qo qy yL;rw [q1,q2];unfold yn at hn ⊢;rw [if_neg hz] at hn ⊢;rw [if_neg hn]
     have e2:qp p xs xb(i*8+a)=zu(p.s(zb(p.s xs.toNat) i).toNat) a:=by
      have bA:=hn;rw [(e0 i).1,(e0 i).2] at bA;unfold qp qy yL;rw [q1,q2,(e0 i).1,(e0 i).2];exact if_neg bA
     exact Or.inr(Or.inr ⟨i*8+a,by omega,by rw [e1,e2];exact h,by rw [e1,e2];exact na⟩)
  ·rintro(⟨h,_⟩ | ⟨i,hi,h,hn⟩ | ⟨k,hk,h,hn⟩)
   ·exact Or.inl h
   ·rw [(e0 i).1,(e0 i).2] at h hn;exact Or.inr ⟨i,hi,zCf.2 ⟨hn,Or.inl h⟩⟩
   ·have aA:¬Nil(qy p xs xb k)(yL p xs xb k):=fun hx=>hn ⟨if_pos hx,if_pos hx⟩
    have e1:qo p xs xb k=zb(p.s(qy p xs xb k).toNat)(k % 8):=if_neg aA;have e2:qp p xs xb k=zu(p.s(qy p xs xb k).toNat)(k % 8):=if_neg aA;rw [e1,e2] at h hn;have e3:qy p xs xb k=zb(p.s xs.toNat)(k / 8):=(e0(k / 8)).1;have e4:yL p xs xb k=zu(p.s xs.toNat)(k / 8):=(e0(k / 8)).2;rw [e3] at h hn;rw [e3,e4] at aA;exact Or.inr ⟨k / 8,by omega,zCf.2 ⟨aA,Or.inr(yj.2 ⟨k % 8,by omega,h,hn⟩)⟩⟩
theorem zHL{p:zJ}{xs xb:Int}(hz:¬Nil xs xb)(i:Nat):yn p xs xb i=zb(p.s xs.toNat) i/\zAF p xs xb i=zu(p.s xs.toNat) i:=⟨if_neg hz,if_neg hz⟩
theorem zE1{p:zJ}{xs xb:Int}{i:Nat}(h:¬Nil(yn p xs xb i)(zAF p xs xb i)):¬Nil xs xb:=fun hx=>h ⟨if_pos hx,if_pos hx⟩
theorem zP9{p:zJ}{xs xb:Int}(hT:ym p xs xb){i:Nat}(hi:i<8)(h:¬Nil(yn p xs xb i)(zAF p xs xb i)):zAy p(yn p xs xb i)(zAF p xs xb i)/\zPe p(p.s(yn p xs xb i).toNat):=by
 have hz:=zE1 h;obtain⟨h1,h2,h3⟩:=hT.2.resolve_left hz;rw [(zHL hz i).1,(zHL hz i).2] at h ⊢;exact(h2.1 i hi).resolve_left h
theorem zP2{p:zJ}{xs xb:Int}(hT:ym p xs xb)(h:¬Nil xs xb):zAy p xs xb:=(hT.2.resolve_left h).1
theorem zKN{p:zJ}{xs xb:Int}(hT:ym p xs xb){i:Nat}(hi:i<8)(h:¬Nil(yn p xs xb i)(zAF p xs xb i)):yn p xs xb i≠xs:=by
 have hz:=zE1 h;obtain⟨h1,h2,h3⟩:=hT.2.resolve_left hz;rw [(zHL hz i).1] at h ⊢;rw [(zHL hz i).2] at h;exact zN1 h2 hi h
theorem Ext.free{p q:zJ}(h:Ext p q){j:Nat}(hf:qG(q.s j)):qG(p.s j):=Classical.byContradiction fun hn=>hn(by rw [h.s j hn] at hf;exact hf)
theorem zQJ{p:zJ}{xs xb:Int}{n:Nat}{z:Int×Int}:z∈qe p xs xb n 3↔(z=(qo p xs xb n,qp p xs xb n)/\¬Nil(qo p xs xb n)(qp p xs xb n))\/(z=(qy p xs xb n,yL p xs xb n)/\¬Nil(qy p xs xb n)(yL p xs xb n))\/(z=(xs,xb)/\¬Nil xs xb):=by
 unfold qe;rw [yj];constructor
 ·rintro⟨i,hi,h⟩;rcases i with _ | _ | _ | i
  ·exact Or.inl h
  ·exact Or.inr(Or.inl h)
  ·exact Or.inr(Or.inr h)
  ·omega
 ·rintro(h | h | h)
  ·exact⟨0,by omega,h⟩
  ·exact⟨1,by omega,h⟩
  ·exact⟨2,by omega,h⟩
theorem zMx{p:zJ}{xs xb:Int}{n:Nat}(hT:ym p xs xb)(hn:n<64){z:Int×Int}(h:z∈qe p xs xb n 3):z∈zT p xs xb:=by
 rw [zPi hT];rcases zQJ.1 h with h | h | h
 ·exact Or.inr(Or.inr ⟨n,hn,h⟩)
 ·exact Or.inr(Or.inl ⟨n / 8,by omega,h⟩)
 ·exact Or.inl h
theorem zH5{l:List(Int×Int)}(h:(yK l).Nodup):l.Nodup:=by
 unfold yK List.Nodup at *;rw [List.pairwise_map] at h;exact h.imp(fun aA e=>aA(by rw [e]))
theorem zN4{p:zJ}{xs xb:Int}{n:Nat}(hT:ym p xs xb)(hn:n<64):(qe p xs xb n 3).Nodup:=by
 apply zH5;unfold qe;rw [zFt];intro i hi j hj ni nj;rcases i with _ | _ | _ | i
 ·omega
 ·obtain rfl:j=0:=(by omega);exact fun e=>zGO(zP9 hT(i:=n / 8)(by omega) ni).1((zNH hT hn).resolve_left nj) e.symm
 ·rcases j with _ | _ | j
  ·exact fun e=>zGO(zP2 hT ni)((zNH hT hn).resolve_left nj) e.symm
  ·exact zKN hT(i:=n / 8)(by omega) nj
  ·omega
 ·omega
theorem qZ.set{w:World}{S:Nat->Prop}{a:Option Addr}{c:Nat}{v1:Value}{p:zJ}(h:qZ w S(.slice a p.n c) v1 p){i:Nat}(hi':i<p.n) :
  ∃bs off,a=some ⟨bs,off,none⟩/\S bs/\(∃x0 x1 x2,zX w bs(off+i*3) x0/\zX w bs(off+i*3+1) x1/\zX w bs(off+i*3+2) x2)/\
   ∀(s:zL)(nb:Nat)(nv:Value),zj w nb nv s.kn s.ks s.kb->s.data.size<=maxLen->(0<s.kn->¬S nb)->
    qZ(((w.setCell ⟨bs,off+i*3,none⟩(.int .i64 s.zRU)).setCell ⟨bs,off+i*3+1,none⟩ nv).setCell ⟨bs,off+i*3+2,none⟩(.string s.data))(fun k=>S k\/(0<s.kn/\k=nb))(.slice a p.n c) v1(qm p i s):=by
 obtain⟨bs,hb,kb,kv,⟨hm,a0,c0,hv,hcc,hx⟩,hap,hint,hnb,hpl⟩:=h;simp only [Value.slice.injEq,true_and] at hv;obtain⟨rfl,rfl⟩:=hv;have h0:0<p.n:=by omega
 obtain⟨off,ha,hsl⟩:=hx h0;have cA:=hpl bs(Or.inl(Or.inl ⟨h0,rfl⟩));have dA:∀j,j<p.n->0<(p.s j).kn->S(kb j):=fun j hj hk=>hpl _(Or.inl(Or.inr ⟨j,hj,hk,rfl⟩))
 have eA:0<p.hn->S hb:=fun h=>hpl _(Or.inr ⟨h,rfl⟩)
 refine⟨bs,off,ha,cA,⟨_,_,_,(hsl i hi').zRU,(hsl i hi').kidsv,(hsl i hi').data⟩,fun s nb nv hp hs bA=>?_⟩;refine⟨bs,hb,(fun j=>if j=i then nb else kb j),(fun j=>if j=i then nv else kv j),⟨hm,a,c,rfl,hcc,fun _=>⟨off,ha,fun j hj=>?_⟩⟩,fun j k hj hk gA g1 g2=>?_,?_,fun g0 hx=>?_,fun k hk=>?_⟩
 ·have aA:=hsl j hj;by_cases e:j=i
  ·subst e;simp only [qm,if_true];refine⟨?_,?_,?_,?_,hs,fun hk e=>bA hk(e▸cA)⟩
   ·exact((aA.zRU.set _).zRK _(Or.inr(by omega))).zRK _(Or.inr(by omega))
   ·exact((aA.kidsv.zRK _(Or.inr(by omega))).set _).zRK _(Or.inr(by omega))
   ·exact((aA.data.zRK _(Or.inr(by omega))).zRK _(Or.inr(by omega))).set _
   ·refine((hp.zRR(zF.put _ _ _ _) ?_).zRR(zF.put _ _ _ _) ?_).zRR(zF.put _ _ _ _) ?_
    all_goals exact fun hk e=>bA hk(e▸cA)
  ·simp only [qm,if_neg e];refine⟨?_,?_,?_,?_,aA.zRZ,aA.zRW⟩
   ·exact((aA.zRU.zRK _(Or.inr(by omega))).zRK _(Or.inr(by omega))).zRK _(Or.inr(by omega))
   ·exact((aA.kidsv.zRK _(Or.inr(by omega))).zRK _(Or.inr(by omega))).zRK _(Or.inr(by omega))
   ·exact((aA.data.zRK _(Or.inr(by omega))).zRK _(Or.inr(by omega))).zRK _(Or.inr(by omega))
   ·refine((aA.kids.zRR(zF.put _ _ _ _) ?_).zRR(zF.put _ _ _ _) ?_).zRR(zF.put _ _ _ _) ?_
    all_goals exact fun hk e=>aA.zRW hk e
 ·show(if j=i then nb else kb j)≠(if k=i then nb else kb k);by_cases e1:j=i
  ·by_cases e2:k=i
   ·omega
   ·rw [if_pos e1,if_neg e2];simp only [qm,if_pos e1] at g1;simp only [qm,if_neg e2] at g2;exact fun e=>bA g1(e▸dA k hk g2)
  ·by_cases e2:k=i
   ·rw [if_neg e1,if_pos e2];simp only [qm,if_neg e1] at g1;simp only [qm,if_pos e2] at g2;exact fun e=>bA g2(e▸dA j hj g1)
   ·rw [if_neg e1,if_neg e2];simp only [qm,if_neg e1] at g1;simp only [qm,if_neg e2] at g2;exact hap j k hj hk gA g1 g2
 ·have fA:0<p.hn->hb≠bs:=fun h e=>hnb h(Or.inl ⟨h0,e⟩)
  refine((hint.zRR(zF.put _ _ _ _) ?_).zRR(zF.put _ _ _ _) ?_).zRR(zF.put _ _ _ _) ?_
  all_goals exact fun hk e=>fA hk e
 ·rcases hx with⟨_,e⟩ | ⟨j,hj,g1,e⟩
  ·exact hnb g0(Or.inl ⟨h0,e⟩)
  ·by_cases e1:j=i
   ·simp only [qm,if_pos e1] at g1 e;exact bA g1(e▸eA g0)
   ·simp only [qm,if_neg e1] at g1 e;exact hnb g0(Or.inr ⟨j,hj,g1,e⟩)
 ·rcases hk with(⟨_,e⟩ | ⟨j,hj,g1,e⟩) | ⟨g0,e⟩
  ·exact Or.inl(e▸cA)
  ·by_cases e1:j=i
   ·simp only [qm,if_pos e1] at g1 e;exact Or.inr ⟨g1,e⟩
   ·simp only [qm,if_neg e1] at g1 e;exact Or.inl(e▸dA j hj g1)
  ·exact Or.inl(e▸eA g0)
theorem zDb(bA nb:Nat)(S:Nat->Prop)(a:Option Addr)(c:Nat)(v1 kv:Value)(p:zJ)(s:zL)(w:World)(fA:zc w bA(.slice a p.n c) v1)(hO:¬S bA)(hS:∀k,S k->k<w.heap.size)(hc:p.n<=c)(dA:qZ w S(.slice a p.n c) v1 p)(hp:zj w nb kv s.kn s.ks s.kb)
  (nA:0<s.kn->¬S nb/\nb<w.heap.size)(tA:s.data.size<=maxLen) :
  Calls Tryz.prog 84 #[.pointer(some ⟨bA,0,none⟩),.agg #[.int .i64 s.zRU,kv,.string s.data]] w fun e w'=>
   (∃i,zBZ p.n p.s i/\e = .returned(.tuple #[.agg #[.int .i64(i:Int),.int .i64 s.zRU],.bool true])/\zc w' bA(.slice a p.n c) v1/\qZ w'(fun k=>S k\/(0<s.kn/\k=nb))(.slice a p.n c) v1(qm p i s)/\zF S w w')\/
   ((∀j,j<p.n->¬qG(p.s j))/\e = .returned(.tuple #[.agg #[.int .i64 0,.int .i64 0],.bool false])/\Below w.heap.size w w'):=by
 have aA:=dA.own(lo:=0)(hi:=w.heap.size)(fun k hk=>⟨Nat.zero_le _,hS k hk⟩);have hm:p.n<=2 ^ 63 - 1:=aA.at.1.1;have iA:=zU aA;clear aA;have cA:=zU fA;have lA:=zU dA;have Hq:=zU hp;obtain⟨_,ka,kc,rfl,_⟩:=hp;have fB:bA<w.heap.size:=fA.1.lt;clear fA dA;have ha:=zC w(.cells #[.int .i64 s.zRU,.slice ka s.kn kc,.string s.data] 127);have rA:=zA ha(zC _(.cells #[.int .i64 0,.int .i64 0] 61));have HS:=zU((yT.zRL w(.int .i64 s.zRU)(.slice ka s.kn kc)(.string s.data) 127).zRJ(zC _(.cells #[.int .i64 0,.int .i64 0] 61)));have hr:=zc.zRL(w.alloc(.cells #[.int .i64 s.zRU,.slice ka s.kn kc,.string s.data] 127))(.int .i64 0)(.int .i64 0) 61;rw [World.size_alloc] at hr;have HR:=zU hr;clear hr ha;go_enter Tryz.func84,Tryz.ntmps84;go_wp2
 go_loopw [6](fun i wr=>∃k:Nat,k<=p.n/\i = .int .i64 k/\(∀j,j<k->¬qG(p.s j))/\yT wr w.heap.size(.int .i64 s.zRU)(.slice ka s.kn kc)(.string s.data)/\zc wr(w.heap.size+1)(.int .i64 0)(.int .i64 0)/\Below w.heap.size w wr)(fun i _=>p.n - (intOf i).toNat)
 case atStart=>exact⟨0,Nat.zero_le _,rfl,fun j hj=>absurd hj(Nat.not_lt_zero _),HS.out,HR.out,rA⟩
 case round=>
  obtain⟨k,hk,rfl,hall,hs,hr,hb⟩:=hrel;have eA:=zU hall;have Hs:=zU hs;have Hr:=zU hr;clear hall hs hr;obtain⟨⟨x0,x1⟩,⟨x2,x3⟩⟩:=cA.out.zRJ hb;by_cases kA:k<p.n
  ·have cB:(k:Int)<(p.n:Int):=(by omega);obtain⟨b,off,ka',kc',rfl,hc'⟩:=(iA.out.at.1.zRJ hb).cells kA;have Hc:=zU hc';obtain⟨q0,q1,q2,_⟩:=hc';go_wp2_with fail;refine(zAC _ _ _ 0 w.heap.size(p.s k) _ Hc.out.slot).mono ?_;rintro e w1 ⟨⟨t,rfl,ht⟩,hb1⟩;have gA:=zA hb hb1;have oA:=zU(Hs.out.zRJ hb1);have mA:=zU(Hr.out.zRJ hb1);clear hb1 q0 q1 q2 Hc x0 x1 x2 x3 Hs Hr;by_cases hf:qG(p.s k)
   ·obtain rfl:t=true:=ht.2 hf;have HF:=zU hf;clear ht hf;obtain⟨⟨x0,x1⟩,⟨x2,x3⟩⟩:=cA.out.zRJ gA;obtain⟨⟨y0,y1⟩,⟨y2,y3⟩,⟨y4,y5⟩⟩:=oA.out;obtain⟨⟨z0,z1⟩,⟨z2,z3⟩⟩:=mA.out;obtain⟨bs,off',he,hbs,⟨q0,q1,q2,⟨r0,r1⟩,⟨r2,r3⟩,⟨r4,r5⟩⟩,hset⟩:=(lA.out.zRJ gA).set(i:=k) kA;simp only [Option.some.injEq,Addr.mk.injEq,and_true] at he;obtain⟨rfl,rfl⟩:=he;have n0:b≠bA:=fun e=>hO(e▸hbs)
    have dB:b<w.heap.size:=hS b hbs;have n1:b≠w.heap.size:=(by omega);have n2:b≠w.heap.size+1:=(by omega);have n3:w.heap.size+1≠w.heap.size:=(by omega);go_wp2_with fail;go_region_held3(fun w'=>w'.cell? ⟨bA,0,none⟩=some(.slice(some ⟨b,off,none⟩) p.n c)/\w'.cell? ⟨w.heap.size,0,none⟩=some(.int .i64 s.zRU)/\w'.cell? ⟨w.heap.size,1,none⟩=some(.slice ka s.kn kc)/\w'.cell? ⟨w.heap.size,2,none⟩=some(.string s.data))(go_keep)(fail);have tX:=((zF.put w1 b(off+k*3)(.int .i64 s.zRU)).trans(zF.put _ b(off+k*3+1)(.slice ka s.kn kc))).trans(zF.put _ b(off+k*3+2)(.string s.data));have bB:=zU(mA.out.zRR tX(by omega));have aB:=zU(hset s nb(.slice ka s.kn kc)(Hq.out.zRJ gA) tA(fun h0=>(nA h0).1));have vA:=zU((cA.out.zRJ gA).zRR tX(by omega));have pA:=zU((zF.zRM(S:=S) gA).trans2 tX(fun k hk _=>by
     have sA:k=b:=(by omega);exact sA▸hbs))
    clear hset tX;go_wp2;have jA:=bB.out.put(.int .i64(k:Int))(.int .i64 s.zRU);have t2:=(zF.put(((w1.setCell ⟨b,off+k*3,none⟩(.int .i64 s.zRU)).setCell ⟨b,off+k*3+1,none⟩(.slice ka s.kn kc)).setCell ⟨b,off+k*3+2,none⟩(.string s.data))(w.heap.size+1) 0(.int .i64(k:Int))).trans(zF.put _(w.heap.size+1) 1(.int .i64 s.zRU));have gB:=t2.size;have eB:=pA.out.size;refine bodyPost_ret(v:=.tuple #[.agg #[.int .i64(k:Int),.int .i64 s.zRU],.bool true])(by simp [results,Tryz.results84,go_sem,jA.1.1,jA.2.1]) rfl(Or.inl ⟨k,⟨kA,HF.out,eA.out⟩,rfl,?_,?_,?_⟩)
    ·exact(vA.out.zRR t2(by omega)).zRJ(Below.refl _ _).drew
    ·exact(aB.out.zRR t2(fun k hk=>by
      rcases hk with hk | hk
      ·have:=hS k hk;omega
      ·have:=nA hk.1;omega)).zRJ(Below.refl _ _).drew
    ·exact(pA.out.trans2 t2(fun k hk kA=>by omega)).trans(zF.zRM(Below.refl _ _).drew)
   ·obtain rfl:t=false:=zQ ht hf;have HF:=zU hf;clear ht hf;go_wp2;go_roundw
    case rel=>exact⟨k+1,by omega,by go_num,zo kA eA.out HF.out,oA.out,mA.out,gA⟩
    case measure=>simp [intOf];omega
  ·obtain rfl:k=p.n:=(by omega);obtain⟨⟨z0,z1⟩,⟨z2,z3⟩⟩:=Hr.out;go_wp2;have jA:=Hr.out.put(.int .i64 0)(.int .i64 0);exact bodyPost_ret(v:=.tuple #[.agg #[.int .i64 0,.int .i64 0],.bool false])(by simp [results,Tryz.results84,go_sem,jA.1.1,jA.2.1]) rfl(Or.inr ⟨eA.out,rfl,(hb.setCell(by show _<=w.heap.size+1;omega) _).setCell(by show _<=w.heap.size+1;omega) _⟩)
theorem zFl(v0 v1:Value)(lo hi:Nat)(p:zJ)(xs xb:Int)(w:World)(h1:zy w lo hi v0 v1 p) :
  Calls Tryz.prog 78 #[.agg #[v0,v1],.agg #[.int .i64 xs,.int .i64 xb]] w fun e w'=>zG(ym p xs xb) e/\Below w.heap.size w w':=by
 have Hp:=zE h1;obtain⟨a,c,a',c',rfl,rfl⟩:∃a c a' c',v0 = .slice a p.n c/\v1 = .slice a' p.hn c':=by
  obtain⟨⟨_,a,c,h1,_⟩,⟨_,a',c',h3,_⟩⟩:=h1;exact⟨a,c,a',c',h1,h3⟩
 clear h1;have bA:=zBx w(.slice a p.n c)(.slice a' p.hn c')(.int .i64 xs)(.int .i64 xb) 33 61;go_enter Tryz.func78,Tryz.ntmps78;go_wp2_with fail;generalize(w.alloc(.cells #[.slice a p.n c,.slice a' p.hn c'] 33)).alloc(.cells #[.int .i64 xs,.int .i64 xb] 61)=W at bA ⊢;obtain⟨hB,hX,hba,hz⟩:=bA;refine(zC0 _ _ lo hi p W(Hp.out.zRJ hba)).mono ?_;rintro e w1 ⟨⟨t,rfl,ht⟩,hb1⟩;have dA:=zE(hB.zRJ hb1);have cA:=zE(hX.zRJ hb1);have aA:=zA hba hb1;clear hB hX hba hb1 hz;by_cases hR:zv p
 ·have HR:=zE hR;obtain rfl:t=true:=ht.2 hR;clear ht hR;obtain⟨⟨x0,x1⟩,⟨x2,x3⟩⟩:=dA.out;obtain⟨⟨y0,y1⟩,⟨y2,y3⟩⟩:=cA.out;go_wp2_with fail;refine(zCD _ _ lo hi p xs xb _(Hp.out.zRJ aA) HR.out).mono ?_;rintro e w2 ⟨⟨t,rfl,ht⟩,hb2⟩;have eA:=zA aA hb2;have Ht:=zE ht;clear hb2 ht;go_wp2;go_ret;exact⟨⟨_,rfl,Ht.out.trans ⟨fun h=>⟨HR.out,h⟩,fun h=>h.2⟩⟩,eA⟩
 ·have HR:=zE hR;obtain rfl:t=false:=zQ ht hR;clear ht hR;go_wp2;go_ret;exact⟨zG.no fun h=>HR.out h.1,aA⟩
theorem zNU{w:World}{base g cp:Nat}{f h:Nat->Int}(hr:zw w base(.slice(some ⟨g,0,none⟩) 8 cp)(zBB f h 8)){j:Nat}(hj:j<8)(x y:Int) :
  zj((w.setCell ⟨g,j*2,none⟩(.int .i64 x)).setCell ⟨g,j*2+1,none⟩(.int .i64 y)) g(.slice(some ⟨g,0,none⟩) 8 cp) 8(fun i=>if i=j then x else f i)(fun i=>if i=j then y else h i):=by
 obtain⟨b,cap,e,hcp,_,_,hcell⟩:=qf hr(by rw [yG];omega);simp only [Value.slice.injEq,Option.some.injEq,Addr.mk.injEq,and_true] at e;obtain⟨rfl,_,rfl⟩:=e;rw [yG] at hcp;refine⟨by unfold maxLen;omega,_,cp,rfl,hcp,fun _=>⟨0,rfl,fun i hi=>?_⟩⟩;have h1:=hcell _ _(zBa(zBB f h 8) i(by rw [yG];exact hi)).1;have h2:=hcell _ _(zBa(zBB f h 8) i(by rw [yG];exact hi)).2;have:=zKk f h hi;unfold zf zh at this;rw [this.1] at h1;rw [this.2] at h2;rw [Nat.zero_add];show zX _ g(i*2)(.int .i64(if i=j then x else f i))/\zX _ g(i*2+1)(.int .i64(if i=j then y else h i));by_cases e:i=j
 ·subst e;rw [if_pos rfl,if_pos rfl];exact⟨(h1.set _).zRK _(Or.inr(by omega)),(h2.zRK _(Or.inr(by omega))).set _⟩
 ·rw [if_neg e,if_neg e];exact⟨(h1.zRK _(Or.inr(by omega))).zRK _(Or.inr(by omega)),(h2.zRK _(Or.inr(by omega))).zRK _(Or.inr(by omega))⟩
theorem zJH{w:World}{base g cp:Nat}{f h:Nat->Int}(hr:zw w base(.slice(some ⟨g,0,none⟩) 8 cp)(zBB f h 8)):base<=g/\g<w.heap.size/\8<=cp/\∀i,i<8->zX w g(i*2)(.int .i64(f i))/\zX w g(i*2+1)(.int .i64(h i)):=by
 obtain⟨b,cap,e,hcp,hb,hlt,hcell⟩:=qf hr(by rw [yG];omega);simp only [Value.slice.injEq,Option.some.injEq,Addr.mk.injEq,and_true] at e;obtain⟨rfl,_,rfl⟩:=e;rw [yG] at hcp;refine⟨hb,hlt,hcp,fun i hi=>?_⟩;have h1:=hcell _ _(zBa(zBB f h 8) i(by rw [yG];exact hi)).1;have h2:=hcell _ _(zBa(zBB f h 8) i(by rw [yG];exact hi)).2;have:=zKk f h hi;unfold zf zh at this;rw [this.1] at h1;rw [this.2] at h2;exact⟨h1,h2⟩
theorem zHR(w:World)(p:zJ)(xs xb:Int)(n:Nat)(t:TypeId):zR(w.alloc(.cells #[.int .i64(qo p xs xb n),.int .i64(qp p xs xb n),.int .i64(qy p xs xb n),.int .i64(yL p xs xb n),.int .i64 xs,.int .i64 xb] t)) 0(w.heap.size+1)(.slice(some ⟨w.heap.size,0,none⟩) 3 3) 3(fun i=>qq p xs xb n(2 - i))(fun i=>yR p xs xb n(2 - i)):=by
 have hb:(w.alloc(.cells #[.int .i64(qo p xs xb n),.int .i64(qp p xs xb n),.int .i64(qy p xs xb n),.int .i64(yL p xs xb n),.int .i64 xs,.int .i64 xb] t)).heap[w.heap.size]?=some(.cells #[.int .i64(qo p xs xb n),.int .i64(qp p xs xb n),.int .i64(qy p xs xb n),.int .i64(yL p xs xb n),.int .i64 xs,.int .i64 xb] t):=heap_alloc_new _ _;refine⟨by unfold maxLen;omega,_,3,rfl,Nat.le_refl _,fun _=>⟨w.heap.size,0,rfl,Nat.zero_le _,Nat.lt_succ_self _,fun i hi=>?_⟩⟩;rcases i with _ | _ | _ | i
 ·exact⟨(zI hb rfl).1,(zI hb rfl).1⟩
 ·exact⟨(zI hb rfl).1,(zI hb rfl).1⟩
 ·exact⟨(zI hb rfl).1,(zI hb rfl).1⟩
 ·omega
end Go.Proofs.YtmgeglgboadfiaaGreatDoor
