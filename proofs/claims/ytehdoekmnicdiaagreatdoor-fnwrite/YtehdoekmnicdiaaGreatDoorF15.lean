/- A part of the proof. -/
import Derived.Test.YtehdoekmnicdiaaGreatDoorF14
import Derived.Deep.LoopGhost
import Derived.RegionTactic
import Derived.ChangeAlike
import Derived.BigRegion
import Derived.Maps.OwnSet
set_option linter.unusedVariables false
set_option maxRecDepth 20000
set_option maxHeartbeats 4000000
namespace Go.Proofs.YtehdoekmnicdiaaGreatDoor
noncomputable section
open Go.RowKit
def BK(b:Int)(d:ByteArray):AG:={birth:=b,kn:=0,ks:=fun _=>0,kb:=fun _=>0,data:=d}
open Classical in
def CA(p:A5)(xs xb AA:Int)(d:ByteArray)(b:Int):D4:=
 if 8000<d.size then DB 2 else if Ai p xs xb/\Bv xb b then(if EA AA/\d.size=16 then(if (By p (BK b d)).code=0 then Bn p xs xb AA.toNat b ⟨(By p (BK b d)).pool,(By p (BK b d)).ps,(By p (BK b d)).pb,0⟩else DB (By p (BK b d)).code)else DB 8)else DB 1
variable{p:A5}{xs xb AA b:Int}{d:ByteArray}
theorem Oj(h:8000<d.size):CA p xs xb AA d b=DB 2:=if_pos h
theorem MV(a:¬8000<d.size)(h:¬(Ai p xs xb/\Bv xb b)):CA p xs xb AA d b=DB 1:=(if_neg a).trans (if_neg h)
theorem MZ(a:¬8000<d.size)(h:Ai p xs xb/\Bv xb b)(c:¬(EA AA/\d.size=16)):CA p xs xb AA d b=DB 8:=((if_neg a).trans (if_pos h)).trans (if_neg c)
theorem Xl(a:¬8000<d.size)(h:Ai p xs xb/\Bv xb b)(c:EA AA/\d.size=16)(e:(By p (BK b d)).code≠0):CA p xs xb AA d b=DB (By p (BK b d)).code:=(((if_neg a).trans (if_pos h)).trans (if_pos c)).trans (if_neg e)
theorem VY(a:¬8000<d.size)(h:Ai p xs xb/\Bv xb b)(c:EA AA/\d.size=16)(e:(By p (BK b d)).code=0):CA p xs xb AA d b=Bn p xs xb AA.toNat b ⟨(By p (BK b d)).pool,(By p (BK b d)).ps,(By p (BK b d)).pb,0⟩:=(((if_neg a).trans (if_pos h)).trans (if_pos c)).trans (if_pos e)
theorem zDP(v0 v1:Value)(lo hi:Nat)(p:A5)(xs xb AA b:Int)(d:ByteArray)(w:World)(h1:C6 w lo hi v0 v1 p) :
 Calls Tryz.prog 26 #[.agg #[v0,v1],.agg #[.int .i64 xs,.int .i64 xb],.int .i64 AA,.string d,.int .i64 b] w (Lq (CA p xs xb AA d b) w):=by
 have Hp:=A9 h1;obtain⟨a,c,a',c',rfl,rfl⟩:=h1.form;clear h1;have oC:=qV w (.slice a p.n c) (.slice a' p.hn c') (.int .i64 xs) (.int .i64 xb) 26 38 69;go_enter Tryz.func26,Tryz.ntmps26;go_upto_region 1 with fail;generalize ((w.alloc (.cells #[.slice a p.n c,.slice a' p.hn c'] 26)).alloc (.cells #[.int .i64 xs,.int .i64 xb] 38)).alloc (.cells #[.slice none 0 0,.slice none 0 0,.int .i64 0,.int .i64 0,.slice none 0 0,.int .i64 0] 69)=W at oC ⊢;obtain⟨hB,hX,hR,m,hz⟩:=oC;by_cases pB:8000<d.size
 ·have z:=A9 pB;have bE:(8000:Int)<(d.size:Int):=(by omega);have HR:=A9 hR;obtain⟨⟨r0,r1⟩,⟨r2,r3⟩,⟨r4,r5⟩,⟨r6,r7⟩,⟨r8,r9⟩,⟨s,u⟩⟩:=HR.out
  try go_wp2
  have f:=HR.out.put (.slice none 0 0) (.slice none 0 0) (.int .i64 0) (.int .i64 0) (.slice none 0 0) (.int .i64 2);have i:=Ff (R:=w.heap.size+1+1) (c:=2) (by omega) m;rw[Oj z.out];exact bodyPost_ret (v:=.agg #[.slice none 0 0,.slice none 0 0,.int .i64 0,.int .i64 0,.slice none 0 0,.int .i64 2]) (by simp[results,Tryz.results26,go_sem,f.1.1,f.2.1.1,f.2.2.1.1,f.2.2.2.1.1,f.2.2.2.2.1.1,f.2.2.2.2.2.1]) rfl i
 ·have z:=A9 pB;have bE:¬(8000:Int)<(d.size:Int):=(by omega);clear pB;obtain⟨⟨x0,x1⟩,⟨x2,x3⟩⟩:=id hB;obtain⟨⟨y0,y1⟩,⟨y2,y3⟩⟩:=id hX;go_wp2_with fail;refine(Ze _ _ lo hi p xs xb W (Hp.out.A0 m)).mono ?_;rintro e w1 ⟨⟨t,rfl,ht⟩,Q⟩;have jC:=A9 (hB.A0 Q);have lB:=A9 (hX.A0 Q);have iA:=A9 (hR.A0 Q);have nB:=A7 m Q;have gE:w.heap.size+3<=w1.heap.size:=(by have:=Q.size;omega);clear hB hX hR m Q hz x0 x1 x2 x3 y0 y1 y2 y3;by_cases P:Ai p xs xb
  ·have M:=A9 P;obtain rfl:t=true:=ht.2 P;clear ht P;obtain⟨⟨y0,y1⟩,⟨y2,y3⟩⟩:=lB.out;go_wp2_with fail;refine(Z1 xs xb b w1).mono ?_;rintro e w2 ⟨⟨t,rfl,ht⟩,U⟩;have kB:=A9 (jC.out.A0 U);have lC:=A9 (lB.out.A0 U);have q:=A9 (iA.out.A0 U);have N:=A7 nB U;have kF:w.heap.size+3<=w2.heap.size:=(by have:=U.size;omega);clear U nB jC lB iA gE y0 y1 y2 y3;by_cases O:Bv xb b
   ·have jA:=A9 (And.intro M.out O);obtain rfl:t=true:=ht.2 O;clear ht O;obtain⟨⟨r0,r1⟩,⟨r2,r3⟩,⟨r4,r5⟩,⟨r6,r7⟩,⟨r8,r9⟩,⟨s,u⟩⟩:=q.out;by_cases hN:EA AA
    ·have L:=A9 hN;obtain⟨n,rfl⟩:=Int.eq_ofNat_of_zero_le hN.1;have J:n<64:=(by have:=hN.2;omega);clear hN;by_cases D:d.size=16
     ·have gA:=A9 (And.intro L.out D);have cE:((d.size:Int) != 16)=false:=(by simp;omega);have Y:=A9 D;clear D r0 r1 r2 r3 r4 r5 r6 r7 r8 r9 s u;obtain⟨⟨x0,x1⟩,⟨x2,x3⟩⟩:=kB.out;go_wp2_with (first | (go_at_call 53;refine(Mb _ _).mono ?_;rintro e w9 ⟨⟨t2,rfl,E⟩,rfl⟩;obtain rfl:t2=true:=E.2 L.out;clear E) | fail);go_wp2_with fail;have HS:Hid (CQ w9 0 0 (.int .i64 (BK b d).birth) (.slice none 0 0) (.string (BK b d).data) (BK b d)):=⟨rfl,⟨Nat.zero_le _,none,0,rfl,Nat.le_refl _,fun h=>absurd h (Nat.lt_irrefl _)⟩,rfl,by show d.size<=maxLen;rw[Y.out];unfold maxLen;omega⟩;have fE:=Jw M.out.1;refine(Za _ _ _ lo hi 0 0 p (BK b d) w9 (Hp.out.A0 N) HS.out (by show An p+(0+d.size)<=_;rw[Y.out];omega)).mono ?_;rintro e w3 ⟨t0,t1,rfl,nA,oB⟩;have dA:Hid ((By p (BK b d)).code≠0->CA p xs xb (n:Int) d b=DB (By p (BK b d)).code):=fun h=>Xl z.out jA.out gA.out h
      have eA:Hid ((By p (BK b d)).code=0->CA p xs xb (n:Int) d b=Bn p xs xb n b ⟨(By p (BK b d)).pool,(By p (BK b d)).ps,(By p (BK b d)).pb,0⟩):=fun h=>VY z.out jA.out gA.out h
      have mB:Hid (An (By p (BK b d)).pool+16<=1048576):=by
       have h1:=Rb p (BK b d);have h2:Cf (BK b d)=16:=(by show 0+d.size=16;rw[Y.out]);show _<=_;omega
      generalize By p (BK b d)=od at nA dA eA mB ⊢;obtain⟨ta,tc,F,G,rfl,rfl⟩:=nA.form;have aA:=AC w3 (.cells #[.slice ta od.pool.n tc,.slice F od.pool.hn G,.int .i64 od.ps,.int .i64 od.pb,.int .i64 od.code] 104);have Z:=A7 oB aA;have kA:=A9 (nA.A0 aA);have r:=A9 (Dp.new w3 (.slice ta od.pool.n tc) (.slice F od.pool.hn G) (.int .i64 od.ps) (.int .i64 od.pb) (.int .i64 od.code) 104);have x:=A9 (kB.out.A0 Z);have y:=A9 (lC.out.A0 Z);have X:=A9 (q.out.A0 Z);have C:=A7 N Z;have iE:=oB.size;have pC:w3.heap.size<(w3.alloc (.cells #[.slice ta od.pool.n tc,.slice F od.pool.hn G,.int .i64 od.ps,.int .i64 od.pb,.int .i64 od.code] 104)).heap.size:=(by rw[World.size_alloc];omega);clear nA oB aA Z x0 x1 x2 x3 kB lC q N HS fE;go_upto_region 8 with fail;generalize w3.alloc (.cells #[.slice ta od.pool.n tc,.slice F od.pool.hn G,.int .i64 od.ps,.int .i64 od.pb,.int .i64 od.code] 104)=wD at kA r x y X C pC ⊢;generalize w3.heap.size=T at kA r iE pC ⊢;obtain⟨⟨t0,t1⟩,⟨t2,t3⟩,⟨t4,t5⟩,⟨t6,t7⟩,⟨t8,t9⟩⟩:=r.out;by_cases hc:od.code=0
      ·have eE:(od.code != 0)=false:=(by simp[hc]);have fA:=A9 (eA.out hc);clear hc dA eA;obtain⟨⟨x0,x1⟩,⟨x2,x3⟩⟩:=x.out;obtain⟨⟨y0,y1⟩,⟨y2,y3⟩⟩:=y.out;go_upto_region 10 with fail;by_cases mA:(Bn p xs xb n b ⟨od.pool,od.ps,od.pb,0⟩).code=0
       ·have HC:=A9 mA;clear mA;refine wp_region_held_drew (S:=(fun w'=>w'.cell? ⟨T,0,none⟩=some (.slice ta od.pool.n tc)/\w'.cell? ⟨T,1,none⟩=some (.slice F od.pool.hn G)/\w'.cell? ⟨T,2,none⟩=some (.int .i64 od.ps)/\w'.cell? ⟨T,3,none⟩=some (.int .i64 od.pb)/\w'.cell? ⟨w.heap.size,0,none⟩=some (.slice a p.n c)/\w'.cell? ⟨w.heap.size+1,0,none⟩=some (.int .i64 xs)/\w'.cell? ⟨w.heap.size+1,1,none⟩=some (.int .i64 xb))) (by kernel_rfl) ?_ (fun hHeld=>?_)
        ·(try dsimp only)
         go_keep
        refine tk 0 (h:=tk 1 (h:=tk 2 (h:=tk 3 (h:=tk 4 (h:=tk 5 (h:=tk 7 (h:=tk 8 (h:=tk 9 (h:=?_)))))))));refine rd [6] (rc (fun K hK=>?_) .nil);go_simp;go_at_call 56;refine(RE _ lo hi p xs xb n _ ?_ M.out J).mono ?_
        ·first | exact(Hp.out.A0 C).1 | exact(Hp.out.A0 C.drew).1
        rintro e wa ⟨o,rfl,I,m⟩;obtain⟨rA,sA,rfl,_⟩:=Bh I;have A:=A9 I;clear I;have j:Below wD.heap.size wD wa:=(by first | exact m | exact Cr m);obtain⟨⟨k0,_⟩,⟨k1,_⟩,⟨k2,_⟩,⟨k3,_⟩,_⟩:=r.out.A0 j;obtain⟨⟨k4,_⟩,_⟩:=x.out.A0 j;obtain⟨⟨k5,_⟩,⟨k6,_⟩⟩:=y.out.A0 j
        (try go_wp2_with fail)
        refine hK.out _ _ (by(try dsimp only);go_keep) ?_;clear hK K hHeld;intro hHeld
        try simp only[Act.put,s1,s2,s3]
        refine rd [10] (rc (fun K hK=>?_) .nil);go_simp;go_at_call 55;refine(Rh _ _ _ _ p od.pool xs xb od.ps od.pb b n _ wa (kA.out.A0 j).at J mB.out (A.out.mono (Nat.zero_le _))).mono ?_;rintro e wb (⟨bA,cA,H⟩ | ⟨bA,s0,s1,cA,oA,H⟩)
        ·exact absurd HC.out bA
        subst cA;have g:=A7 j H;obtain⟨a5,c5,a6,c6,rfl,rfl⟩:=oA.form;obtain⟨⟨l0,_⟩,⟨l1,_⟩,⟨l2,_⟩,⟨l3,_⟩,_⟩:=r.out.A0 g;obtain⟨⟨l4,_⟩,_⟩:=x.out.A0 g;obtain⟨⟨l5,_⟩,⟨l6,_⟩⟩:=y.out.A0 g;have V:=A9 (X.out.A0 g);obtain⟨⟨r0,r1⟩,⟨r2,r3⟩,⟨r4,r5⟩,⟨r6,r7⟩,⟨r8,r9⟩,⟨s,u⟩⟩:=V.out;have l:Hid (∀(u0 u1 u2 u3 u4 u5:Value),(fun (w':World)=>w'.cell? ⟨T,0,none⟩=some (.slice ta od.pool.n tc)/\w'.cell? ⟨T,1,none⟩=some (.slice F od.pool.hn G)/\w'.cell? ⟨T,2,none⟩=some (.int .i64 od.ps)/\w'.cell? ⟨T,3,none⟩=some (.int .i64 od.pb)/\w'.cell? ⟨w.heap.size,0,none⟩=some (.slice a p.n c)/\w'.cell? ⟨w.heap.size+1,0,none⟩=some (.int .i64 xs)/\w'.cell? ⟨w.heap.size+1,1,none⟩=some (.int .i64 xb)) (put6 wb (w.heap.size+1+1) u0 u1 u2 u3 u4 u5)):=by
         intro u0 u1 u2 u3 u4 u5;have t:=AE.put6 wb (w.heap.size+1+1) u0 u1 u2 u3 u4 u5;have g1:=(r.out.A0 g).AD t (by omega);have g2:=(x.out.A0 g).AD t (by omega);have g3:=(y.out.A0 g).AD t (by omega);exact⟨g1.1.1,g1.2.1.1,g1.2.2.1.1,g1.2.2.2.1.1,g2.1.1,g3.1.1,g3.2.1⟩
        (try go_wp2_with fail)
        refine hK.out _ _ (by(try dsimp only);go_keep) ?_;clear hK K hHeld;intro hHeld
        try simp only[Act.put,s1,s2,s3]
        refine rd [11] (rc (fun K hK=>?_) .nil);go_simp
        (try go_wp2_with fail)
        refine hK.out _ _ (by(try dsimp only);exact l.out _ _ _ _ _ _) ?_;clear hK K hHeld;intro hHeld
        try simp only[Act.put,s1,s2,s3]
        refine wpAnyH_done (by kernel_rfl) ?_ _;have f:=V.out.put (.slice a5 (layS p xs xb n b ⟨od.pool,od.ps,od.pb,0⟩ 2).pool.n c5) (.slice a6 (layS p xs xb n b ⟨od.pool,od.ps,od.pb,0⟩ 2).pool.hn c6) (.int .i64 (layS p xs xb n b ⟨od.pool,od.ps,od.pb,0⟩ 2).ps) (.int .i64 (layS p xs xb n b ⟨od.pool,od.ps,od.pb,0⟩ 2).pb) (.slice rA (BN p xs xb n 3).length sA) (.int .i64 0);have rB:=AE.put6 wb (w.heap.size+1+1) (.slice a5 (layS p xs xb n b ⟨od.pool,od.ps,od.pb,0⟩ 2).pool.n c5) (.slice a6 (layS p xs xb n b ⟨od.pool,od.ps,od.pb,0⟩ 2).pool.hn c6) (.int .i64 (layS p xs xb n b ⟨od.pool,od.ps,od.pb,0⟩ 2).ps) (.int .i64 (layS p xs xb n b ⟨od.pool,od.ps,od.pb,0⟩ 2).pb) (.slice rA (BN p xs xb n 3).length sA) (.int .i64 0);have nC:=A7 C g;have jD:=A9 oA;have lD:Hid (w.heap.size+3<=wD.heap.size):=(by show _<=_;omega);have mD:=A9 j.size;have iD:=A9 H;clear hHeld l l0 l1 l2 l3 l4 l5 l6 k0 k1 k2 k3 k4 k5 k6 oA H;go_wp2;have hE:=fA.out.trans (Zz HC.out);rw[hE];have lF:=lD.out;have mF:=mD.out;exact bodyPost_ret (v:=.agg #[.slice a5 (layS p xs xb n b ⟨od.pool,od.ps,od.pb,0⟩ 2).pool.n c5,.slice a6 (layS p xs xb n b ⟨od.pool,od.ps,od.pb,0⟩ 2).pool.hn c6,.int .i64 (layS p xs xb n b ⟨od.pool,od.ps,od.pb,0⟩ 2).ps,.int .i64 (layS p xs xb n b ⟨od.pool,od.ps,od.pb,0⟩ 2).pb,.slice rA (BN p xs xb n 3).length sA,.int .i64 0]) (by simp[results,Tryz.results26,go_sem,f.1.1,f.2.1.1,f.2.2.1.1,f.2.2.2.1.1,f.2.2.2.2.1.1,f.2.2.2.2.2.1]) rfl ⟨_,_,_,wa.heap.size,wb.heap.size,rfl,by omega,rB.size,jD.out.AD rB (by intro k hk;omega),(((((((A.out.A0 iD.out).put (show w.heap.size+1+1<wD.heap.size by omega) _).put (show w.heap.size+1+1<wD.heap.size by omega) _).put (show w.heap.size+1+1<wD.heap.size by omega) _).put (show w.heap.size+1+1<wD.heap.size by omega) _).put (show w.heap.size+1+1<wD.heap.size by omega) _).put (show w.heap.size+1+1<wD.heap.size by omega) _).mono (show w.heap.size<=wD.heap.size by omega),fun k hk=>Or.inl (A.out.lt hk).2,nC.trans (rB.A0 (B:=w.heap.size) nC.size (by intro k hk;omega))⟩
       ·have HC:=A9 mA;clear mA;refine wp_region_held_drew (S:=(fun w'=>w'.cell? ⟨T,0,none⟩=some (.slice ta od.pool.n tc)/\w'.cell? ⟨T,1,none⟩=some (.slice F od.pool.hn G)/\w'.cell? ⟨T,2,none⟩=some (.int .i64 od.ps)/\w'.cell? ⟨T,3,none⟩=some (.int .i64 od.pb)/\w'.cell? ⟨w.heap.size,0,none⟩=some (.slice a p.n c)/\w'.cell? ⟨w.heap.size+1,0,none⟩=some (.int .i64 xs)/\w'.cell? ⟨w.heap.size+1,1,none⟩=some (.int .i64 xb))) (by kernel_rfl) ?_ (fun hHeld=>?_)
        ·(try dsimp only)
         go_keep
        refine tk 0 (h:=tk 1 (h:=tk 2 (h:=tk 3 (h:=tk 4 (h:=tk 5 (h:=tk 7 (h:=tk 8 (h:=tk 9 (h:=?_)))))))));refine rd [6] (rc (fun K hK=>?_) .nil);go_simp;go_at_call 56;refine(RE _ lo hi p xs xb n _ ?_ M.out J).mono ?_
        ·first | exact(Hp.out.A0 C).1 | exact(Hp.out.A0 C.drew).1
        rintro e wa ⟨o,rfl,I,m⟩;obtain⟨rA,sA,rfl,_⟩:=Bh I;have A:=A9 I;clear I;have j:Below wD.heap.size wD wa:=(by first | exact m | exact Cr m);obtain⟨⟨k0,_⟩,⟨k1,_⟩,⟨k2,_⟩,⟨k3,_⟩,_⟩:=r.out.A0 j;obtain⟨⟨k4,_⟩,_⟩:=x.out.A0 j;obtain⟨⟨k5,_⟩,⟨k6,_⟩⟩:=y.out.A0 j
        (try go_wp2_with fail)
        refine hK.out _ _ (by(try dsimp only);go_keep) ?_;clear hK K hHeld;intro hHeld
        try simp only[Act.put,s1,s2,s3]
        refine rd [10] (rc (fun K hK=>?_) .nil);go_simp;go_at_call 55;refine(Rh _ _ _ _ p od.pool xs xb od.ps od.pb b n _ wa (kA.out.A0 j).at J mB.out (A.out.mono (Nat.zero_le _))).mono ?_;rintro e wb (⟨bA,cA,H⟩ | ⟨bA,s0,s1,cA,oA,H⟩);rotate_left
        ·exact absurd bA HC.out
        subst cA;have g:=A7 j H;obtain⟨⟨l0,_⟩,⟨l1,_⟩,⟨l2,_⟩,⟨l3,_⟩,_⟩:=r.out.A0 g;obtain⟨⟨l4,_⟩,_⟩:=x.out.A0 g;obtain⟨⟨l5,_⟩,⟨l6,_⟩⟩:=y.out.A0 g;have V:=A9 (X.out.A0 g);obtain⟨⟨r0,r1⟩,⟨r2,r3⟩,⟨r4,r5⟩,⟨r6,r7⟩,⟨r8,r9⟩,⟨s,u⟩⟩:=V.out;have l:Hid (∀(u0 u1 u2 u3 u4 u5:Value),(fun (w':World)=>w'.cell? ⟨T,0,none⟩=some (.slice ta od.pool.n tc)/\w'.cell? ⟨T,1,none⟩=some (.slice F od.pool.hn G)/\w'.cell? ⟨T,2,none⟩=some (.int .i64 od.ps)/\w'.cell? ⟨T,3,none⟩=some (.int .i64 od.pb)/\w'.cell? ⟨w.heap.size,0,none⟩=some (.slice a p.n c)/\w'.cell? ⟨w.heap.size+1,0,none⟩=some (.int .i64 xs)/\w'.cell? ⟨w.heap.size+1,1,none⟩=some (.int .i64 xb)) (put6 wb (w.heap.size+1+1) u0 u1 u2 u3 u4 u5)):=by
         intro u0 u1 u2 u3 u4 u5;have t:=AE.put6 wb (w.heap.size+1+1) u0 u1 u2 u3 u4 u5;have g1:=(r.out.A0 g).AD t (by omega);have g2:=(x.out.A0 g).AD t (by omega);have g3:=(y.out.A0 g).AD t (by omega);exact⟨g1.1.1,g1.2.1.1,g1.2.2.1.1,g1.2.2.2.1.1,g2.1.1,g3.1.1,g3.2.1⟩
        (try go_wp2_with fail)
        refine hK.out _ _ (by(try dsimp only);go_keep) ?_;clear hK K hHeld;intro hHeld
        try simp only[Act.put,s1,s2,s3]
        refine rd [11] (rc (fun K hK=>?_) .nil);go_simp
        (try go_wp2_with fail)
        refine hK.out _ _ (by(try dsimp only);exact l.out _ _ _ _ _ _) ?_;clear hK K hHeld;intro hHeld
        try simp only[Act.put,s1,s2,s3]
        refine wpAnyH_done (by kernel_rfl) ?_ _;have f:=V.out.put (.slice none 0 0) (.slice none 0 0) (.int .i64 0) (.int .i64 0) (.slice none 0 0) (.int .i64 (Bn p xs xb n b ⟨od.pool,od.ps,od.pb,0⟩).code);have i:=Ff (R:=w.heap.size+1+1) (c:=(Bn p xs xb n b ⟨od.pool,od.ps,od.pb,0⟩).code) (by omega) (A7 C g);have kD:=A9 i;clear hHeld l l0 l1 l2 l3 l4 l5 l6 k0 k1 k2 k3 k4 k5 k6 i;go_wp2;have hE:=fA.out.trans (V2 HC.out);rw[hE];exact bodyPost_ret (v:=.agg #[.slice none 0 0,.slice none 0 0,.int .i64 0,.int .i64 0,.slice none 0 0,.int .i64 (Bn p xs xb n b ⟨od.pool,od.ps,od.pb,0⟩).code]) (by simp[results,Tryz.results26,go_sem,f.1.1,f.2.1.1,f.2.2.1.1,f.2.2.2.1.1,f.2.2.2.2.1.1,f.2.2.2.2.2.1]) rfl kD.out
      ·have eE:(od.code != 0)=true:=(by simp[hc]);have fA:=A9 (dA.out hc);clear hc dA eA;obtain⟨⟨r0,r1⟩,⟨r2,r3⟩,⟨r4,r5⟩,⟨r6,r7⟩,⟨r8,r9⟩,⟨s,u⟩⟩:=X.out
       try go_wp2
       have f:=X.out.put (.slice none 0 0) (.slice none 0 0) (.int .i64 0) (.int .i64 0) (.slice none 0 0) (.int .i64 od.code);have i:=Ff (R:=w.heap.size+1+1) (c:=od.code) (by omega) C;rw[fA.out];exact bodyPost_ret (v:=.agg #[.slice none 0 0,.slice none 0 0,.int .i64 0,.int .i64 0,.slice none 0 0,.int .i64 od.code]) (by simp[results,Tryz.results26,go_sem,f.1.1,f.2.1.1,f.2.2.1.1,f.2.2.2.1.1,f.2.2.2.2.1.1,f.2.2.2.2.2.1]) rfl i
     ·have gA:Hid (¬(EA (n:Int)/\d.size=16)):=fun h=>D h.2
      have cE:((d.size:Int) != 16)=true:=(by simp;omega);clear D;go_wp2_with (first | (go_at_call 53;refine(Mb _ _).mono ?_;rintro e w9 ⟨⟨t2,rfl,E⟩,rfl⟩;obtain rfl:t2=true:=E.2 L.out;clear E) | fail);obtain⟨⟨r0,r1⟩,⟨r2,r3⟩,⟨r4,r5⟩,⟨r6,r7⟩,⟨r8,r9⟩,⟨s,u⟩⟩:=q.out
      try go_wp2
      have f:=q.out.put (.slice none 0 0) (.slice none 0 0) (.int .i64 0) (.int .i64 0) (.slice none 0 0) (.int .i64 8);have i:=Ff (R:=w.heap.size+1+1) (c:=8) (by omega) N;rw[MZ z.out jA.out gA.out];exact bodyPost_ret (v:=.agg #[.slice none 0 0,.slice none 0 0,.int .i64 0,.int .i64 0,.slice none 0 0,.int .i64 8]) (by simp[results,Tryz.results26,go_sem,f.1.1,f.2.1.1,f.2.2.1.1,f.2.2.2.1.1,f.2.2.2.2.1.1,f.2.2.2.2.2.1]) rfl i
    ·have L:=A9 hN;clear hN;go_wp2_with (first | (go_at_call 53;refine(Mb _ _).mono ?_;rintro e w9 ⟨⟨t2,rfl,E⟩,rfl⟩;obtain rfl:t2=false:=BR E L.out;clear E) | fail);obtain⟨⟨r0,r1⟩,⟨r2,r3⟩,⟨r4,r5⟩,⟨r6,r7⟩,⟨r8,r9⟩,⟨s,u⟩⟩:=q.out
     try go_wp2
     have f:=q.out.put (.slice none 0 0) (.slice none 0 0) (.int .i64 0) (.int .i64 0) (.slice none 0 0) (.int .i64 8);have i:=Ff (R:=w.heap.size+1+1) (c:=8) (by omega) N;rw[MZ z.out jA.out (fun h=>L.out h.1)];exact bodyPost_ret (v:=.agg #[.slice none 0 0,.slice none 0 0,.int .i64 0,.int .i64 0,.slice none 0 0,.int .i64 8]) (by simp[results,Tryz.results26,go_sem,f.1.1,f.2.1.1,f.2.2.1.1,f.2.2.2.1.1,f.2.2.2.2.1.1,f.2.2.2.2.2.1]) rfl i
   ·have gD:=A9 O;obtain rfl:t=false:=BR ht O;clear ht O;obtain⟨⟨r0,r1⟩,⟨r2,r3⟩,⟨r4,r5⟩,⟨r6,r7⟩,⟨r8,r9⟩,⟨s,u⟩⟩:=q.out
    try go_wp2
    have f:=q.out.put (.slice none 0 0) (.slice none 0 0) (.int .i64 0) (.int .i64 0) (.slice none 0 0) (.int .i64 1);have i:=Ff (R:=w.heap.size+1+1) (c:=1) (by omega) N;rw[MV z.out (fun h=>gD.out h.2)];exact bodyPost_ret (v:=.agg #[.slice none 0 0,.slice none 0 0,.int .i64 0,.int .i64 0,.slice none 0 0,.int .i64 1]) (by simp[results,Tryz.results26,go_sem,f.1.1,f.2.1.1,f.2.2.1.1,f.2.2.2.1.1,f.2.2.2.2.1.1,f.2.2.2.2.2.1]) rfl i
  ·have M:=A9 P;obtain rfl:t=false:=BR ht P;clear ht P;obtain⟨⟨r0,r1⟩,⟨r2,r3⟩,⟨r4,r5⟩,⟨r6,r7⟩,⟨r8,r9⟩,⟨s,u⟩⟩:=iA.out
   try go_wp2
   have f:=iA.out.put (.slice none 0 0) (.slice none 0 0) (.int .i64 0) (.int .i64 0) (.slice none 0 0) (.int .i64 1);have i:=Ff (R:=w.heap.size+1+1) (c:=1) (by omega) nB;rw[MV z.out (fun h=>M.out h.1)];exact bodyPost_ret (v:=.agg #[.slice none 0 0,.slice none 0 0,.int .i64 0,.int .i64 0,.slice none 0 0,.int .i64 1]) (by simp[results,Tryz.results26,go_sem,f.1.1,f.2.1.1,f.2.2.1.1,f.2.2.2.1.1,f.2.2.2.2.1.1,f.2.2.2.2.2.1]) rfl i
theorem Xt{p:A5}{xs xb:Int}{n:Nat}(b:Ai p xs xb)(hn:n<64):∀{L:Nat},L<3->¬Nil (BM p xs xb n L) (BZ p xs xb n L)->B5 p (BM p xs xb n L) (BZ p xs xb n L)/\BZ p xs xb n L<=xb
 | 0,_,hN=>⟨(b.2.resolve_left hN).1.1,Int.le_refl _⟩
 | L+1,hL,hN=>by
  have a:¬Nil (BM p xs xb n L) (BZ p xs xb n L):=fun h=>hN (KW h (by omega))
  obtain⟨c,g⟩:=Xt b hn (L:=L) (by omega) a;rw[(Kh p xs xb n (show L<2 by omega)).1,(Kh p xs xb n (show L<2 by omega)).2]at hN ⊢;unfold Ct at hN ⊢;rw[if_neg a,if_neg a]at hN ⊢;obtain⟨d,e⟩:=J6 (Er b.1 c) (NC (n:=n) (L:=L) hn) hN;refine⟨d,?_⟩;have i:=c.2.2.2;have f:BB (p.s (BM p xs xb n L).toNat) (plc n L*2+1)<=(p.s (BM p xs xb n L).toNat).birth:=e;omega
variable{q:A5}{x y:Int}{n:Nat}
theorem FC{L:Nat}(j:Ai p xs xb)(hn:n<64)(w:L<2)(g:Bv xb b)(d:∀s t,B5 p s t->B5 q s t)(m:Nil x y\/(B5 q x y/\y<=b)) :
 Bm q (BJ (AX p xs xb n L x) (AW p xs xb n L y) b):=by
 refine⟨g.1,Or.inr ⟨rfl,by simp[BJ,Go.ByteArray.toList_eq],fun i hi=>?_⟩⟩;have c:i<8:=hi;show Mx q b (AX p xs xb n L x i) (AW p xs xb n L y i);unfold AX AW;by_cases e:i=plc n L
 ·rw[if_pos e,if_pos e];rcases m with h | h
  ·exact Or.inl h
  ·exact Or.inr h
 ·rw[if_neg e,if_neg e];unfold BV Ba;by_cases a:Nil (BM p xs xb n L) (BZ p xs xb n L)
  ·rw[if_pos a,if_pos a];exact Or.inl ⟨rfl,rfl⟩
  ·rw[if_neg a,if_neg a];obtain⟨f,o⟩:=Xt j hn (L:=L) (by omega) a;by_cases k:Nil (AH (p.s (BM p xs xb n L).toNat) i) (AT (p.s (BM p xs xb n L).toNat) i)
   ·exact Or.inl k
   ·obtain⟨l,r⟩:=J6 (Er j.1 f) c k;refine Or.inr ⟨d _ _ l,?_⟩;have u:=f.2.2.2;have v:=g.2;omega
theorem Jm{f:Nat->AG}:∀{n:Nat},roomN f n=0->∀j,j<n->¬Ag (f j)
 | 0,_,j,hj=>absurd hj (Nat.not_lt_zero _)
 | n+1,h,j,hj=>by
  by_cases a:Ag (f n)
  ·rw[Jl a]at h;omega
  ·rw[J2 a]at h;by_cases e:j=n
   ·rw[e];exact a
   ·exact Jm h j (by omega)
theorem GG{f:Nat->AG}:∀{n:Nat},0<roomN f n->∃i,BU n f i
 | 0,h=>absurd h (Nat.lt_irrefl _)
 | n+1,h=>by
  by_cases a:0<roomN f n
  ·obtain⟨i,e,c,d⟩:=GG a;exact⟨i,by omega,c,d⟩
  ·by_cases b:Ag (f n)
   ·exact⟨n,by omega,b,Jm (by omega)⟩
   ·rw[J2 b]at h;exact absurd h a
variable{i:Nat}
theorem Ku{s:AG}(hi:BU p.n p.s i)(hs:Bm p s):roomN (Aq p i s).s p.n+1=roomN p.s p.n:=by
 have h:=U6 (p:=p) (i:=i) (s:=s) hi.2.1 (GI hs) p.n;rw[if_pos hi.1]at h;exact h
theorem Gg(a:DM b)(c:d.size=16):Bm p (BK b d):=⟨a,Or.inl ⟨rfl,c⟩⟩
theorem Ky{s:AG}(hi:BU p.n p.s i)(hs:1<=s.birth):B5 (Aq p i s) (i:Int) s.birth:=
 ⟨hs,by omega,by have:=hi.1;show(i:Int)<(p.n:Int);omega,by rw[Int.toNat_natCast,Ge]⟩
theorem Oc{L:Nat}(hn:n<64)(a:1<=b):¬CO (AX p xs xb n L x) (AW p xs xb n L b):=fun h=>by
 have:=(h (plc n L) (NC hn)).2;unfold AW at this;rw[if_pos rfl]at this;omega
def Bb(p:A5)(b:Int)(d:ByteArray)(i0:Nat):A5:=Aq p i0 (BK b d)
def Cw(p:A5)(xs xb:Int)(n:Nat)(b:Int)(d:ByteArray)(i0 i1:Nat):A5:=Aq (Bb p b d i0) i1 (BJ (AX p xs xb n 1 (i0:Int)) (AW p xs xb n 1 b) b)
def IT(p:A5)(xs xb:Int)(n:Nat)(b:Int)(d:ByteArray)(i0 i1 i2:Nat):A5:=Aq (Cw p xs xb n b d i0 i1) i2 (BJ (AX p xs xb n 0 (i1:Int)) (AW p xs xb n 0 b) b)
theorem zIe{i0:Nat}(f:Ai p xs xb)(a:Bv xb b)(c:d.size=16)(e:BU p.n p.s i0):By p (BK b d)=⟨Bb p b d i0,(i0:Int),b,0⟩:=
 Ka ⟨f.1,GI (Gg (p:=p) a.1 c),Gg a.1 c⟩ e
theorem Od{i0:Nat}(e:Ai p xs xb)(c:Bv xb b)(f:d.size=16)(a:BU p.n p.s i0):AY (Bb p b d i0):=Jk e.1 a (Gg c.1 f)
theorem I9{i0:Nat}(e:Ai p xs xb)(hn:n<64)(c:Bv xb b)(a:BU p.n p.s i0):Bm (Bb p b d i0) (BJ (AX p xs xb n 1 (i0:Int)) (AW p xs xb n 1 b) b):=
 FC e hn (by omega) c (fun s t h=>L0 a.2.1 h) (Or.inr ⟨Ky (s:=BK b d) a c.1.1,Int.le_refl _⟩)
variable{i1:Nat}
theorem M4{i0:Nat}(f:Ai p xs xb)(hn:n<64)(c:Bv xb b)(e:BU p.n p.s i0)(a:BU p.n (Bb p b d i0).s i1):Bm (Cw p xs xb n b d i0 i1) (BJ (AX p xs xb n 0 (i1:Int)) (AW p xs xb n 0 b) b):=
 FC f hn (by omega) c (fun s t h=>L0 (p:=Bb p b d i0) a.2.1 (L0 e.2.1 h)) (Or.inr ⟨Ky (p:=Bb p b d i0) (s:=BJ (AX p xs xb n 1 (i0:Int)) (AW p xs xb n 1 b) b) a c.1.1,Int.le_refl _⟩)
theorem zA{i0:Nat}(hn:n<64)(a:Bv xb b):layS p xs xb n b ⟨Bb p b d i0,(i0:Int),b,0⟩ 1=By (Bb p b d i0) (BJ (AX p xs xb n 1 (i0:Int)) (AW p xs xb n 1 b) b):=
 if_neg (Oc hn a.1.1)
theorem Q4{i0:Nat}(e:Ai p xs xb)(hn:n<64)(a:Bv xb b)(g:d.size=16)(c:BU p.n p.s i0)(f:BU p.n (Bb p b d i0).s i1):layS p xs xb n b ⟨Bb p b d i0,(i0:Int),b,0⟩ 1=⟨Cw p xs xb n b d i0 i1,(i1:Int),b,0⟩:=by
 rw[zA hn a];exact Ka ⟨Od e a g c,GI (I9 (d:=d) e hn a c),I9 e hn a c⟩ f
theorem zB{i0:Nat}(f:Ai p xs xb)(hn:n<64)(a:Bv xb b)(g:d.size=16)(c:BU p.n p.s i0)(e:BU p.n (Bb p b d i0).s i1):layS p xs xb n b ⟨Bb p b d i0,(i0:Int),b,0⟩ 2=By (Cw p xs xb n b d i0 i1) (BJ (AX p xs xb n 0 (i1:Int)) (AW p xs xb n 0 b) b):=by
 show JJ p xs xb n b (layS p xs xb n b ⟨Bb p b d i0,(i0:Int),b,0⟩ 1) 0=_;rw[Q4 f hn a g c e];exact if_neg (Oc hn a.1.1)
theorem Te(hn:n<64):EA (n:Int):=⟨by omega,by omega⟩
theorem UY{i0:Nat}(c:Ai p xs xb)(hn:n<64)(a:Bv xb b)(e:d.size=16)(g:BU p.n p.s i0):CA p xs xb (n:Int) d b=Bn p xs xb n b ⟨Bb p b d i0,(i0:Int),b,0⟩:=by
 have f:=zIe c a e g;rw[VY (by omega) ⟨c,a⟩ ⟨Te hn,e⟩ (by rw[f]),f];rfl
theorem RY{i0:Nat}(e:Ai p xs xb)(hn:n<64)(c:Bv xb b)(g:d.size=16)(a:BU p.n p.s i0)(f:BU p.n (Bb p b d i0).s i1):AY (Cw p xs xb n b d i0 i1):=
 Jk (Od e c g a) f (I9 e hn c a)
theorem UZ{i0 i2:Nat}(e:Ai p xs xb)(hn:n<64)(c:Bv xb b)(g:d.size=16)(a:BU p.n p.s i0)(f:BU p.n (Bb p b d i0).s i1)(k:BU p.n (Cw p xs xb n b d i0 i1).s i2) :
 CA p xs xb (n:Int) d b=⟨IT p xs xb n b d i0 i1 i2,(i2:Int),b,BN p xs xb n 3,0⟩:=by
 rw[UY e hn c g a];have i:=Q4 e hn c g a f;have h:layS p xs xb n b ⟨Bb p b d i0,(i0:Int),b,0⟩ 2=⟨IT p xs xb n b d i0 i1 i2,(i2:Int),b,0⟩:=by
  rw[zB e hn c g a f];exact Ka ⟨RY e hn c g a f,GI (M4 (d:=d) e hn c a f),M4 e hn c a f⟩ k
 rw[Nu (fun j l=>by
  rcases j with _ | _ | _ | j
  ·rfl
  ·rw[i]
  ·rw[h]
  ·omega),h]
theorem Xk(c:Ai p xs xb)(hn:n<64)(a:Bv xb b)(g:d.size=16)(x:roomN p.s p.n<3):CA p xs xb (n:Int) d b=DB 6:=by
 by_cases r0:roomN p.s p.n=0
 ·have o:=Kw (p:=p) (s:=BK b d) ⟨c.1,GI (Gg (p:=p) a.1 g),Gg a.1 g⟩ (Jm r0);rw[Xl (by omega) ⟨c,a⟩ ⟨Te hn,g⟩ (by rw[o];decide),o]
 ·obtain⟨i0,e⟩:=GG (f:=p.s) (n:=p.n) (by omega);have r:=Ku (s:=BK b d) e (Gg a.1 g);rw[UY c hn a g e];by_cases r1:roomN (Bb p b d i0).s p.n=0
  ·have v:=Kw (p:=Bb p b d i0) ⟨Od c a g e,GI (I9 (n:=n) (d:=d) c hn a e),I9 c hn a e⟩ (Jm r1);have i:=zA (p:=p) (xs:=xs) (d:=d) (i0:=i0) hn a;rw[v]at i;rw[Lf (k:=0) (by omega) (fun j q=>by cases (show j=0 from by omega);rfl) (by rw[i];decide),i]
  ·obtain⟨m,h⟩:=GG (f:=(Bb p b d i0).s) (n:=p.n) (by omega);have q1:roomN (Cw p xs xb n b d i0 m).s p.n+1=roomN (Bb p b d i0).s p.n:=Ku (p:=Bb p b d i0) h (I9 c hn a e);have t:roomN (Bb p b d i0).s p.n+1=roomN p.s p.n:=r;have u:roomN (Cw p xs xb n b d i0 m).s p.n=0:=(by omega);have w:=Kw (p:=Cw p xs xb n b d i0 m) ⟨RY c hn a g e h,GI (M4 (d:=d) c hn a e h),M4 c hn a e h⟩ (Jm u);have i:=Q4 c hn a g e h;have l:=zB c hn a g e h;rw[w]at l;rw[Lf (k:=1) (by omega) (fun j q=>by
    rcases j with _ | _ | j
    ·rfl
    ·rw[i]
    ·omega) (by rw[l];decide),l]
def DP(w:World)(S:Nat->Prop)(v0 v1:Value)(p:A5):Prop:=
 ∃(bs hb:Nat) (kb:Nat->Nat) (kv:Nat->Value),F9 w bs kb kv v0 p.n p.s/\MA kb p.n p.s/\FZ w hb v1 p.hn p.h/\(0<p.hn->¬FU bs kb p.n p.s hb)/\
  ∀k,FU bs kb p.n p.s k\/(0<p.hn/\k=hb)->S k
variable{w:World}{lo hi:Nat}{S:Nat->Prop}{v0 v1:Value}
theorem Bo.isIn(h:Bo w lo hi v0 v1 p)(i:∀k,lo<=k->k<hi->S k):DP w S v0 v1 p:=by
 obtain⟨c,j,l,kv,d,e,f,g,a⟩:=h;exact⟨c,j,l,kv,d,e,f,g,fun k b=>i k (a k b).1 (a k b).2⟩
theorem DP.own(h:DP w S v0 v1 p)(g:∀k,S k->lo<=k/\k<hi):Bo w lo hi v0 v1 p:=by
 obtain⟨a,i,l,kv,b,c,d,e,f⟩:=h;exact⟨a,i,l,kv,b,c,d,e,fun k j=>g k (f k j)⟩
variable{T:Nat->Prop}
theorem DP.mono(h:DP w S v0 v1 p)(g:∀k,S k->T k):DP w T v0 v1 p:=by
 obtain⟨a,i,l,kv,b,c,d,e,f⟩:=h;exact⟨a,i,l,kv,b,c,d,e,fun k j=>g k (f k j)⟩
variable{w':World}
theorem DP.A0(h:DP w S v0 v1 p)(t:Below w.heap.size w w'):DP w' S v0 v1 p:=by
 obtain⟨a,g,i,kv,b,c,d,e,f⟩:=h;exact⟨a,g,i,kv,b.A0 t,c,d.A0 t,e,f⟩
theorem DP.AD(h:DP w S v0 v1 p)(t:AE T w w')(hs:∀k,S k->¬T k):DP w' S v0 v1 p:=by
 obtain⟨b,d,e,kv,f,g,j,l,c⟩:=h;have out:∀k,FU b e p.n p.s k\/(0<p.hn/\k=d)->¬T k:=fun k m=>hs k (c k m)
 exact⟨b,d,e,kv,f.AD t (fun a=>out _ (Or.inl (Or.inl ⟨a,rfl⟩))) (fun i hi h=>out _ (Or.inl (Or.inr ⟨i,hi,h,rfl⟩))),g,j.AD t (fun a=>out _ (Or.inr ⟨a,rfl⟩)),l,c⟩
theorem DP.at(h:DP w S v0 v1 p)(a:∀k,S k->lo<=k/\k<hi):C6 w lo hi v0 v1 p:=(h.own a).at
theorem QQ(c:layS p xs xb n b ⟨p,0,0,0⟩ 1=⟨q,x,y,0⟩)(d:CO (AX p xs xb n 0 x) (AW p xs xb n 0 y)):Bn p xs xb n b ⟨p,0,0,0⟩=⟨q,0,0,BN p xs xb n 3,0⟩:=by
 have a:layS p xs xb n b ⟨p,0,0,0⟩ 2=⟨q,0,0,0⟩:=by
  show JJ p xs xb n b (layS p xs xb n b ⟨p,0,0,0⟩ 1) 0=_;rw[c];exact if_pos d
 rw[Nu (fun j e=>by
  rcases j with _ | _ | _ | j
  ·rfl
  ·rw[c]
  ·rw[a]
  ·omega),a]
theorem QR(c:layS p xs xb n b ⟨p,0,0,0⟩ 1=⟨q,x,y,0⟩)(d:¬CO (AX p xs xb n 0 x) (AW p xs xb n 0 y))(e:AY q)(hF:Bm q (BJ (AX p xs xb n 0 x) (AW p xs xb n 0 y) b))(hi:BU q.n q.s i) :
 Bn p xs xb n b ⟨p,0,0,0⟩=⟨Aq q i (BJ (AX p xs xb n 0 x) (AW p xs xb n 0 y) b),(i:Int),b,BN p xs xb n 3,0⟩:=by
 have a:layS p xs xb n b ⟨p,0,0,0⟩ 2=⟨Aq q i (BJ (AX p xs xb n 0 x) (AW p xs xb n 0 y) b),(i:Int),b,0⟩:=by
  show JJ p xs xb n b (layS p xs xb n b ⟨p,0,0,0⟩ 1) 0=_;rw[c];exact(if_neg d).trans (Ka ⟨e,GI hF,hF⟩ hi)
 rw[Nu (fun j f=>by
  rcases j with _ | _ | _ | j
  ·rfl
  ·rw[c]
  ·rw[a]
  ·omega),a]
theorem RB(d:layS p xs xb n b ⟨p,0,0,0⟩ 1=⟨q,x,y,0⟩)(e:¬CO (AX p xs xb n 0 x) (AW p xs xb n 0 y))(f:AY q)(hF:Bm q (BJ (AX p xs xb n 0 x) (AW p xs xb n 0 y) b))(a:∀j,j<q.n->¬Ag (q.s j)) :
 Bn p xs xb n b ⟨p,0,0,0⟩=DB 6:=by
 have c:layS p xs xb n b ⟨p,0,0,0⟩ 2=⟨Ck 0,0,0,6⟩:=by
  show JJ p xs xb n b (layS p xs xb n b ⟨p,0,0,0⟩ 1) 0=_;rw[d];exact(if_neg e).trans (Kw ⟨f,GI hF,hF⟩ a)
 rw[Lf (k:=1) (by omega) (fun j g=>by
    rcases j with _ | _ | j
    ·rfl
    ·rw[d]
    ·omega) (by rw[c];decide),c]
theorem zC(a:CO (AX p xs xb n 1 0) (AW p xs xb n 1 0)):layS p xs xb n b ⟨p,0,0,0⟩ 1=⟨p,0,0,0⟩:=if_pos a
theorem zD(a:Ai p xs xb)(hn:n<64)(c:Bv xb b)(d:¬CO (AX p xs xb n 1 0) (AW p xs xb n 1 0))(hi:BU p.n p.s i) :
 layS p xs xb n b ⟨p,0,0,0⟩ 1=⟨Aq p i (BJ (AX p xs xb n 1 0) (AW p xs xb n 1 0) b),(i:Int),b,0⟩:=by
 have hF:Bm p (BJ (AX p xs xb n 1 0) (AW p xs xb n 1 0) b):=FC a hn (by omega) c (fun s t h=>h) (Or.inl ⟨rfl,rfl⟩);exact(if_neg d).trans (Ka ⟨a.1,GI hF,hF⟩ hi)
theorem V6(d:Ai p xs xb)(hn:n<64)(e:Bv xb b)(f:¬CO (AX p xs xb n 1 0) (AW p xs xb n 1 0))(a:∀j,j<p.n->¬Ag (p.s j)):Bn p xs xb n b ⟨p,0,0,0⟩=DB 6:=by
 have hF:Bm p (BJ (AX p xs xb n 1 0) (AW p xs xb n 1 0) b):=FC d hn (by omega) e (fun s t h=>h) (Or.inl ⟨rfl,rfl⟩);have c:layS p xs xb n b ⟨p,0,0,0⟩ 1=⟨Ck 0,0,0,6⟩:=(if_neg f).trans (Kw ⟨d.1,GI hF,hF⟩ a);rw[Lf (k:=0) (by omega) (fun j g=>by cases (show j=0 from by omega);rfl) (by rw[c];decide),c]
variable{g:Nat->Int}
theorem zFO{f:Nat->Int}:(∃i,i<8/\¬Nil (f i) (g i))↔¬CO f g:=by
 constructor
 ·rintro⟨i,hi,h⟩ a;exact h (a i hi)
 ·intro h;apply Classical.byContradiction;intro b;exact h fun i hi=>Classical.byContradiction fun hn=>b ⟨i,hi,hn⟩
open Classical in
def Ds(p:A5)(m:Nat):A5:={n:=p.n,s:=fun i=>if Has m p.h (i:Int)then EQ else p.s i,hn:=p.hn,h:=p.h}
def Gs(p:A5):A5:={n:=p.n,s:=(Ds p p.hn).s,hn:=0,h:=p.h}
open Classical in
def IW(p:A5):A5:=if AY p/\AY (Gs p)then Gs p else p
variable{m:Nat}
theorem Qo(h:Has m p.h (i:Int)):(Ds p m).s i=EQ:=if_pos h
theorem Qn(h:¬Has m p.h (i:Int)):(Ds p m).s i=p.s i:=if_neg h
theorem zAz(p:A5):Ds p 0=p:=by
 have e:(Ds p 0).s=p.s:=funext fun i=>Qn (fun ⟨j,hj,_⟩=>absurd hj (Nat.not_lt_zero _))
 show A5.mk p.n (Ds p 0).s p.hn p.h=p;rw[e]
variable{k:Nat}
theorem zAy(c:p.h k=(m:Int)):Ds p (k+1)=Aq (Ds p k) m EQ:=by
 have e:(Ds p (k+1)).s=(Aq (Ds p k) m EQ).s:=funext fun i=>by
  show _=if i=m then EQ else(Ds p k).s i
  by_cases b:i=m
  ·rw[if_pos b,Qo ⟨k,by omega,by rw[c,b]⟩]
  ·rw[if_neg b];by_cases a:Has k p.h (i:Int)
   ·rw[Qo a,Qo (by obtain⟨j,f,e⟩:=a;exact⟨j,by omega,e⟩)]
   ·rw[Qn a,Qn (fun ⟨j,f,e⟩=>a ⟨j,by
     by_cases d:j=k
     ·subst d;rw[c]at e;omega
     ·omega,e⟩)]
 show A5.mk p.n (Ds p (k+1)).s p.hn p.h=A5.mk p.n (Aq (Ds p k) m EQ).s p.hn p.h;rw[e]
theorem UT(h:AY p)(a:AY (Gs p)):IW p=Gs p:=if_pos ⟨h,a⟩
theorem Pc(h:¬(AY p/\AY (Gs p))):IW p=p:=if_neg h
structure Ad where
 name:ByteArray
 origin:Int
 A6:Int
 rs:Int
 rb:Int
 dn:Nat
 ds:Nat->Int
 db:Nat->Int
structure Ae where
 id:Int
 name:ByteArray
 set:ByteArray
 A6:Int
 time:Int
 rs:Int
 rb:Int
 dn:Nat
 ds:Nat->Int
 db:Nat->Int
structure A4 where
 pool:A5
 time:Int
 next:Int
 sn:Nat
 A1:Nat->Ad
 pn:Nat
 A2:Nat->Ae
structure I6 (w:World) (b o lo hi:Nat) (vd:Value) (s:Ad):Prop where
 c0:w.cell? ⟨b,o,none⟩=some (.string s.name)
 c1:w.cell? ⟨b,o+1,none⟩=some (.int .i64 s.origin)
 c2:w.cell? ⟨b,o+2,none⟩=some (.int .i64 s.A6)
 c3:w.cell? ⟨b,o+3,none⟩=some (.int .i64 s.rs)
 c4:w.cell? ⟨b,o+4,none⟩=some (.int .i64 s.rb)
 c5:w.cell? ⟨b,o+5,none⟩=some vd
 dead:BI w lo hi vd s.dn s.ds s.db
 CI:s.name.size<=maxLen
theorem I6.A0{b o:Nat}{vd:Value}{s:Ad}(h:I6 w b o lo hi vd s)(t:Below w.heap.size w w'):I6 w' b o lo hi vd s:=
 ⟨(t.cell (AZ h.c0)).trans h.c0,(t.cell (AZ h.c1)).trans h.c1,(t.cell (AZ h.c2)).trans h.c2,(t.cell (AZ h.c3)).trans h.c3,(t.cell (AZ h.c4)).trans h.c4,(t.cell (AZ h.c5)).trans h.c5,h.dead.A0 t,h.CI⟩
structure ID (w:World) (b o lo hi:Nat) (vd:Value) (s:Ae):Prop where
 c0:w.cell? ⟨b,o,none⟩=some (.int .i64 s.id)
 c1:w.cell? ⟨b,o+1,none⟩=some (.string s.name)
 c2:w.cell? ⟨b,o+2,none⟩=some (.string s.set)
 c3:w.cell? ⟨b,o+3,none⟩=some (.int .i64 s.A6)
 c4:w.cell? ⟨b,o+4,none⟩=some (.int .i64 s.time)
 c5:w.cell? ⟨b,o+5,none⟩=some (.int .i64 s.rs)
 c6:w.cell? ⟨b,o+6,none⟩=some (.int .i64 s.rb)
 c7:w.cell? ⟨b,o+7,none⟩=some vd
 dead:BI w lo hi vd s.dn s.ds s.db
 CI:s.name.size<=maxLen/\s.set.size<=maxLen
theorem ID.A0{b o:Nat}{vd:Value}{s:Ae}(h:ID w b o lo hi vd s)(t:Below w.heap.size w w'):ID w' b o lo hi vd s:=
 ⟨(t.cell (AZ h.c0)).trans h.c0,(t.cell (AZ h.c1)).trans h.c1,(t.cell (AZ h.c2)).trans h.c2,(t.cell (AZ h.c3)).trans h.c3,(t.cell (AZ h.c4)).trans h.c4,(t.cell (AZ h.c5)).trans h.c5,(t.cell (AZ h.c6)).trans h.c6,(t.cell (AZ h.c7)).trans h.c7,h.dead.A0 t,h.CI⟩
def EB(w:World)(lo hi:Nat)(v:Value)(n:Nat)(f:Nat->Ad):Prop:=
 n<=maxLen/\∃a cap,v = .slice a n cap/\n<=cap/\(0<n->∃b off,a=some ⟨b,off,none⟩/\lo<=b/\b<hi/\∀i,i<n->∃vd,I6 w b (off+i*6) lo hi vd (f i))
def EJ(w:World)(lo hi:Nat)(v:Value)(n:Nat)(f:Nat->Ae):Prop:=
 n<=maxLen/\∃a cap,v = .slice a n cap/\n<=cap/\(0<n->∃b off,a=some ⟨b,off,none⟩/\lo<=b/\b<hi/\∀i,i<n->∃vd,ID w b (off+i*8) lo hi vd (f i))
theorem EB.A0{v:Value}{f:Nat->Ad}(h:EB w lo hi v n f)(t:Below w.heap.size w w'):EB w' lo hi v n f:=by
 obtain⟨d,a,cap,hv,c,l⟩:=h;refine⟨d,a,cap,hv,c,fun hn=>?_⟩;obtain⟨b,off,k,e,g,j⟩:=l hn;refine⟨b,off,k,e,g,fun i hi=>?_⟩;obtain⟨vd,hs⟩:=j i hi;exact⟨vd,hs.A0 t⟩
theorem EJ.A0{v:Value}{f:Nat->Ae}(h:EJ w lo hi v n f)(t:Below w.heap.size w w'):EJ w' lo hi v n f:=by
 obtain⟨d,a,cap,hv,c,l⟩:=h;refine⟨d,a,cap,hv,c,fun hn=>?_⟩;obtain⟨b,off,k,e,g,j⟩:=l hn;refine⟨b,off,k,e,g,fun i hi=>?_⟩;obtain⟨vd,hs⟩:=j i hi;exact⟨vd,hs.A0 t⟩
variable{a:Option Addr}
theorem EB.cells{c:Nat}{f:Nat->Ad}(h:EB w lo hi (.slice a n c) n f)(hi':i<n):∃b off vd,a=some ⟨b,off,none⟩/\I6 w b (off+i*6) lo hi vd (f i):=by
 obtain⟨l,k,cap,hv,g,j⟩:=h;simp only[Value.slice.injEq,true_and]at hv;obtain⟨rfl,rfl⟩:=hv;obtain⟨b,off,e,m,o,d⟩:=j (by omega);obtain⟨vd,hs⟩:=d i hi';exact⟨b,off,vd,e,hs⟩
theorem EJ.cells{c:Nat}{f:Nat->Ae}(h:EJ w lo hi (.slice a n c) n f)(hi':i<n):∃b off vd,a=some ⟨b,off,none⟩/\ID w b (off+i*8) lo hi vd (f i):=by
 obtain⟨l,k,cap,hv,g,j⟩:=h;simp only[Value.slice.injEq,true_and]at hv;obtain⟨rfl,rfl⟩:=hv;obtain⟨b,off,e,m,o,d⟩:=j (by omega);obtain⟨vd,hs⟩:=d i hi';exact⟨b,off,vd,e,hs⟩
structure CE (w:World) (lo hi:Nat) (v0 v1 v2 v3:Value) (W:A4):Prop where
 pool:C6 w lo hi v0 v1 W.pool
 A1:EB w lo hi v2 W.sn W.A1
 A2:EJ w lo hi v3 W.pn W.A2
theorem CE.A0{v2 v3:Value}{W:A4}(h:CE w lo hi v0 v1 v2 v3 W)(t:Below w.heap.size w w'):CE w' lo hi v0 v1 v2 v3 W:=⟨h.pool.A0 t,h.A1.A0 t,h.A2.A0 t⟩
abbrev Cn(v0 v1 v2 v3:Value)(W:A4):Value:=.agg #[v0,v1,.int .i64 W.time,.int .i64 W.next,v2,v3]
def Be(W:A4)(id:Int)(k:Nat):Prop:=k<W.pn/\(W.A2 k).id=id/\∀j,j<k->(W.A2 j).id≠id
def GS(W:A4)(name:ByteArray)(k:Nat):Prop:=k<W.sn/\(W.A1 k).name=name/\∀j,j<k->(W.A1 j).name≠name
theorem Be.uniq{W:A4}{id:Int}{j:Nat}(h:Be W id i)(a:Be W id j):i=j:=by
 rcases Nat.lt_trichotomy i j with e | e | e
 ·exact absurd h.2.1 (a.2.2 i e)
 ·exact e
 ·exact absurd a.2.1 (h.2.2 j e)
theorem A3{P:Prop}(h:P):Hid P:=h
def QA(n:Nat)(P:Nat->Prop)(r:Int):Prop:=(∃k:Nat,k<n/\P k/\(∀j,j<k->¬P j)/\r=k)\/((∀j,j<n->¬P j)/\r = -1)
open Go.Maps
def F4(t:Int):Prop:=0<=t/\t<=1000000
def FP(s b:Int):Prop:=0<=s/\s<=199/\1<=b/\b<=1000000
def JG(n:Nat)(f:Nat->Int):Prop:=∀i,i<n->∀k,k<i->f k≠f i
def Cc(n:Nat)(f g:Nat->Int):Prop:=n<=200/\(∀i,i<n->FP (f i) (g i))/\JG n f
def PIn(n:Nat)(f g:Nat->Int)(x y:Int):Prop:=∃j,j<n/\f j=x/\g j=y
def FO(n:Nat)(f g:Nat->Int)(m:Nat)(f' g':Nat->Int):Prop:=Cc n f g/\Cc m f' g'/\n=m/\∀i,i<n->PIn m f' g' (f i) (g i)
variable{f:Nat->Int}
theorem JG.inj(h:JG n f)(hi:i<n)(b:k<n)(e:f i=f k):i=k:=by
 rcases Nat.lt_trichotomy i k with a | a | a
 ·exact absurd e (h k b i a)
 ·exact a
 ·exact absurd e.symm (h i hi k a)
theorem Tg:∀(n m:Nat) (h:Nat->Nat),(∀i,i<n->h i<m)->(∀i k,i<n->k<n->h i=h k->i=k)->n<=m
 | 0,_,_,_,_=>Nat.zero_le _
 | n+1,m,h,h1,h2=>by
  have f:=h1 n (Nat.lt_succ_self n);have:=Tg n (m - 1) (fun i=>if h i<h n then h i else h i - 1) (fun i hi=>by
   have:=h1 i (by omega);have:h i≠h n:=fun e=>by have:=h2 i n (by omega) (by omega) e;omega
   show(if h i<h n then h i else h i - 1)<m - 1;split<;>omega) (fun i k hi d e=>by
   have b:h i≠h n:=fun e=>by have:=h2 i n (by omega) (by omega) e;omega
   have c:h k≠h n:=fun e=>by have:=h2 k n (by omega) (by omega) e;omega
   have a:(if h i<h n then h i else h i - 1)=(if h k<h n then h k else h k - 1):=e;refine h2 i k (by omega) (by omega) ?_;split at a<;>split at a<;>omega)
  omega
variable{f' g':Nat->Int}
theorem zDx(o:Cc n f g)(p:Cc n f' g')(h:∀i,i<n->PIn n f' g' (f i) (g i)):∀j,j<n->PIn n f g (f' j) (g' j):=by
 intro j q;by_cases c:PIn n f g (f' j) (g' j)
 ·exact c
 ·exfalso;have:=Tg n (n - 1) (fun i=>if hi:i<n then(if (h i hi).choose<j then(h i hi).choose else(h i hi).choose - 1)else 0) (fun i hi=>by
   have hs:=(h i hi).choose_spec;have d:(h i hi).choose≠j:=fun e=>c ⟨i,hi,by rw[<-hs.2.1,e],by rw[<-hs.2.2,e]⟩
   simp only[hi,dif_pos];split<;>omega) (fun i k hi b e=>by
   have hs:=(h i hi).choose_spec;have a:=(h k b).choose_spec;have d:(h i hi).choose≠j:=fun e=>c ⟨i,hi,by rw[<-hs.2.1,e],by rw[<-hs.2.2,e]⟩
   have l:(h k b).choose≠j:=fun e=>c ⟨k,b,by rw[<-a.2.1,e],by rw[<-a.2.2,e]⟩
   simp only[hi,b,dif_pos]at e;have m:(h i hi).choose=(h k b).choose:=(by split at e<;>split at e<;>omega);refine o.2.2.inj hi b ?_;rw[<-hs.2.1,<-a.2.1,m])
  omega
theorem FO.symm(h:FO n f g m f' g'):FO m f' g' n f g:=by
 obtain⟨a,b,rfl,c⟩:=h;exact⟨b,a,rfl,zDx a b c⟩
def Cj(x:Int):Lit:=.int .i64 x
theorem NU(h:x≠y):Cj x≠Cj y:=fun e=>h (by unfold Cj at e;injection e)
theorem Qg(x:Int):WideAt.IsKeyLit (Cj x):=trivial
def Do(x:Int):DataW Unit:=.lit (.int .i64 x)
theorem Nn(h:Do x=Do y):x=y:=by unfold Do at h;injection h with h;injection h
def seenD(f g:Nat->Int):Nat->DataW Unit
 | 0=>.map []
 | k+1=>(seenD f g k).put (Cj (f k)) (Do (g k))
theorem ML(f g:Nat->Int):∀k,Tidy (seenD f g k)
 | 0=>tidy_empty
 | k+1=>(ML f g k).put (Qg _) _
theorem M2(f g:Nat->Int)(x:Int):∀k,Maps.has (seenD f g k) (Cj x)=true↔∃i,i<k/\f i=x
 | 0=>by
  constructor
  ·intro h;exact absurd h (by simp[seenD,Maps.has])
  ·rintro⟨i,hi,_⟩;omega
 | k+1=>by
  by_cases a:f k=x
  ·subst a;exact⟨fun _=>⟨k,by omega,rfl⟩,fun _=>has_put_same (ML f g k).isMap (Qg _) _⟩
  ·rw[show Maps.has (seenD f g (k+1)) (Cj x)=Maps.has (seenD f g k) (Cj x)from has_put_other (NU (Ne.symm a)) _,M2 f g x k];constructor
   ·rintro⟨i,hi,e⟩;exact⟨i,by omega,e⟩
   ·rintro⟨i,hi,e⟩;by_cases h:i=k
    ·subst h;exact absurd e a
    ·exact⟨i,by omega,e⟩
theorem Xh:JG (k+1) f↔JG k f/\∀i,i<k->f i≠f k:=by
 constructor
 ·exact fun h=>⟨fun i hi=>h i (by omega),fun i hi=>h k (by omega) i hi⟩
 ·rintro⟨b,c⟩ i hi j a;by_cases e:i=k
  ·subst e;exact c j a
  ·exact b i (by omega) j a
theorem R4(f g:Nat->Int):∀k,Maps.size (seenD f g k)<=k/\(Maps.size (seenD f g k)=k↔JG k f)
 | 0=>⟨Nat.le_refl _,fun _ i hi=>by omega,fun _=>rfl⟩
 | k+1=>by
  obtain⟨d,c⟩:=R4 f g k;have e:Maps.size (seenD f g (k+1))=if Maps.has (seenD f g k) (Cj (f k))then Maps.size (seenD f g k)else Maps.size (seenD f g k)+1:=size_put (ML f g k) _
  by_cases a:Maps.has (seenD f g k) (Cj (f k))=true
  ·rw[if_pos a]at e;rw[e,Xh];refine⟨by omega,fun h=>by omega,fun h=>?_⟩;obtain⟨i,hi,b⟩:=(M2 f g (f k) k).1 a;exact absurd b (h.2 i hi)
  ·rw[if_neg a]at e;rw[e,Xh,<-c];refine⟨by omega,fun h=>⟨by omega,fun i hi b=>a ((M2 f g (f k) k).2 ⟨i,hi,b⟩)⟩,fun h=>by omega⟩
theorem Sr{n:Nat}{f:Nat->Int}(g:Nat->Int)(a:JG n f)(z:DataW Unit):∀k,k<=n->∀i,i<k->(seenD f g k).atKey (Cj (f i)) z=Do (g i)
 | 0,_,i,hi=>absurd hi (Nat.not_lt_zero _)
 | k+1,hk,i,hi=>by
  by_cases e:i=k
  ·subst e;exact atKey_put_same (ML f g i).isMap (Qg _) _ _
  ·exact(atKey_put_other (NU (fun h=>e (a.inj (by omega) (by omega) h))) _ _).trans (Sr g a z k (by omega) i (by omega))
structure Ew (n:Nat) (f g f':Nat->Int) (k:Nat) (D:DataW Unit):Prop where
 tidy:Tidy D
 size:Maps.size D+k=n
 at':∀x,(∀j,j<k->f' j≠x)->(∀i,i<n->f i=x->D.atKey (Cj x) (Do 0)=Do (g i))/\((∀i,i<n->f i≠x)->D.atKey (Cj x) (Do 0)=Do 0)
 has:∀x,Maps.has D (Cj x)=true↔(∃i,i<n/\f i=x)/\∀j,j<k->f' j≠x
theorem Ew.start(h:Cc n f g)(f':Nat->Int):Ew n f g f' 0 (seenD f g n) where
 tidy:=ML f g n
 size:=by rw[(R4 f g n).2.2 h.2.2];rfl
 at':=fun x _=>⟨fun i hi e=>by subst e;exact Sr g h.2.2 _ n (Nat.le_refl _) i hi,fun a=>by
  refine atKey_of_not_has ?_ _;rw[Bool.eq_false_iff];intro b;obtain⟨i,hi,e⟩:=(M2 f g x n).1 b;exact a i hi e⟩
 has:=fun x=>by
  rw[M2];exact⟨fun h=>⟨h,fun j c=>absurd c (Nat.not_lt_zero _)⟩,fun h=>h.1⟩
variable{D:DataW Unit}
theorem Ew.next(h:Ew n f g f' k D)(o:Cc m f' g')(p:k<m)(e:D.atKey (Cj (f' k)) (Do 0)=Do (g' k)):Ew n f g f' (k+1) (D.del (Cj (f' k))):=by
 have b:Maps.has D (Cj (f' k))=true:=by
  by_cases c:Maps.has D (Cj (f' k))=true
  ·exact c
  ·rw[atKey_of_not_has (by simpa using c)]at e;have:=Nn e;have:=(o.2.1 k p).2.2.1;omega
 have hs:=size_del (k:=Cj (f' k)) h.tidy;rw[b]at hs;refine⟨h.tidy.del _,?_,fun x i=>?_,fun x=>?_⟩
 ·have:=h.size;have q:Maps.size (D.del (Cj (f' k)))+1=Maps.size D:=hs;omega
 ·have a:f' k≠x:=i k (by omega);rw[atKey_del_other (NU (Ne.symm a))];exact h.at' x (fun j d=>i j (by omega))
 ·by_cases a:f' k=x
  ·subst a;rw[has_del_same];exact⟨fun h=>absurd h (by simp),fun h=>absurd rfl (h.2 k (by omega))⟩
  ·rw[has_del_other (NU (Ne.symm a)),h.has x];refine and_congr_right fun _=>⟨fun h j d=>?_,fun h j d=>h j (by omega)⟩
   by_cases l:j=k
   ·subst l;exact a
   ·exact h j (by omega)
theorem Ew.no(h:Ew n f g f' k D)(q:Cc n f g)(l:Cc m f' g')(a:k<m){c:Int}(e:D.atKey (Cj (f' k)) (Do 0)=Do c)(o:c≠g' k):¬FO n f g m f' g':=by
 intro hs;obtain⟨i,hi,b,d⟩:=hs.symm.2.2.2 k a;have:=(h.at' (f' k) (fun j p=>l.2.2 k a j p)).1 i hi b;rw[e]at this;exact o ((Nn this).trans d)
theorem Ew.end(h:Ew n f g f' m D)(b:Cc n f g)(c:Cc m f' g')(a:∀j,j<m->PIn n f g (f' j) (g' j)):Maps.size D=0↔FO n f g m f' g':=by
 have hs:=h.size;constructor
 ·intro e;obtain rfl:m=n:=(by omega);exact FO.symm ⟨c,b,rfl,a⟩
 ·intro d;have:=d.2.2.1;omega
theorem Ew.in(h:Ew n f g f' k D)(a:Cc m f' g')(c:k<m)(e:D.atKey (Cj (f' k)) (Do 0)=Do (g' k)):PIn n f g (f' k) (g' k):=by
 by_cases d:∃i,i<n/\f i=f' k
 ·obtain⟨i,hi,ei⟩:=d;have:=(h.at' (f' k) (fun j b=>a.2.2 k c j b)).1 i hi ei;rw[e]at this;exact⟨i,hi,ei,(Nn this).symm⟩
 ·have:=(h.at' (f' k) (fun j b=>a.2.2 k c j b)).2 (fun i hi e=>d ⟨i,hi,e⟩);rw[e]at this;have:=Nn this;have:=(a.2.1 k c).2.2.1;omega
def Bj(f g:Nat->Int)(t:Int):Nat->List (Int×Int)
 | 0=>[]
 | k+1=>if t<g k then Bj f g t k ++ [(f k,g k)] else Bj f g t k
def C5(f g:Nat->Int)(t:Int):Nat->List (Int×Int)
 | 0=>[]
 | k+1=>if t<g k then C5 f g t k else C5 f g t k ++ [(f k,g k)]
theorem Kx(f g:Nat->Int)(t:Int):∀k,(Bj f g t k).length+(C5 f g t k).length=k
 | 0=>rfl
 | k+1=>by
  have:=Kx f g t k;unfold Bj C5;split<;>simp<;>omega
end
end Go.Proofs.YtehdoekmnicdiaaGreatDoor
