/- A part of the proof. -/
import Derived.Test.YtddigaohmfpepaaGreatDoorF8
import Derived.Deep.LoopGhost
import Derived.RegionTactic
import Derived.ChangeAlike
import Derived.BigRegion
import Derived.Maps.OwnSet
import Derived.ProofKit
set_option linter.unusedVariables false
set_option maxRecDepth 20000
set_option maxHeartbeats 4000000
namespace Go.Proofs.YtddigaohmfpepaaGreatDoor
noncomputable section
open Go.RowKit
def BM(b:Int)(d:ByteArray):AH:={birth:=b,kn:=0,ks:=fun _=>0,kb:=fun _=>0,data:=d}
open Classical in
def CF(p:A7)(xs xb AM:Int)(d:ByteArray)(b:Int):D9:=
 if 8000<d.size then DM 2 else if As p xs xb/\C8 xb b then(if EY AM/\d.size=16 then(if (Bv p (BM b d)).code=0 then CJ p xs xb AM.toNat b ⟨(Bv p (BM b d)).pool,(Bv p (BM b d)).ps,(Bv p (BM b d)).pb,0⟩else DM (Bv p (BM b d)).code)else DM 8)else DM 1
variable{p:A7}{xs xb AM b:Int}{d:ByteArray}
theorem Oc(h:8000<d.size):CF p xs xb AM d b=DM 2:=if_pos h
theorem MK(a:¬8000<d.size)(h:¬(As p xs xb/\C8 xb b)):CF p xs xb AM d b=DM 1:=(if_neg a).trans (if_neg h)
theorem MO(a:¬8000<d.size)(h:As p xs xb/\C8 xb b)(c:¬(EY AM/\d.size=16)):CF p xs xb AM d b=DM 8:=((if_neg a).trans (if_pos h)).trans (if_neg c)
theorem Xs(a:¬8000<d.size)(h:As p xs xb/\C8 xb b)(c:EY AM/\d.size=16)(e:(Bv p (BM b d)).code≠0):CF p xs xb AM d b=DM (Bv p (BM b d)).code:=(((if_neg a).trans (if_pos h)).trans (if_pos c)).trans (if_neg e)
theorem Vx(a:¬8000<d.size)(h:As p xs xb/\C8 xb b)(c:EY AM/\d.size=16)(e:(Bv p (BM b d)).code=0):CF p xs xb AM d b=CJ p xs xb AM.toNat b ⟨(Bv p (BM b d)).pool,(Bv p (BM b d)).ps,(Bv p (BM b d)).pb,0⟩:=(((if_neg a).trans (if_pos h)).trans (if_pos c)).trans (if_pos e)
theorem zDF(v0 v1:Value)(lo hi:Nat)(p:A7)(xs xb AM b:Int)(d:ByteArray)(w:World)(h1:CD w lo hi v0 v1 p) :
 Calls Tryz.prog 35 #[.agg #[v0,v1],.agg #[A0 xs,A0 xb],A0 AM,.string d,A0 b] w (Q8 (CF p xs xb AM d b) w):=by
 have Hp:=AF h1;obtain⟨a,c,a',c',rfl,rfl⟩:=h1.form;clear h1;have oC:=zIU w (.slice a p.n c) (.slice a' p.hn c') (A0 xs) (A0 xb) 26 38 81;go_enter Tryz.func35,Tryz.ntmps35;go_upto_region 1 with fail;generalize ((w.alloc (.cells #[.slice a p.n c,.slice a' p.hn c'] 26)).alloc (.cells #[A0 xs,A0 xb] 38)).alloc (.cells #[A5,A5,A0 0,A0 0,A5,A0 0] 81)=W at oC ⊢;obtain⟨hB,hX,hR,m,hz⟩:=oC;by_cases pB:8000<d.size
 ·have z:=AF pB;have bE:(8000:Int)<(d.size:Int):=(by omega);have HR:=AF hR;obtain⟨⟨r0,r1⟩,⟨r2,r3⟩,⟨r4,r5⟩,⟨r6,r7⟩,⟨r8,r9⟩,⟨s,u⟩⟩:=HR.out
  try go_wp2
  have f:=HR.out.put (A5) (A5) (A0 0) (A0 0) (A5) (A0 2);have i:=Ja (R:=w.heap.size+1+1) (c:=2) (by omega) m;rw[Oc z.out];exact bodyPost_ret (v:=.agg #[A5,A5,A0 0,A0 0,A5,A0 2]) (by simp[results,Tryz.results35,go_sem,f.1.1,f.2.1.1,f.2.2.1.1,f.2.2.2.1.1,f.2.2.2.2.1.1,f.2.2.2.2.2.1]) rfl i
 ·have z:=AF pB;have bE:¬(8000:Int)<(d.size:Int):=(by omega);clear pB;obtain⟨⟨x0,x1⟩,⟨x2,x3⟩⟩:=id hB;obtain⟨⟨y0,y1⟩,⟨y2,y3⟩⟩:=id hX;go_wp2_with fail;refine(zDE _ _ lo hi p xs xb W (Hp.out.A1 m)).mono ?_;rintro e w1 ⟨⟨t,rfl,ht⟩,Q⟩;have jC:=AF (hB.A1 Q);have lB:=AF (hX.A1 Q);have iA:=AF (hR.A1 Q);have nB:=A9 m Q;have gE:w.heap.size+3<=w1.heap.size:=(by have:=Q.size;omega);clear hB hX hR m Q hz x0 x1 x2 x3 y0 y1 y2 y3;by_cases P:As p xs xb
  ·have M:=AF P;obtain rfl:t=true:=ht.2 P;clear ht P;obtain⟨⟨y0,y1⟩,⟨y2,y3⟩⟩:=lB.out;go_wp2_with fail;refine(zC5 xs xb b w1).mono ?_;rintro e w2 ⟨⟨t,rfl,ht⟩,U⟩;have kB:=AF (jC.out.A1 U);have lC:=AF (lB.out.A1 U);have q:=AF (iA.out.A1 U);have N:=A9 nB U;have kF:w.heap.size+3<=w2.heap.size:=(by have:=U.size;omega);clear U nB jC lB iA gE y0 y1 y2 y3;by_cases O:C8 xb b
   ·have jA:=AF (And.intro M.out O);obtain rfl:t=true:=ht.2 O;clear ht O;obtain⟨⟨r0,r1⟩,⟨r2,r3⟩,⟨r4,r5⟩,⟨r6,r7⟩,⟨r8,r9⟩,⟨s,u⟩⟩:=q.out;by_cases hN:EY AM
    ·have L:=AF hN;obtain⟨n,rfl⟩:=Int.eq_ofNat_of_zero_le hN.1;have J:n<64:=(by have:=hN.2;omega);clear hN;by_cases D:d.size=16
     ·have gA:=AF (And.intro L.out D);have cE:((d.size:Int) != 16)=false:=(by simp;omega);have Y:=AF D;clear D r0 r1 r2 r3 r4 r5 r6 r7 r8 r9 s u;obtain⟨⟨x0,x1⟩,⟨x2,x3⟩⟩:=kB.out;go_wp2_with (first | (go_at_call 77;refine(Rn _ _).mono ?_;rintro e w9 ⟨⟨t2,rfl,E⟩,rfl⟩;obtain rfl:t2=true:=E.2 L.out;clear E) | fail);go_wp2_with fail;have HS:Hid (CU w9 0 0 (A0 (BM b d).birth) (A5) (.string (BM b d).data) (BM b d)):=⟨rfl,⟨Nat.zero_le _,none,0,rfl,Nat.le_refl _,fun h=>absurd h (Nat.lt_irrefl _)⟩,rfl,by show d.size<=maxLen;rw[Y.out];unfold maxLen;omega⟩;have fE:=Kz M.out.1;refine(ZQ _ _ _ lo hi 0 0 p (BM b d) w9 (Hp.out.A1 N) HS.out (by show Ap p+(0+d.size)<=_;rw[Y.out];omega)).mono ?_;rintro e w3 ⟨t0,t1,rfl,nA,oB⟩;have dA:Hid ((Bv p (BM b d)).code≠0->CF p xs xb (n:Int) d b=DM (Bv p (BM b d)).code):=fun h=>Xs z.out jA.out gA.out h
      have eA:Hid ((Bv p (BM b d)).code=0->CF p xs xb (n:Int) d b=CJ p xs xb n b ⟨(Bv p (BM b d)).pool,(Bv p (BM b d)).ps,(Bv p (BM b d)).pb,0⟩):=fun h=>Vx z.out jA.out gA.out h
      have mB:Hid (Ap (Bv p (BM b d)).pool+16<=1048576):=by
       have h1:=RU p (BM b d);have h2:Ce (BM b d)=16:=(by show 0+d.size=16;rw[Y.out]);show _<=_;omega
      generalize Bv p (BM b d)=od at nA dA eA mB ⊢;obtain⟨ta,tc,F,G,rfl,rfl⟩:=nA.form;have aA:=AB w3 (.cells #[.slice ta od.pool.n tc,.slice F od.pool.hn G,A0 od.ps,A0 od.pb,A0 od.code] 117);have Z:=A9 oB aA;have kA:=AF (nA.A1 aA);have r:=AF (Du.new w3 (.slice ta od.pool.n tc) (.slice F od.pool.hn G) (A0 od.ps) (A0 od.pb) (A0 od.code) 117);have x:=AF (kB.out.A1 Z);have y:=AF (lC.out.A1 Z);have X:=AF (q.out.A1 Z);have C:=A9 N Z;have iE:=oB.size;have pC:w3.heap.size<(w3.alloc (.cells #[.slice ta od.pool.n tc,.slice F od.pool.hn G,A0 od.ps,A0 od.pb,A0 od.code] 117)).heap.size:=(by rw[World.size_alloc];omega);clear nA oB aA Z x0 x1 x2 x3 kB lC q N HS fE;go_upto_region 8 with fail;generalize w3.alloc (.cells #[.slice ta od.pool.n tc,.slice F od.pool.hn G,A0 od.ps,A0 od.pb,A0 od.code] 117)=wD at kA r x y X C pC ⊢;generalize w3.heap.size=T at kA r iE pC ⊢;obtain⟨⟨t0,t1⟩,⟨t2,t3⟩,⟨t4,t5⟩,⟨t6,t7⟩,⟨t8,t9⟩⟩:=r.out;by_cases hc:od.code=0
      ·have eE:(od.code != 0)=false:=(by simp[hc]);have fA:=AF (eA.out hc);clear hc dA eA;obtain⟨⟨x0,x1⟩,⟨x2,x3⟩⟩:=x.out;obtain⟨⟨y0,y1⟩,⟨y2,y3⟩⟩:=y.out;go_upto_region 10 with fail;by_cases mA:(CJ p xs xb n b ⟨od.pool,od.ps,od.pb,0⟩).code=0
       ·have HC:=AF mA;clear mA;refine wp_region_held_drew (S:=(fun w'=>w'.cell? ⟨T,0,none⟩=some (.slice ta od.pool.n tc)/\w'.cell? ⟨T,1,none⟩=some (.slice F od.pool.hn G)/\w'.cell? ⟨T,2,none⟩=some (A0 od.ps)/\w'.cell? ⟨T,3,none⟩=some (A0 od.pb)/\w'.cell? ⟨w.heap.size,0,none⟩=some (.slice a p.n c)/\w'.cell? ⟨w.heap.size+1,0,none⟩=some (A0 xs)/\w'.cell? ⟨w.heap.size+1,1,none⟩=some (A0 xb))) (by kernel_rfl) ?_ (fun hHeld=>?_)
        ·(try dsimp only)
         go_keep
        refine tk 0 (h:=tk 1 (h:=tk 2 (h:=tk 3 (h:=tk 4 (h:=tk 5 (h:=tk 7 (h:=tk 8 (h:=tk 9 (h:=?_)))))))));refine rd [6] (rc (fun K hK=>?_) .nil);go_simp;go_at_call 80;refine(Vw _ lo hi p xs xb n _ ?_ M.out J).mono ?_
        ·first | exact(Hp.out.A1 C).1 | exact(Hp.out.A1 C.drew).1
        rintro e wa ⟨o,rfl,I,m⟩;obtain⟨rA,sA,rfl,_⟩:=Bw I;have A:=AF I;clear I;have j:Below wD.heap.size wD wa:=(by first | exact m | exact Cp m);obtain⟨⟨k0,_⟩,⟨k1,_⟩,⟨k2,_⟩,⟨k3,_⟩,_⟩:=r.out.A1 j;obtain⟨⟨k4,_⟩,_⟩:=x.out.A1 j;obtain⟨⟨k5,_⟩,⟨k6,_⟩⟩:=y.out.A1 j
        (try go_wp2_with fail)
        refine hK.out _ _ (by(try dsimp only);go_keep) ?_;clear hK K hHeld;intro hHeld
        try simp only[Act.put,s1,s2,s3]
        refine rd [10] (rc (fun K hK=>?_) .nil);go_simp;go_at_call 79;refine(Yp _ _ _ _ p od.pool xs xb od.ps od.pb b n _ wa (kA.out.A1 j).at J mB.out (A.out.mono (Nat.zero_le _))).mono ?_;rintro e wb (⟨bA,cA,H⟩ | ⟨bA,s0,s1,cA,oA,H⟩)
        ·exact absurd HC.out bA
        subst cA;have g:=A9 j H;obtain⟨a5,c5,a6,c6,rfl,rfl⟩:=oA.form;obtain⟨⟨l0,_⟩,⟨l1,_⟩,⟨l2,_⟩,⟨l3,_⟩,_⟩:=r.out.A1 g;obtain⟨⟨l4,_⟩,_⟩:=x.out.A1 g;obtain⟨⟨l5,_⟩,⟨l6,_⟩⟩:=y.out.A1 g;have V:=AF (X.out.A1 g);obtain⟨⟨r0,r1⟩,⟨r2,r3⟩,⟨r4,r5⟩,⟨r6,r7⟩,⟨r8,r9⟩,⟨s,u⟩⟩:=V.out;have l:Hid (∀(u0 u1 u2 u3 u4 u5:Value),(fun (w':World)=>w'.cell? ⟨T,0,none⟩=some (.slice ta od.pool.n tc)/\w'.cell? ⟨T,1,none⟩=some (.slice F od.pool.hn G)/\w'.cell? ⟨T,2,none⟩=some (A0 od.ps)/\w'.cell? ⟨T,3,none⟩=some (A0 od.pb)/\w'.cell? ⟨w.heap.size,0,none⟩=some (.slice a p.n c)/\w'.cell? ⟨w.heap.size+1,0,none⟩=some (A0 xs)/\w'.cell? ⟨w.heap.size+1,1,none⟩=some (A0 xb)) (put6 wb (w.heap.size+1+1) u0 u1 u2 u3 u4 u5)):=by
         intro u0 u1 u2 u3 u4 u5;have t:=AC.put6 wb (w.heap.size+1+1) u0 u1 u2 u3 u4 u5;have g1:=(r.out.A1 g).AD t (by omega);have g2:=(x.out.A1 g).AD t (by omega);have g3:=(y.out.A1 g).AD t (by omega);exact⟨g1.1.1,g1.2.1.1,g1.2.2.1.1,g1.2.2.2.1.1,g2.1.1,g3.1.1,g3.2.1⟩
        (try go_wp2_with fail)
        refine hK.out _ _ (by(try dsimp only);go_keep) ?_;clear hK K hHeld;intro hHeld
        try simp only[Act.put,s1,s2,s3]
        refine rd [11] (rc (fun K hK=>?_) .nil);go_simp
        (try go_wp2_with fail)
        refine hK.out _ _ (by(try dsimp only);exact l.out _ _ _ _ _ _) ?_;clear hK K hHeld;intro hHeld
        try simp only[Act.put,s1,s2,s3]
        refine wpAnyH_done (by kernel_rfl) ?_ _;have f:=V.out.put (.slice a5 (layS p xs xb n b ⟨od.pool,od.ps,od.pb,0⟩ 2).pool.n c5) (.slice a6 (layS p xs xb n b ⟨od.pool,od.ps,od.pb,0⟩ 2).pool.hn c6) (A0 (layS p xs xb n b ⟨od.pool,od.ps,od.pb,0⟩ 2).ps) (A0 (layS p xs xb n b ⟨od.pool,od.ps,od.pb,0⟩ 2).pb) (.slice rA (BS p xs xb n 3).length sA) (A0 0);have rB:=AC.put6 wb (w.heap.size+1+1) (.slice a5 (layS p xs xb n b ⟨od.pool,od.ps,od.pb,0⟩ 2).pool.n c5) (.slice a6 (layS p xs xb n b ⟨od.pool,od.ps,od.pb,0⟩ 2).pool.hn c6) (A0 (layS p xs xb n b ⟨od.pool,od.ps,od.pb,0⟩ 2).ps) (A0 (layS p xs xb n b ⟨od.pool,od.ps,od.pb,0⟩ 2).pb) (.slice rA (BS p xs xb n 3).length sA) (A0 0);have nC:=A9 C g;have jD:=AF oA;have lD:Hid (w.heap.size+3<=wD.heap.size):=(by show _<=_;omega);have mD:=AF j.size;have iD:=AF H;clear hHeld l l0 l1 l2 l3 l4 l5 l6 k0 k1 k2 k3 k4 k5 k6 oA H;go_wp2;have hE:=fA.out.trans (zIA HC.out);rw[hE];have lF:=lD.out;have mF:=mD.out;exact bodyPost_ret (v:=.agg #[.slice a5 (layS p xs xb n b ⟨od.pool,od.ps,od.pb,0⟩ 2).pool.n c5,.slice a6 (layS p xs xb n b ⟨od.pool,od.ps,od.pb,0⟩ 2).pool.hn c6,A0 (layS p xs xb n b ⟨od.pool,od.ps,od.pb,0⟩ 2).ps,A0 (layS p xs xb n b ⟨od.pool,od.ps,od.pb,0⟩ 2).pb,.slice rA (BS p xs xb n 3).length sA,A0 0]) (by simp[results,Tryz.results35,go_sem,f.1.1,f.2.1.1,f.2.2.1.1,f.2.2.2.1.1,f.2.2.2.2.1.1,f.2.2.2.2.2.1]) rfl ⟨_,_,_,wa.heap.size,wb.heap.size,rfl,by omega,rB.size,jD.out.AD rB (by intro k hk;omega),(((((((A.out.A1 iD.out).put (show w.heap.size+1+1<wD.heap.size by omega) _).put (show w.heap.size+1+1<wD.heap.size by omega) _).put (show w.heap.size+1+1<wD.heap.size by omega) _).put (show w.heap.size+1+1<wD.heap.size by omega) _).put (show w.heap.size+1+1<wD.heap.size by omega) _).put (show w.heap.size+1+1<wD.heap.size by omega) _).mono (show w.heap.size<=wD.heap.size by omega),fun k hk=>Or.inl (A.out.lt hk).2,nC.trans (rB.A1 (B:=w.heap.size) nC.size (by intro k hk;omega))⟩
       ·have HC:=AF mA;clear mA;refine wp_region_held_drew (S:=(fun w'=>w'.cell? ⟨T,0,none⟩=some (.slice ta od.pool.n tc)/\w'.cell? ⟨T,1,none⟩=some (.slice F od.pool.hn G)/\w'.cell? ⟨T,2,none⟩=some (A0 od.ps)/\w'.cell? ⟨T,3,none⟩=some (A0 od.pb)/\w'.cell? ⟨w.heap.size,0,none⟩=some (.slice a p.n c)/\w'.cell? ⟨w.heap.size+1,0,none⟩=some (A0 xs)/\w'.cell? ⟨w.heap.size+1,1,none⟩=some (A0 xb))) (by kernel_rfl) ?_ (fun hHeld=>?_)
        ·(try dsimp only)
         go_keep
        refine tk 0 (h:=tk 1 (h:=tk 2 (h:=tk 3 (h:=tk 4 (h:=tk 5 (h:=tk 7 (h:=tk 8 (h:=tk 9 (h:=?_)))))))));refine rd [6] (rc (fun K hK=>?_) .nil);go_simp;go_at_call 80;refine(Vw _ lo hi p xs xb n _ ?_ M.out J).mono ?_
        ·first | exact(Hp.out.A1 C).1 | exact(Hp.out.A1 C.drew).1
        rintro e wa ⟨o,rfl,I,m⟩;obtain⟨rA,sA,rfl,_⟩:=Bw I;have A:=AF I;clear I;have j:Below wD.heap.size wD wa:=(by first | exact m | exact Cp m);obtain⟨⟨k0,_⟩,⟨k1,_⟩,⟨k2,_⟩,⟨k3,_⟩,_⟩:=r.out.A1 j;obtain⟨⟨k4,_⟩,_⟩:=x.out.A1 j;obtain⟨⟨k5,_⟩,⟨k6,_⟩⟩:=y.out.A1 j
        (try go_wp2_with fail)
        refine hK.out _ _ (by(try dsimp only);go_keep) ?_;clear hK K hHeld;intro hHeld
        try simp only[Act.put,s1,s2,s3]
        refine rd [10] (rc (fun K hK=>?_) .nil);go_simp;go_at_call 79;refine(Yp _ _ _ _ p od.pool xs xb od.ps od.pb b n _ wa (kA.out.A1 j).at J mB.out (A.out.mono (Nat.zero_le _))).mono ?_;rintro e wb (⟨bA,cA,H⟩ | ⟨bA,s0,s1,cA,oA,H⟩);rotate_left
        ·exact absurd bA HC.out
        subst cA;have g:=A9 j H;obtain⟨⟨l0,_⟩,⟨l1,_⟩,⟨l2,_⟩,⟨l3,_⟩,_⟩:=r.out.A1 g;obtain⟨⟨l4,_⟩,_⟩:=x.out.A1 g;obtain⟨⟨l5,_⟩,⟨l6,_⟩⟩:=y.out.A1 g;have V:=AF (X.out.A1 g);obtain⟨⟨r0,r1⟩,⟨r2,r3⟩,⟨r4,r5⟩,⟨r6,r7⟩,⟨r8,r9⟩,⟨s,u⟩⟩:=V.out;have l:Hid (∀(u0 u1 u2 u3 u4 u5:Value),(fun (w':World)=>w'.cell? ⟨T,0,none⟩=some (.slice ta od.pool.n tc)/\w'.cell? ⟨T,1,none⟩=some (.slice F od.pool.hn G)/\w'.cell? ⟨T,2,none⟩=some (A0 od.ps)/\w'.cell? ⟨T,3,none⟩=some (A0 od.pb)/\w'.cell? ⟨w.heap.size,0,none⟩=some (.slice a p.n c)/\w'.cell? ⟨w.heap.size+1,0,none⟩=some (A0 xs)/\w'.cell? ⟨w.heap.size+1,1,none⟩=some (A0 xb)) (put6 wb (w.heap.size+1+1) u0 u1 u2 u3 u4 u5)):=by
         intro u0 u1 u2 u3 u4 u5;have t:=AC.put6 wb (w.heap.size+1+1) u0 u1 u2 u3 u4 u5;have g1:=(r.out.A1 g).AD t (by omega);have g2:=(x.out.A1 g).AD t (by omega);have g3:=(y.out.A1 g).AD t (by omega);exact⟨g1.1.1,g1.2.1.1,g1.2.2.1.1,g1.2.2.2.1.1,g2.1.1,g3.1.1,g3.2.1⟩
        (try go_wp2_with fail)
        refine hK.out _ _ (by(try dsimp only);go_keep) ?_;clear hK K hHeld;intro hHeld
        try simp only[Act.put,s1,s2,s3]
        refine rd [11] (rc (fun K hK=>?_) .nil);go_simp
        (try go_wp2_with fail)
        refine hK.out _ _ (by(try dsimp only);exact l.out _ _ _ _ _ _) ?_;clear hK K hHeld;intro hHeld
        try simp only[Act.put,s1,s2,s3]
        refine wpAnyH_done (by kernel_rfl) ?_ _;have f:=V.out.put (A5) (A5) (A0 0) (A0 0) (A5) (A0 (CJ p xs xb n b ⟨od.pool,od.ps,od.pb,0⟩).code);have i:=Ja (R:=w.heap.size+1+1) (c:=(CJ p xs xb n b ⟨od.pool,od.ps,od.pb,0⟩).code) (by omega) (A9 C g);have kD:=AF i;clear hHeld l l0 l1 l2 l3 l4 l5 l6 k0 k1 k2 k3 k4 k5 k6 i;go_wp2;have hE:=fA.out.trans (zF5 HC.out);rw[hE];exact bodyPost_ret (v:=.agg #[A5,A5,A0 0,A0 0,A5,A0 (CJ p xs xb n b ⟨od.pool,od.ps,od.pb,0⟩).code]) (by simp[results,Tryz.results35,go_sem,f.1.1,f.2.1.1,f.2.2.1.1,f.2.2.2.1.1,f.2.2.2.2.1.1,f.2.2.2.2.2.1]) rfl kD.out
      ·have eE:(od.code != 0)=true:=(by simp[hc]);have fA:=AF (dA.out hc);clear hc dA eA;obtain⟨⟨r0,r1⟩,⟨r2,r3⟩,⟨r4,r5⟩,⟨r6,r7⟩,⟨r8,r9⟩,⟨s,u⟩⟩:=X.out
       try go_wp2
       have f:=X.out.put (A5) (A5) (A0 0) (A0 0) (A5) (A0 od.code);have i:=Ja (R:=w.heap.size+1+1) (c:=od.code) (by omega) C;rw[fA.out];exact bodyPost_ret (v:=.agg #[A5,A5,A0 0,A0 0,A5,A0 od.code]) (by simp[results,Tryz.results35,go_sem,f.1.1,f.2.1.1,f.2.2.1.1,f.2.2.2.1.1,f.2.2.2.2.1.1,f.2.2.2.2.2.1]) rfl i
     ·have gA:Hid (¬(EY (n:Int)/\d.size=16)):=fun h=>D h.2
      have cE:((d.size:Int) != 16)=true:=(by simp;omega);clear D;go_wp2_with (first | (go_at_call 77;refine(Rn _ _).mono ?_;rintro e w9 ⟨⟨t2,rfl,E⟩,rfl⟩;obtain rfl:t2=true:=E.2 L.out;clear E) | fail);obtain⟨⟨r0,r1⟩,⟨r2,r3⟩,⟨r4,r5⟩,⟨r6,r7⟩,⟨r8,r9⟩,⟨s,u⟩⟩:=q.out
      try go_wp2
      have f:=q.out.put (A5) (A5) (A0 0) (A0 0) (A5) (A0 8);have i:=Ja (R:=w.heap.size+1+1) (c:=8) (by omega) N;rw[MO z.out jA.out gA.out];exact bodyPost_ret (v:=.agg #[A5,A5,A0 0,A0 0,A5,A0 8]) (by simp[results,Tryz.results35,go_sem,f.1.1,f.2.1.1,f.2.2.1.1,f.2.2.2.1.1,f.2.2.2.2.1.1,f.2.2.2.2.2.1]) rfl i
    ·have L:=AF hN;clear hN;go_wp2_with (first | (go_at_call 77;refine(Rn _ _).mono ?_;rintro e w9 ⟨⟨t2,rfl,E⟩,rfl⟩;obtain rfl:t2=false:=BQ E L.out;clear E) | fail);obtain⟨⟨r0,r1⟩,⟨r2,r3⟩,⟨r4,r5⟩,⟨r6,r7⟩,⟨r8,r9⟩,⟨s,u⟩⟩:=q.out
     try go_wp2
     have f:=q.out.put (A5) (A5) (A0 0) (A0 0) (A5) (A0 8);have i:=Ja (R:=w.heap.size+1+1) (c:=8) (by omega) N;rw[MO z.out jA.out (fun h=>L.out h.1)];exact bodyPost_ret (v:=.agg #[A5,A5,A0 0,A0 0,A5,A0 8]) (by simp[results,Tryz.results35,go_sem,f.1.1,f.2.1.1,f.2.2.1.1,f.2.2.2.1.1,f.2.2.2.2.1.1,f.2.2.2.2.2.1]) rfl i
   ·have gD:=AF O;obtain rfl:t=false:=BQ ht O;clear ht O;obtain⟨⟨r0,r1⟩,⟨r2,r3⟩,⟨r4,r5⟩,⟨r6,r7⟩,⟨r8,r9⟩,⟨s,u⟩⟩:=q.out
    try go_wp2
    have f:=q.out.put (A5) (A5) (A0 0) (A0 0) (A5) (A0 1);have i:=Ja (R:=w.heap.size+1+1) (c:=1) (by omega) N;rw[MK z.out (fun h=>gD.out h.2)];exact bodyPost_ret (v:=.agg #[A5,A5,A0 0,A0 0,A5,A0 1]) (by simp[results,Tryz.results35,go_sem,f.1.1,f.2.1.1,f.2.2.1.1,f.2.2.2.1.1,f.2.2.2.2.1.1,f.2.2.2.2.2.1]) rfl i
  ·have M:=AF P;obtain rfl:t=false:=BQ ht P;clear ht P;obtain⟨⟨r0,r1⟩,⟨r2,r3⟩,⟨r4,r5⟩,⟨r6,r7⟩,⟨r8,r9⟩,⟨s,u⟩⟩:=iA.out
   try go_wp2
   have f:=iA.out.put (A5) (A5) (A0 0) (A0 0) (A5) (A0 1);have i:=Ja (R:=w.heap.size+1+1) (c:=1) (by omega) nB;rw[MK z.out (fun h=>M.out h.1)];exact bodyPost_ret (v:=.agg #[A5,A5,A0 0,A0 0,A5,A0 1]) (by simp[results,Tryz.results35,go_sem,f.1.1,f.2.1.1,f.2.2.1.1,f.2.2.2.1.1,f.2.2.2.2.1.1,f.2.2.2.2.2.1]) rfl i
theorem Xx{p:A7}{xs xb:Int}{n:Nat}(b:As p xs xb)(hn:n<64):∀{L:Nat},L<3->¬Nil (BN p xs xb n L) (Be p xs xb n L)->B8 p (BN p xs xb n L) (Be p xs xb n L)/\Be p xs xb n L<=xb
 | 0,_,hN=>⟨(b.2.resolve_left hN).1.1,Int.le_refl _⟩
 | L+1,hL,hN=>by
  have a:¬Nil (BN p xs xb n L) (Be p xs xb n L):=fun h=>hN (KP h (by omega))
  obtain⟨c,g⟩:=Xx b hn (L:=L) (by omega) a;rw[(KZ p xs xb n (show L<2 by omega)).1,(KZ p xs xb n (show L<2 by omega)).2]at hN ⊢;unfold Cx at hN ⊢;rw[if_neg a,if_neg a]at hN ⊢;obtain⟨d,e⟩:=J5 (Ey b.1 c) (N9 (n:=n) (L:=L) hn) hN;refine⟨d,?_⟩;have i:=c.2.2.2;have f:BC (p.s (BN p xs xb n L).toNat) (plc n L*2+1)<=(p.s (BN p xs xb n L).toNat).birth:=e;omega
variable{q:A7}{x y:Int}{n:Nat}
theorem Jg{L:Nat}(j:As p xs xb)(hn:n<64)(w:L<2)(g:C8 xb b)(d:∀s t,B8 p s t->B8 q s t)(m:Nil x y\/(B8 q x y/\y<=b)) :
 C5 q (Bc (Ao p xs xb n L x) (Am p xs xb n L y) b):=by
 refine⟨g.1,Or.inr ⟨rfl,by simp[Bc,Go.ByteArray.toList_eq],fun i hi=>?_⟩⟩;have c:i<8:=hi;show Mp q b (Ao p xs xb n L x i) (Am p xs xb n L y i);unfold Ao Am;by_cases e:i=plc n L
 ·rw[if_pos e,if_pos e];rcases m with h | h
  ·exact Or.inl h
  ·exact Or.inr h
 ·rw[if_neg e,if_neg e];unfold BU Bf;by_cases a:Nil (BN p xs xb n L) (Be p xs xb n L)
  ·rw[if_pos a,if_pos a];exact Or.inl ⟨rfl,rfl⟩
  ·rw[if_neg a,if_neg a];obtain⟨f,o⟩:=Xx j hn (L:=L) (by omega) a;by_cases k:Nil (AK (p.s (BN p xs xb n L).toNat) i) (AW (p.s (BN p xs xb n L).toNat) i)
   ·exact Or.inl k
   ·obtain⟨l,r⟩:=J5 (Ey j.1 f) c k;refine Or.inr ⟨d _ _ l,?_⟩;have u:=f.2.2.2;have v:=g.2;omega
theorem MB{f:Nat->AH}:∀{n:Nat},roomN f n=0->∀j,j<n->¬Ah (f j)
 | 0,_,j,hj=>absurd hj (Nat.not_lt_zero _)
 | n+1,h,j,hj=>by
  by_cases a:Ah (f n)
  ·rw[Jl a]at h;omega
  ·rw[J0 a]at h;by_cases e:j=n
   ·rw[e];exact a
   ·exact MB h j (by omega)
theorem IE{f:Nat->AH}:∀{n:Nat},0<roomN f n->∃i,Ba n f i
 | 0,h=>absurd h (Nat.lt_irrefl _)
 | n+1,h=>by
  by_cases a:0<roomN f n
  ·obtain⟨i,e,c,d⟩:=IE a;exact⟨i,by omega,c,d⟩
  ·by_cases b:Ah (f n)
   ·exact⟨n,by omega,b,MB (by omega)⟩
   ·rw[J0 b]at h;exact absurd h a
variable{i:Nat}
theorem Km{s:AH}(hi:Ba p.n p.s i)(hs:C5 p s):roomN (Au p i s).s p.n+1=roomN p.s p.n:=by
 have h:=UX (p:=p) (i:=i) (s:=s) hi.2.1 (GC hs) p.n;rw[if_pos hi.1]at h;exact h
theorem Gd(a:DS b)(c:d.size=16):C5 p (BM b d):=⟨a,Or.inl ⟨rfl,c⟩⟩
theorem MG{s:AH}(hi:Ba p.n p.s i)(hs:1<=s.birth):B8 (Au p i s) (i:Int) s.birth:=
 ⟨hs,by omega,by have:=hi.1;show(i:Int)<(p.n:Int);omega,by rw[Int.toNat_natCast,J1]⟩
theorem OV{L:Nat}(hn:n<64)(a:1<=b):¬Df (Ao p xs xb n L x) (Am p xs xb n L b):=fun h=>by
 have:=(h (plc n L) (N9 hn)).2;unfold Am at this;rw[if_pos rfl]at this;omega
def Bg(p:A7)(b:Int)(d:ByteArray)(i0:Nat):A7:=Au p i0 (BM b d)
def Cz(p:A7)(xs xb:Int)(n:Nat)(b:Int)(d:ByteArray)(i0 i1:Nat):A7:=Au (Bg p b d i0) i1 (Bc (Ao p xs xb n 1 (i0:Int)) (Am p xs xb n 1 b) b)
def IS(p:A7)(xs xb:Int)(n:Nat)(b:Int)(d:ByteArray)(i0 i1 i2:Nat):A7:=Au (Cz p xs xb n b d i0 i1) i2 (Bc (Ao p xs xb n 0 (i1:Int)) (Am p xs xb n 0 b) b)
theorem zIw{i0:Nat}(f:As p xs xb)(a:C8 xb b)(c:d.size=16)(e:Ba p.n p.s i0):Bv p (BM b d)=⟨Bg p b d i0,(i0:Int),b,0⟩:=
 KS ⟨f.1,GC (Gd (p:=p) a.1 c),Gd a.1 c⟩ e
theorem OW{i0:Nat}(e:As p xs xb)(c:C8 xb b)(f:d.size=16)(a:Ba p.n p.s i0):AZ (Bg p b d i0):=OK e.1 a (Gd c.1 f)
theorem I3{i0:Nat}(e:As p xs xb)(hn:n<64)(c:C8 xb b)(a:Ba p.n p.s i0):C5 (Bg p b d i0) (Bc (Ao p xs xb n 1 (i0:Int)) (Am p xs xb n 1 b) b):=
 Jg e hn (by omega) c (fun s t h=>MI a.2.1 h) (Or.inr ⟨MG (s:=BM b d) a c.1.1,Int.le_refl _⟩)
variable{i1:Nat}
theorem Lv{i0:Nat}(f:As p xs xb)(hn:n<64)(c:C8 xb b)(e:Ba p.n p.s i0)(a:Ba p.n (Bg p b d i0).s i1):C5 (Cz p xs xb n b d i0 i1) (Bc (Ao p xs xb n 0 (i1:Int)) (Am p xs xb n 0 b) b):=
 Jg f hn (by omega) c (fun s t h=>MI (p:=Bg p b d i0) a.2.1 (MI e.2.1 h)) (Or.inr ⟨MG (p:=Bg p b d i0) (s:=Bc (Ao p xs xb n 1 (i0:Int)) (Am p xs xb n 1 b) b) a c.1.1,Int.le_refl _⟩)
theorem yh{i0:Nat}(hn:n<64)(a:C8 xb b):layS p xs xb n b ⟨Bg p b d i0,(i0:Int),b,0⟩ 1=Bv (Bg p b d i0) (Bc (Ao p xs xb n 1 (i0:Int)) (Am p xs xb n 1 b) b):=
 if_neg (OV hn a.1.1)
theorem Pp{i0:Nat}(e:As p xs xb)(hn:n<64)(a:C8 xb b)(g:d.size=16)(c:Ba p.n p.s i0)(f:Ba p.n (Bg p b d i0).s i1):layS p xs xb n b ⟨Bg p b d i0,(i0:Int),b,0⟩ 1=⟨Cz p xs xb n b d i0 i1,(i1:Int),b,0⟩:=by
 rw[yh hn a];exact KS ⟨OW e a g c,GC (I3 (d:=d) e hn a c),I3 e hn a c⟩ f
theorem yi{i0:Nat}(f:As p xs xb)(hn:n<64)(a:C8 xb b)(g:d.size=16)(c:Ba p.n p.s i0)(e:Ba p.n (Bg p b d i0).s i1):layS p xs xb n b ⟨Bg p b d i0,(i0:Int),b,0⟩ 2=Bv (Cz p xs xb n b d i0 i1) (Bc (Ao p xs xb n 0 (i1:Int)) (Am p xs xb n 0 b) b):=by
 show JI p xs xb n b (layS p xs xb n b ⟨Bg p b d i0,(i0:Int),b,0⟩ 1) 0=_;rw[Pp f hn a g c e];exact if_neg (OV hn a.1.1)
theorem Sk(hn:n<64):EY (n:Int):=⟨by omega,by omega⟩
theorem UQ{i0:Nat}(c:As p xs xb)(hn:n<64)(a:C8 xb b)(e:d.size=16)(g:Ba p.n p.s i0):CF p xs xb (n:Int) d b=CJ p xs xb n b ⟨Bg p b d i0,(i0:Int),b,0⟩:=by
 have f:=zIw c a e g;rw[Vx (by omega) ⟨c,a⟩ ⟨Sk hn,e⟩ (by rw[f]),f];rfl
theorem RR{i0:Nat}(e:As p xs xb)(hn:n<64)(c:C8 xb b)(g:d.size=16)(a:Ba p.n p.s i0)(f:Ba p.n (Bg p b d i0).s i1):AZ (Cz p xs xb n b d i0 i1):=
 OK (OW e c g a) f (I3 e hn c a)
theorem UR{i0 i2:Nat}(e:As p xs xb)(hn:n<64)(c:C8 xb b)(g:d.size=16)(a:Ba p.n p.s i0)(f:Ba p.n (Bg p b d i0).s i1)(k:Ba p.n (Cz p xs xb n b d i0 i1).s i2) :
 CF p xs xb (n:Int) d b=⟨IS p xs xb n b d i0 i1 i2,(i2:Int),b,BS p xs xb n 3,0⟩:=by
 rw[UQ e hn c g a];have i:=Pp e hn c g a f;have h:layS p xs xb n b ⟨Bg p b d i0,(i0:Int),b,0⟩ 2=⟨IS p xs xb n b d i0 i1 i2,(i2:Int),b,0⟩:=by
  rw[yi e hn c g a f];exact KS ⟨RR e hn c g a f,GC (Lv (d:=d) e hn c a f),Lv e hn c a f⟩ k
 rw[Ni (fun j l=>by
  rcases j with _ | _ | _ | j
  ·rfl
  ·rw[i]
  ·rw[h]
  ·omega),h]
theorem Xr(c:As p xs xb)(hn:n<64)(a:C8 xb b)(g:d.size=16)(x:roomN p.s p.n<3):CF p xs xb (n:Int) d b=DM 6:=by
 by_cases r0:roomN p.s p.n=0
 ·have o:=Ko (p:=p) (s:=BM b d) ⟨c.1,GC (Gd (p:=p) a.1 g),Gd a.1 g⟩ (MB r0);rw[Xs (by omega) ⟨c,a⟩ ⟨Sk hn,g⟩ (by rw[o];decide),o]
 ·obtain⟨i0,e⟩:=IE (f:=p.s) (n:=p.n) (by omega);have r:=Km (s:=BM b d) e (Gd a.1 g);rw[UQ c hn a g e];by_cases r1:roomN (Bg p b d i0).s p.n=0
  ·have v:=Ko (p:=Bg p b d i0) ⟨OW c a g e,GC (I3 (n:=n) (d:=d) c hn a e),I3 c hn a e⟩ (MB r1);have i:=yh (p:=p) (xs:=xs) (d:=d) (i0:=i0) hn a;rw[v]at i;rw[LX (k:=0) (by omega) (fun j q=>by cases (show j=0 from by omega);rfl) (by rw[i];decide),i]
  ·obtain⟨m,h⟩:=IE (f:=(Bg p b d i0).s) (n:=p.n) (by omega);have q1:roomN (Cz p xs xb n b d i0 m).s p.n+1=roomN (Bg p b d i0).s p.n:=Km (p:=Bg p b d i0) h (I3 c hn a e);have t:roomN (Bg p b d i0).s p.n+1=roomN p.s p.n:=r;have u:roomN (Cz p xs xb n b d i0 m).s p.n=0:=(by omega);have w:=Ko (p:=Cz p xs xb n b d i0 m) ⟨RR c hn a g e h,GC (Lv (d:=d) c hn a e h),Lv c hn a e h⟩ (MB u);have i:=Pp c hn a g e h;have l:=yi c hn a g e h;rw[w]at l;rw[LX (k:=1) (by omega) (fun j q=>by
    rcases j with _ | _ | j
    ·rfl
    ·rw[i]
    ·omega) (by rw[l];decide),l]
def DJ(w:World)(S:Nat->Prop)(v0 v1:Value)(p:A7):Prop:=
 ∃(bs hb:Nat) (kb:Nat->Nat) (kv:Nat->Value),FF w bs kb kv v0 p.n p.s/\M1 kb p.n p.s/\Fe w hb v1 p.hn p.h/\(0<p.hn->¬FY bs kb p.n p.s hb)/\
  ∀k,FY bs kb p.n p.s k\/(0<p.hn/\k=hb)->S k
variable{w:World}{lo hi:Nat}{S:Nat->Prop}{v0 v1:Value}
theorem Bq.isIn(h:Bq w lo hi v0 v1 p)(i:∀k,lo<=k->k<hi->S k):DJ w S v0 v1 p:=by
 obtain⟨c,j,l,kv,d,e,f,g,a⟩:=h;exact⟨c,j,l,kv,d,e,f,g,fun k b=>i k (a k b).1 (a k b).2⟩
theorem DJ.own(h:DJ w S v0 v1 p)(g:∀k,S k->lo<=k/\k<hi):Bq w lo hi v0 v1 p:=by
 obtain⟨a,i,l,kv,b,c,d,e,f⟩:=h;exact⟨a,i,l,kv,b,c,d,e,fun k j=>g k (f k j)⟩
variable{T:Nat->Prop}
theorem DJ.mono(h:DJ w S v0 v1 p)(g:∀k,S k->T k):DJ w T v0 v1 p:=by
 obtain⟨a,i,l,kv,b,c,d,e,f⟩:=h;exact⟨a,i,l,kv,b,c,d,e,fun k j=>g k (f k j)⟩
variable{w':World}
theorem DJ.A1(h:DJ w S v0 v1 p)(t:Below w.heap.size w w'):DJ w' S v0 v1 p:=by
 obtain⟨a,g,i,kv,b,c,d,e,f⟩:=h;exact⟨a,g,i,kv,b.A1 t,c,d.A1 t,e,f⟩
theorem DJ.AD(h:DJ w S v0 v1 p)(t:AC T w w')(hs:∀k,S k->¬T k):DJ w' S v0 v1 p:=by
 obtain⟨b,d,e,kv,f,g,j,l,c⟩:=h;have out:∀k,FY b e p.n p.s k\/(0<p.hn/\k=d)->¬T k:=fun k m=>hs k (c k m)
 exact⟨b,d,e,kv,f.AD t (fun a=>out _ (Or.inl (Or.inl ⟨a,rfl⟩))) (fun i hi h=>out _ (Or.inl (Or.inr ⟨i,hi,h,rfl⟩))),g,j.AD t (fun a=>out _ (Or.inr ⟨a,rfl⟩)),l,c⟩
theorem DJ.at(h:DJ w S v0 v1 p)(a:∀k,S k->lo<=k/\k<hi):CD w lo hi v0 v1 p:=(h.own a).at
theorem UI(c:layS p xs xb n b ⟨p,0,0,0⟩ 1=⟨q,x,y,0⟩)(d:Df (Ao p xs xb n 0 x) (Am p xs xb n 0 y)):CJ p xs xb n b ⟨p,0,0,0⟩=⟨q,0,0,BS p xs xb n 3,0⟩:=by
 have a:layS p xs xb n b ⟨p,0,0,0⟩ 2=⟨q,0,0,0⟩:=by
  show JI p xs xb n b (layS p xs xb n b ⟨p,0,0,0⟩ 1) 0=_;rw[c];exact if_pos d
 rw[Ni (fun j e=>by
  rcases j with _ | _ | _ | j
  ·rfl
  ·rw[c]
  ·rw[a]
  ·omega),a]
theorem UK(c:layS p xs xb n b ⟨p,0,0,0⟩ 1=⟨q,x,y,0⟩)(d:¬Df (Ao p xs xb n 0 x) (Am p xs xb n 0 y))(e:AZ q)(hF:C5 q (Bc (Ao p xs xb n 0 x) (Am p xs xb n 0 y) b))(hi:Ba q.n q.s i) :
 CJ p xs xb n b ⟨p,0,0,0⟩=⟨Au q i (Bc (Ao p xs xb n 0 x) (Am p xs xb n 0 y) b),(i:Int),b,BS p xs xb n 3,0⟩:=by
 have a:layS p xs xb n b ⟨p,0,0,0⟩ 2=⟨Au q i (Bc (Ao p xs xb n 0 x) (Am p xs xb n 0 y) b),(i:Int),b,0⟩:=by
  show JI p xs xb n b (layS p xs xb n b ⟨p,0,0,0⟩ 1) 0=_;rw[c];exact(if_neg d).trans (KS ⟨e,GC hF,hF⟩ hi)
 rw[Ni (fun j f=>by
  rcases j with _ | _ | _ | j
  ·rfl
  ·rw[c]
  ·rw[a]
  ·omega),a]
theorem Vu(d:layS p xs xb n b ⟨p,0,0,0⟩ 1=⟨q,x,y,0⟩)(e:¬Df (Ao p xs xb n 0 x) (Am p xs xb n 0 y))(f:AZ q)(hF:C5 q (Bc (Ao p xs xb n 0 x) (Am p xs xb n 0 y) b))(a:∀j,j<q.n->¬Ah (q.s j)) :
 CJ p xs xb n b ⟨p,0,0,0⟩=DM 6:=by
 have c:layS p xs xb n b ⟨p,0,0,0⟩ 2=⟨Cs 0,0,0,6⟩:=by
  show JI p xs xb n b (layS p xs xb n b ⟨p,0,0,0⟩ 1) 0=_;rw[d];exact(if_neg e).trans (Ko ⟨f,GC hF,hF⟩ a)
 rw[LX (k:=1) (by omega) (fun j g=>by
    rcases j with _ | _ | j
    ·rfl
    ·rw[d]
    ·omega) (by rw[c];decide),c]
theorem zIf(a:Df (Ao p xs xb n 1 0) (Am p xs xb n 1 0)):layS p xs xb n b ⟨p,0,0,0⟩ 1=⟨p,0,0,0⟩:=if_pos a
theorem zIg(a:As p xs xb)(hn:n<64)(c:C8 xb b)(d:¬Df (Ao p xs xb n 1 0) (Am p xs xb n 1 0))(hi:Ba p.n p.s i) :
 layS p xs xb n b ⟨p,0,0,0⟩ 1=⟨Au p i (Bc (Ao p xs xb n 1 0) (Am p xs xb n 1 0) b),(i:Int),b,0⟩:=by
 have hF:C5 p (Bc (Ao p xs xb n 1 0) (Am p xs xb n 1 0) b):=Jg a hn (by omega) c (fun s t h=>h) (Or.inl ⟨rfl,rfl⟩);exact(if_neg d).trans (KS ⟨a.1,GC hF,hF⟩ hi)
theorem zF9(d:As p xs xb)(hn:n<64)(e:C8 xb b)(f:¬Df (Ao p xs xb n 1 0) (Am p xs xb n 1 0))(a:∀j,j<p.n->¬Ah (p.s j)):CJ p xs xb n b ⟨p,0,0,0⟩=DM 6:=by
 have hF:C5 p (Bc (Ao p xs xb n 1 0) (Am p xs xb n 1 0) b):=Jg d hn (by omega) e (fun s t h=>h) (Or.inl ⟨rfl,rfl⟩);have c:layS p xs xb n b ⟨p,0,0,0⟩ 1=⟨Cs 0,0,0,6⟩:=(if_neg f).trans (Ko ⟨d.1,GC hF,hF⟩ a);rw[LX (k:=0) (by omega) (fun j g=>by cases (show j=0 from by omega);rfl) (by rw[c];decide),c]
variable{g:Nat->Int}
theorem zGG{f:Nat->Int}:(∃i,i<8/\¬Nil (f i) (g i))↔¬Df f g:=by
 constructor
 ·rintro⟨i,hi,h⟩ a;exact h (a i hi)
 ·intro h;apply Classical.byContradiction;intro b;exact h fun i hi=>Classical.byContradiction fun hn=>b ⟨i,hi,hn⟩
open Classical in
def Dx(p:A7)(m:Nat):A7:={n:=p.n,s:=fun i=>if Has m p.h (i:Int)then EW else p.s i,hn:=p.hn,h:=p.h}
def Gn(p:A7):A7:={n:=p.n,s:=(Dx p p.hn).s,hn:=0,h:=p.h}
open Classical in
def IP(p:A7):A7:=if AZ p/\AZ (Gn p)then Gn p else p
variable{m:Nat}
theorem Qz(h:Has m p.h (i:Int)):(Dx p m).s i=EW:=if_pos h
theorem RA(h:¬Has m p.h (i:Int)):(Dx p m).s i=p.s i:=if_neg h
theorem zAb(p:A7):Dx p 0=p:=by
 have e:(Dx p 0).s=p.s:=funext fun i=>RA (fun ⟨j,hj,_⟩=>absurd hj (Nat.not_lt_zero _))
 show A7.mk p.n (Dx p 0).s p.hn p.h=p;rw[e]
variable{k:Nat}
theorem zAa(c:p.h k=(m:Int)):Dx p (k+1)=Au (Dx p k) m EW:=by
 have e:(Dx p (k+1)).s=(Au (Dx p k) m EW).s:=funext fun i=>by
  show _=if i=m then EW else(Dx p k).s i
  by_cases b:i=m
  ·rw[if_pos b,Qz ⟨k,by omega,by rw[c,b]⟩]
  ·rw[if_neg b];by_cases a:Has k p.h (i:Int)
   ·rw[Qz a,Qz (by obtain⟨j,f,e⟩:=a;exact⟨j,by omega,e⟩)]
   ·rw[RA a,RA (fun ⟨j,f,e⟩=>a ⟨j,by
     by_cases d:j=k
     ·subst d;rw[c]at e;omega
     ·omega,e⟩)]
 show A7.mk p.n (Dx p (k+1)).s p.hn p.h=A7.mk p.n (Au (Dx p k) m EW).s p.hn p.h;rw[e]
theorem UG(h:AZ p)(a:AZ (Gn p)):IP p=Gn p:=if_pos ⟨h,a⟩
theorem PU(h:¬(AZ p/\AZ (Gn p))):IP p=p:=if_neg h
structure Ab where
 name:ByteArray
 origin:Int
 A8:Int
 rs:Int
 rb:Int
 dn:Nat
 ds:Nat->Int
 db:Nat->Int
structure Aa where
 id:Int
 name:ByteArray
 set:ByteArray
 A8:Int
 time:Int
 rs:Int
 rb:Int
 dn:Nat
 ds:Nat->Int
 db:Nat->Int
structure A6 where
 pool:A7
 time:Int
 next:Int
 sn:Nat
 A2:Nat->Ab
 pn:Nat
 A3:Nat->Aa
structure I1 (w:World) (b o lo hi:Nat) (vd:Value) (s:Ab):Prop where
 c0:w.cell? ⟨b,o,none⟩=some (.string s.name)
 c1:w.cell? ⟨b,o+1,none⟩=some (A0 s.origin)
 c2:w.cell? ⟨b,o+2,none⟩=some (A0 s.A8)
 c3:w.cell? ⟨b,o+3,none⟩=some (A0 s.rs)
 c4:w.cell? ⟨b,o+4,none⟩=some (A0 s.rb)
 c5:w.cell? ⟨b,o+5,none⟩=some vd
 dead:BG w lo hi vd s.dn s.ds s.db
 CG:s.name.size<=maxLen
theorem I1.A1{b o:Nat}{vd:Value}{s:Ab}(h:I1 w b o lo hi vd s)(t:Below w.heap.size w w'):I1 w' b o lo hi vd s:=
 ⟨(t.cell (AV h.c0)).trans h.c0,(t.cell (AV h.c1)).trans h.c1,(t.cell (AV h.c2)).trans h.c2,(t.cell (AV h.c3)).trans h.c3,(t.cell (AV h.c4)).trans h.c4,(t.cell (AV h.c5)).trans h.c5,h.dead.A1 t,h.CG⟩
structure I6 (w:World) (b o lo hi:Nat) (vd:Value) (s:Aa):Prop where
 c0:w.cell? ⟨b,o,none⟩=some (A0 s.id)
 c1:w.cell? ⟨b,o+1,none⟩=some (.string s.name)
 c2:w.cell? ⟨b,o+2,none⟩=some (.string s.set)
 c3:w.cell? ⟨b,o+3,none⟩=some (A0 s.A8)
 c4:w.cell? ⟨b,o+4,none⟩=some (A0 s.time)
 c5:w.cell? ⟨b,o+5,none⟩=some (A0 s.rs)
 c6:w.cell? ⟨b,o+6,none⟩=some (A0 s.rb)
 c7:w.cell? ⟨b,o+7,none⟩=some vd
 dead:BG w lo hi vd s.dn s.ds s.db
 CG:s.name.size<=maxLen/\s.set.size<=maxLen
theorem I6.A1{b o:Nat}{vd:Value}{s:Aa}(h:I6 w b o lo hi vd s)(t:Below w.heap.size w w'):I6 w' b o lo hi vd s:=
 ⟨(t.cell (AV h.c0)).trans h.c0,(t.cell (AV h.c1)).trans h.c1,(t.cell (AV h.c2)).trans h.c2,(t.cell (AV h.c3)).trans h.c3,(t.cell (AV h.c4)).trans h.c4,(t.cell (AV h.c5)).trans h.c5,(t.cell (AV h.c6)).trans h.c6,(t.cell (AV h.c7)).trans h.c7,h.dead.A1 t,h.CG⟩
def EJ(w:World)(lo hi:Nat)(v:Value)(n:Nat)(f:Nat->Ab):Prop:=
 n<=maxLen/\∃a cap,v = .slice a n cap/\n<=cap/\(0<n->∃b off,a=some ⟨b,off,none⟩/\lo<=b/\b<hi/\∀i,i<n->∃vd,I1 w b (off+i*6) lo hi vd (f i))
def EE(w:World)(lo hi:Nat)(v:Value)(n:Nat)(f:Nat->Aa):Prop:=
 n<=maxLen/\∃a cap,v = .slice a n cap/\n<=cap/\(0<n->∃b off,a=some ⟨b,off,none⟩/\lo<=b/\b<hi/\∀i,i<n->∃vd,I6 w b (off+i*8) lo hi vd (f i))
variable{v:Value}
theorem EJ.A1{f:Nat->Ab}(h:EJ w lo hi v n f)(t:Below w.heap.size w w'):EJ w' lo hi v n f:=by
 obtain⟨d,a,cap,hv,c,l⟩:=h;refine⟨d,a,cap,hv,c,fun hn=>?_⟩;obtain⟨b,off,k,e,g,j⟩:=l hn;refine⟨b,off,k,e,g,fun i hi=>?_⟩;obtain⟨vd,hs⟩:=j i hi;exact⟨vd,hs.A1 t⟩
theorem EE.A1{f:Nat->Aa}(h:EE w lo hi v n f)(t:Below w.heap.size w w'):EE w' lo hi v n f:=by
 obtain⟨d,a,cap,hv,c,l⟩:=h;refine⟨d,a,cap,hv,c,fun hn=>?_⟩;obtain⟨b,off,k,e,g,j⟩:=l hn;refine⟨b,off,k,e,g,fun i hi=>?_⟩;obtain⟨vd,hs⟩:=j i hi;exact⟨vd,hs.A1 t⟩
variable{a:Option Addr}
theorem EJ.cells{c:Nat}{f:Nat->Ab}(h:EJ w lo hi (.slice a n c) n f)(hi':i<n):∃b off vd,a=some ⟨b,off,none⟩/\I1 w b (off+i*6) lo hi vd (f i):=by
 obtain⟨l,k,cap,hv,g,j⟩:=h;simp only[Value.slice.injEq,true_and]at hv;obtain⟨rfl,rfl⟩:=hv;obtain⟨b,off,e,m,o,d⟩:=j (by omega);obtain⟨vd,hs⟩:=d i hi';exact⟨b,off,vd,e,hs⟩
theorem EE.cells{c:Nat}{f:Nat->Aa}(h:EE w lo hi (.slice a n c) n f)(hi':i<n):∃b off vd,a=some ⟨b,off,none⟩/\I6 w b (off+i*8) lo hi vd (f i):=by
 obtain⟨l,k,cap,hv,g,j⟩:=h;simp only[Value.slice.injEq,true_and]at hv;obtain⟨rfl,rfl⟩:=hv;obtain⟨b,off,e,m,o,d⟩:=j (by omega);obtain⟨vd,hs⟩:=d i hi';exact⟨b,off,vd,e,hs⟩
structure C7 (w:World) (lo hi:Nat) (v0 v1 v2 v3:Value) (W:A6):Prop where
 pool:CD w lo hi v0 v1 W.pool
 A2:EJ w lo hi v2 W.sn W.A2
 A3:EE w lo hi v3 W.pn W.A3
variable{W:A6}
theorem C7.A1{v2 v3:Value}(h:C7 w lo hi v0 v1 v2 v3 W)(t:Below w.heap.size w w'):C7 w' lo hi v0 v1 v2 v3 W:=⟨h.pool.A1 t,h.A2.A1 t,h.A3.A1 t⟩
abbrev Cc(v0 v1 v2 v3:Value)(W:A6):Value:=.agg #[v0,v1,A0 W.time,A0 W.next,v2,v3]
def BW(W:A6)(id:Int)(k:Nat):Prop:=k<W.pn/\(W.A3 k).id=id/\∀j,j<k->(W.A3 j).id≠id
def Gs(W:A6)(name:ByteArray)(k:Nat):Prop:=k<W.sn/\(W.A2 k).name=name/\∀j,j<k->(W.A2 j).name≠name
theorem BW.uniq{id:Int}{j:Nat}(h:BW W id i)(a:BW W id j):i=j:=by
 rcases Nat.lt_trichotomy i j with e | e | e
 ·exact absurd h.2.1 (a.2.2 i e)
 ·exact e
 ·exact absurd a.2.1 (h.2.2 j e)
theorem A4{P:Prop}(h:P):Hid P:=h
def Q6(n:Nat)(P:Nat->Prop)(r:Int):Prop:=(∃k:Nat,k<n/\P k/\(∀j,j<k->¬P j)/\r=k)\/((∀j,j<n->¬P j)/\r = -1)
open Go.Maps
def FZ(t:Int):Prop:=0<=t/\t<=1000000
def FU(s b:Int):Prop:=0<=s/\s<=199/\1<=b/\b<=1000000
def JD(n:Nat)(f:Nat->Int):Prop:=∀i,i<n->∀k,k<i->f k≠f i
def Cf(n:Nat)(f g:Nat->Int):Prop:=n<=200/\(∀i,i<n->FU (f i) (g i))/\JD n f
def PIn(n:Nat)(f g:Nat->Int)(x y:Int):Prop:=∃j,j<n/\f j=x/\g j=y
def F6(n:Nat)(f g:Nat->Int)(m:Nat)(f' g':Nat->Int):Prop:=Cf n f g/\Cf m f' g'/\n=m/\∀i,i<n->PIn m f' g' (f i) (g i)
variable{f:Nat->Int}
theorem JD.inj(h:JD n f)(hi:i<n)(b:k<n)(e:f i=f k):i=k:=by
 rcases Nat.lt_trichotomy i k with a | a | a
 ·exact absurd e (h k b i a)
 ·exact a
 ·exact absurd e.symm (h i hi k a)
theorem Sl:∀(n m:Nat) (h:Nat->Nat),(∀i,i<n->h i<m)->(∀i k,i<n->k<n->h i=h k->i=k)->n<=m
 | 0,_,_,_,_=>Nat.zero_le _
 | n+1,m,h,h1,h2=>by
  have f:=h1 n (Nat.lt_succ_self n);have:=Sl n (m - 1) (fun i=>if h i<h n then h i else h i - 1) (fun i hi=>by
   have:=h1 i (by omega);have:h i≠h n:=fun e=>by have:=h2 i n (by omega) (by omega) e;omega
   show(if h i<h n then h i else h i - 1)<m - 1;split<;>omega) (fun i k hi d e=>by
   have b:h i≠h n:=fun e=>by have:=h2 i n (by omega) (by omega) e;omega
   have c:h k≠h n:=fun e=>by have:=h2 k n (by omega) (by omega) e;omega
   have a:(if h i<h n then h i else h i - 1)=(if h k<h n then h k else h k - 1):=e;refine h2 i k (by omega) (by omega) ?_;split at a<;>split at a<;>omega)
  omega
variable{f' g':Nat->Int}
theorem zE4(o:Cf n f g)(p:Cf n f' g')(h:∀i,i<n->PIn n f' g' (f i) (g i)):∀j,j<n->PIn n f g (f' j) (g' j):=by
 intro j q;by_cases c:PIn n f g (f' j) (g' j)
 ·exact c
 ·exfalso;have:=Sl n (n - 1) (fun i=>if hi:i<n then(if (h i hi).choose<j then(h i hi).choose else(h i hi).choose - 1)else 0) (fun i hi=>by
   have hs:=(h i hi).choose_spec;have d:(h i hi).choose≠j:=fun e=>c ⟨i,hi,by rw[<-hs.2.1,e],by rw[<-hs.2.2,e]⟩
   simp only[hi,dif_pos];split<;>omega) (fun i k hi b e=>by
   have hs:=(h i hi).choose_spec;have a:=(h k b).choose_spec;have d:(h i hi).choose≠j:=fun e=>c ⟨i,hi,by rw[<-hs.2.1,e],by rw[<-hs.2.2,e]⟩
   have l:(h k b).choose≠j:=fun e=>c ⟨k,b,by rw[<-a.2.1,e],by rw[<-a.2.2,e]⟩
   simp only[hi,b,dif_pos]at e;have m:(h i hi).choose=(h k b).choose:=(by split at e<;>split at e<;>omega);refine o.2.2.inj hi b ?_;rw[<-hs.2.1,<-a.2.1,m])
  omega
theorem F6.symm(h:F6 n f g m f' g'):F6 m f' g' n f g:=by
 obtain⟨a,b,rfl,c⟩:=h;exact⟨b,a,rfl,zE4 a b c⟩
def Cr(x:Int):Lit:=.int .i64 x
theorem NR(h:x≠y):Cr x≠Cr y:=fun e=>h (by unfold Cr at e;injection e)
theorem QS(x:Int):WideAt.IsKeyLit (Cr x):=trivial
def Dt(x:Int):DataW Unit:=.lit (.int .i64 x)
theorem O9(h:Dt x=Dt y):x=y:=by unfold Dt at h;injection h with h;injection h
def seenD(f g:Nat->Int):Nat->DataW Unit
 | 0=>.map []
 | k+1=>(seenD f g k).put (Cr (f k)) (Dt (g k))
theorem MC(f g:Nat->Int):∀k,Tidy (seenD f g k)
 | 0=>tidy_empty
 | k+1=>(MC f g k).put (QS _) _
theorem Lt(f g:Nat->Int)(x:Int):∀k,Maps.has (seenD f g k) (Cr x)=true↔∃i,i<k/\f i=x
 | 0=>by
  constructor
  ·intro h;exact absurd h (by simp[seenD,Maps.has])
  ·rintro⟨i,hi,_⟩;omega
 | k+1=>by
  by_cases a:f k=x
  ·subst a;exact⟨fun _=>⟨k,by omega,rfl⟩,fun _=>has_put_same (MC f g k).isMap (QS _) _⟩
  ·rw[show Maps.has (seenD f g (k+1)) (Cr x)=Maps.has (seenD f g k) (Cr x)from has_put_other (NR (Ne.symm a)) _,Lt f g x k];constructor
   ·rintro⟨i,hi,e⟩;exact⟨i,by omega,e⟩
   ·rintro⟨i,hi,e⟩;by_cases h:i=k
    ·subst h;exact absurd e a
    ·exact⟨i,by omega,e⟩
theorem XN:JD (k+1) f↔JD k f/\∀i,i<k->f i≠f k:=by
 constructor
 ·exact fun h=>⟨fun i hi=>h i (by omega),fun i hi=>h k (by omega) i hi⟩
 ·rintro⟨b,c⟩ i hi j a;by_cases e:i=k
  ·subst e;exact c j a
  ·exact b i (by omega) j a
theorem Qq(f g:Nat->Int):∀k,Maps.size (seenD f g k)<=k/\(Maps.size (seenD f g k)=k↔JD k f)
 | 0=>⟨Nat.le_refl _,fun _ i hi=>by omega,fun _=>rfl⟩
 | k+1=>by
  obtain⟨d,c⟩:=Qq f g k;have e:Maps.size (seenD f g (k+1))=if Maps.has (seenD f g k) (Cr (f k))then Maps.size (seenD f g k)else Maps.size (seenD f g k)+1:=size_put (MC f g k) _
  by_cases a:Maps.has (seenD f g k) (Cr (f k))=true
  ·rw[if_pos a]at e;rw[e,XN];refine⟨by omega,fun h=>by omega,fun h=>?_⟩;obtain⟨i,hi,b⟩:=(Lt f g (f k) k).1 a;exact absurd b (h.2 i hi)
  ·rw[if_neg a]at e;rw[e,XN,<-c];refine⟨by omega,fun h=>⟨by omega,fun i hi b=>a ((Lt f g (f k) k).2 ⟨i,hi,b⟩)⟩,fun h=>by omega⟩
theorem SU{n:Nat}{f:Nat->Int}(g:Nat->Int)(a:JD n f)(z:DataW Unit):∀k,k<=n->∀i,i<k->(seenD f g k).atKey (Cr (f i)) z=Dt (g i)
 | 0,_,i,hi=>absurd hi (Nat.not_lt_zero _)
 | k+1,hk,i,hi=>by
  by_cases e:i=k
  ·subst e;exact atKey_put_same (MC f g i).isMap (QS _) _ _
  ·exact(atKey_put_other (NR (fun h=>e (a.inj (by omega) (by omega) h))) _ _).trans (SU g a z k (by omega) i (by omega))
structure F4 (n:Nat) (f g f':Nat->Int) (k:Nat) (D:DataW Unit):Prop where
 tidy:Tidy D
 size:Maps.size D+k=n
 at':∀x,(∀j,j<k->f' j≠x)->(∀i,i<n->f i=x->D.atKey (Cr x) (Dt 0)=Dt (g i))/\((∀i,i<n->f i≠x)->D.atKey (Cr x) (Dt 0)=Dt 0)
 has:∀x,Maps.has D (Cr x)=true↔(∃i,i<n/\f i=x)/\∀j,j<k->f' j≠x
theorem F4.start(h:Cf n f g)(f':Nat->Int):F4 n f g f' 0 (seenD f g n) where
 tidy:=MC f g n
 size:=by rw[(Qq f g n).2.2 h.2.2];rfl
 at':=fun x _=>⟨fun i hi e=>by subst e;exact SU g h.2.2 _ n (Nat.le_refl _) i hi,fun a=>by
  refine atKey_of_not_has ?_ _;rw[Bool.eq_false_iff];intro b;obtain⟨i,hi,e⟩:=(Lt f g x n).1 b;exact a i hi e⟩
 has:=fun x=>by
  rw[Lt];exact⟨fun h=>⟨h,fun j c=>absurd c (Nat.not_lt_zero _)⟩,fun h=>h.1⟩
variable{D:DataW Unit}
theorem F4.next(h:F4 n f g f' k D)(o:Cf m f' g')(p:k<m)(e:D.atKey (Cr (f' k)) (Dt 0)=Dt (g' k)):F4 n f g f' (k+1) (D.del (Cr (f' k))):=by
 have b:Maps.has D (Cr (f' k))=true:=by
  by_cases c:Maps.has D (Cr (f' k))=true
  ·exact c
  ·rw[atKey_of_not_has (by simpa using c)]at e;have:=O9 e;have:=(o.2.1 k p).2.2.1;omega
 have hs:=size_del (k:=Cr (f' k)) h.tidy;rw[b]at hs;refine⟨h.tidy.del _,?_,fun x i=>?_,fun x=>?_⟩
 ·have:=h.size;have q:Maps.size (D.del (Cr (f' k)))+1=Maps.size D:=hs;omega
 ·have a:f' k≠x:=i k (by omega);rw[atKey_del_other (NR (Ne.symm a))];exact h.at' x (fun j d=>i j (by omega))
 ·by_cases a:f' k=x
  ·subst a;rw[has_del_same];exact⟨fun h=>absurd h (by simp),fun h=>absurd rfl (h.2 k (by omega))⟩
  ·rw[has_del_other (NR (Ne.symm a)),h.has x];refine and_congr_right fun _=>⟨fun h j d=>?_,fun h j d=>h j (by omega)⟩
   by_cases l:j=k
   ·subst l;exact a
   ·exact h j (by omega)
theorem F4.no(h:F4 n f g f' k D)(q:Cf n f g)(l:Cf m f' g')(a:k<m){c:Int}(e:D.atKey (Cr (f' k)) (Dt 0)=Dt c)(o:c≠g' k):¬F6 n f g m f' g':=by
 intro hs;obtain⟨i,hi,b,d⟩:=hs.symm.2.2.2 k a;have:=(h.at' (f' k) (fun j p=>l.2.2 k a j p)).1 i hi b;rw[e]at this;exact o ((O9 this).trans d)
theorem F4.end(h:F4 n f g f' m D)(b:Cf n f g)(c:Cf m f' g')(a:∀j,j<m->PIn n f g (f' j) (g' j)):Maps.size D=0↔F6 n f g m f' g':=by
 have hs:=h.size;constructor
 ·intro e;obtain rfl:m=n:=(by omega);exact F6.symm ⟨c,b,rfl,a⟩
 ·intro d;have:=d.2.2.1;omega
theorem F4.in(h:F4 n f g f' k D)(a:Cf m f' g')(c:k<m)(e:D.atKey (Cr (f' k)) (Dt 0)=Dt (g' k)):PIn n f g (f' k) (g' k):=by
 by_cases d:∃i,i<n/\f i=f' k
 ·obtain⟨i,hi,ei⟩:=d;have:=(h.at' (f' k) (fun j b=>a.2.2 k c j b)).1 i hi ei;rw[e]at this;exact⟨i,hi,ei,(O9 this).symm⟩
 ·have:=(h.at' (f' k) (fun j b=>a.2.2 k c j b)).2 (fun i hi e=>d ⟨i,hi,e⟩);rw[e]at this;have:=O9 this;have:=(a.2.1 k c).2.2.1;omega
def Bl(f g:Nat->Int)(t:Int):Nat->List (Int×Int)
 | 0=>[]
 | k+1=>if t<g k then Bl f g t k ++ [(f k,g k)] else Bl f g t k
def C6(f g:Nat->Int)(t:Int):Nat->List (Int×Int)
 | 0=>[]
 | k+1=>if t<g k then C6 f g t k else C6 f g t k ++ [(f k,g k)]
theorem Kq(f g:Nat->Int)(t:Int):∀k,(Bl f g t k).length+(C6 f g t k).length=k
 | 0=>rfl
 | k+1=>by
  have:=Kq f g t k;unfold Bl C6;split<;>simp<;>omega
theorem Ac{P:Prop}(h:P):Hid P:=h
theorem BG.cellsD{c:Nat}(h:BG w lo hi (.slice a n c) n f g)(e:k<n):∃b off,a=some ⟨b,off,none⟩/\w.cell? ⟨b,off+k*2,none⟩=some (A0 (f k))/\w.cell? ⟨b,off+k*2+1,none⟩=some (A0 (g k)):=by
 obtain⟨_,l,m,hv,_,j⟩:=h;simp only[Value.slice.injEq,true_and]at hv;obtain⟨rfl,rfl⟩:=hv;obtain⟨b,off,i,_,_,d⟩:=j (by omega);exact⟨b,off,i,(d k e).1,(d k e).2⟩
theorem zC4(x y:Int)(w:World):Calls Tryz.prog 194 #[.agg #[A0 x,A0 y]] w fun e w'=>AJ (FU x y) e/\Below w.heap.size w w':=by
 have a:=AB w (.cells #[A0 x,A0 y] 38);by_cases f:0<=x
 ·by_cases i:x<200
  ·by_cases b:DS y
   ·have H:=Ac (show FU x y from⟨f,by omega,b.1,b.2⟩);have d:=Ac b;clear b;go_enter Tryz.func194,Tryz.ntmps194;go_wp2_with (first | (go_at_call 136;refine(FJ y _).mono ?_;rintro e g ⟨⟨t,rfl,c⟩,rfl⟩;obtain rfl:t=true:=c.2 d.out;clear c) | fail);go_wp2;go_ret;exact⟨AJ.yes H.out,a⟩
   ·have H:=Ac (show ¬FU x y from fun h=>b ⟨h.2.2.1,h.2.2.2⟩);have d:=Ac b;clear b;go_enter Tryz.func194,Tryz.ntmps194;go_wp2_with (first | (go_at_call 136;refine(FJ y _).mono ?_;rintro e g ⟨⟨t,rfl,c⟩,rfl⟩;obtain rfl:t=false:=BQ c d.out;clear c) | fail);go_wp2;go_ret;exact⟨AJ.no H.out,a⟩
  ·go_enter Tryz.func194,Tryz.ntmps194;go_wp2;go_ret;exact⟨AJ.no fun h=>by have:=h.2.1;omega,a⟩
 ·go_enter Tryz.func194,Tryz.ntmps194;go_wp2;go_ret;exact⟨AJ.no fun h=>by have:=h.1;omega,a⟩
theorem SH:Keyed Tryz.prog 2:=int_keyed (q:=.i64) (by kernel_rfl)
theorem MV:Tryz.prog.underlying 231=some (.map 2 2):=by kernel_rfl
theorem PA:Tryz.prog.underlying 2=some (.int .i64):=by kernel_rfl
theorem zJI(w:World):(zeroValue 2).run Tryz.prog w = .ok (A0 0) w:=by kernel_rfl
theorem QH(a:0<=x)(b:x<=1000000):(Lit.int .i64 x).wf=true:=WalkArith.wf_i64 (by omega)
def Rv(w:World)(B n:Nat)(D:DataW Unit):Prop:=w.ownsMap Tryz.prog 2 (plainElem Tryz.prog 2) B n D
theorem Z5(v:Value)(n lo hi:Nat)(f g:Nat->Int)(w:World)(z:BG w lo hi v n f g)(hn:n<=200)(t:∀i,i<n->FU (f i) (g i)) :
 Calls Tryz.prog 193 #[v] w fun e w'=>e = .returned (.map (some w.heap.size))/\Rv w' w.heap.size n (seenD f g n)/\Below w.heap.size w w':=by
 have B:=Ac z;have h:=Ac t;obtain⟨F,a,c,rfl,G,_⟩:=id z;clear z t;have D:=@run_makeMap Tryz.prog;go_enter Tryz.func193,Tryz.ntmps193;go_wp2
 go_loopw [9] (fun i wr=>∃k:Nat,k<=n/\i=A0 k/\Rv wr w.heap.size k (seenD f g k)/\Below w.heap.size w wr) (fun i _=>n - (intOf i).toNat)
 case atStart=>exact⟨0,Nat.zero_le _,rfl,World.ownsMap_made _ _ _ _,(Below.refl _ _).alloc (Nat.le_refl _) _⟩
 case round=>
  obtain⟨k,E,rfl,p,s⟩:=hrel;have m:=Ac p;clear p;by_cases d:k<n
  ·have A:(k:Int)<(n:Int):=(by omega);obtain⟨b,off,rfl,H,q1⟩:=(B.out.A1 s).cellsD d;have o:keyOf Tryz.prog 2 (A0 (f k))=some (Cr (f k)):=keyOf_int_mk PA (QH (h.out k d).1 (by have:=(h.out k d).2.1;omega));have u:=QH (x:=g k) (by have:=(h.out k d).2.2.1;omega) (h.out k d).2.2.2;have r:=Ac o;have y:=Ac u;clear o u;go_wp2_with (first
    | (at_mapUpdate;refine wpList_mapUpdate_own _ rfl _ _ _ 231 rfl 2 2 SH MV _ w.heap.size k _ rfl (m.out.alloc _) (by unfold maxLen;omega) _ _ _ rfl rfl r.out _ [] (plainElem_int PA y.out) ?_;intro I q l)
    | go_in)
   go_roundw
   case rel=>exact⟨k+1,by omega,by go_num,q,(s.alloc s.size _).grown l (by rw[World.size_alloc];have:=s.size;omega) (fun j C=>by cases C;exact Nat.le_refl _)⟩
   case measure=>simp[intOf];omega
  ·obtain rfl:k=n:=(by omega);go_wp2;go_ret;exact⟨rfl,m.out,s⟩
theorem J9(v:Value)(n lo hi:Nat)(f g:Nat->Int)(w:World)(A:BG w lo hi v n f g) :
 Calls Tryz.prog 176 #[v] w fun e w'=>AJ (Cf n f g) e/\Below w.heap.size w w':=by
 have D:=Ac A;obtain⟨L,a,c,rfl,P,_⟩:=id A;clear A;unfold maxLen at L;by_cases hn:n<=200
 ·have B:¬(200:Int)<(n:Int):=(by omega);go_enter Tryz.func176,Tryz.ntmps176;go_wp2
  go_loopw [10] (fun i wr=>∃k:Nat,k<=n/\i=A0 k/\(∀i,i<k->FU (f i) (g i))/\Below w.heap.size w wr) (fun i _=>n - (intOf i).toNat)
  case atStart=>exact⟨0,Nat.zero_le _,rfl,fun j J=>absurd J (Nat.not_lt_zero _),Below.refl _ _⟩
  case round=>
   obtain⟨k,O,rfl,p,u⟩:=hrel;have l:=Ac p;clear p;by_cases q:k<n
   ·have E:(k:Int)<(n:Int):=(by omega);obtain⟨b,off,rfl,M,q1⟩:=(D.out.A1 u).cellsD q;have r:=A9 u (AB wr (.cells #[A0 (f k),A0 (g k)] 38));go_wp2_with fail;refine(zC4 (f k) (g k) _).mono ?_;rintro e N ⟨⟨t,rfl,x⟩,m⟩;have o:=A9 r m;clear m r M q1;by_cases d:FU (f k) (g k)
    ·have y:=Ac d;obtain rfl:t=true:=x.2 d;clear x d;go_wp2;go_roundw
     case rel=>exact⟨k+1,by omega,by go_num,Br q l.out y.out,o⟩
     case measure=>simp[intOf];omega
    ·have y:=Ac d;obtain rfl:t=false:=BQ x d;clear x d;go_wp2;go_ret;exact⟨AJ.no fun h=>y.out (h.2.1 k q),o⟩
   ·obtain rfl:k=n:=(by omega);go_wp2_with fail;refine(Z5 _ k lo hi f g _ (D.out.A1 u) hn l.out).mono ?_;rintro e N ⟨rfl,F,m⟩;have o:=A9 u m;have H:=Ac F;have C:=Qq f g k;clear F m;obtain⟨K,s⟩:=C;have z:=Ac s;clear s;go_wp2_with (first
     | (at_len;refine wpList_len_own _ rfl _ 231 rfl 2 2 MV _ wr.heap.size k _ rfl H.out ?_)
     | go_in)
    go_ret;refine⟨⟨_,rfl,?_⟩,o⟩;have I:=z.out;have G:=l.out;simp only[beq_iff_eq,Int.natCast_inj];exact I.trans ⟨fun h=>⟨hn,G,h⟩,fun h=>h.2.2⟩
 ·have B:(200:Int)<(n:Int):=(by omega);go_enter Tryz.func176,Tryz.ntmps176;go_wp2;go_ret;exact⟨AJ.no fun h=>hn h.1,Below.refl _ _⟩
def Jb(n a b:Int):Prop:=a<=n/\n<=b
structure Cq where
 A8:Int
 time:Int
 rs:Int
 rb:Int
 dn:Nat
 ds:Nat->Int
 db:Nat->Int
def MW(s:Aa):Cq:=⟨s.A8,s.time,s.rs,s.rb,s.dn,s.ds,s.db⟩
def L4(t:Int)(s:Ab):Cq:=⟨s.A8,t,s.rs,s.rb,s.dn,s.ds,s.db⟩
def AA(W:A6)(i:Nat):Cq:=if i<W.pn then MW (W.A3 i)else L4 W.time (W.A2 (i - W.pn))
def memN(W:A6):Nat:=W.pn+W.sn
theorem CH(h:i<W.pn):AA W i=MW (W.A3 i):=if_pos h
theorem C4(W:A6)(i:Nat):AA W (W.pn+i)=L4 W.time (W.A2 i):=by
 unfold AA;rw[if_neg (by omega),show W.pn+i - W.pn=i by omega]
def DL:Aa:=⟨0,ByteArray.empty,ByteArray.empty,0,0,0,0,0,fun _=>0,fun _=>0⟩
open Classical in
def AI(W:A6)(x:Int):Aa:=if h:∃k,BW W x k then W.A3 h.choose else DL
theorem DW(h:BW W x k):AI W x=W.A3 k:=by
 unfold AI;rw[dif_pos ⟨k,h⟩,BW.uniq (Exists.choose_spec (⟨k,h⟩:∃k,BW W x k)) h]
theorem RB(h:∀k,k<W.pn->(W.A3 k).id≠x):AI W x=DL:=by
 unfold AI;rw[dif_neg];rintro⟨k,a⟩;exact h k a.1 a.2.1
theorem Qs{W:A6}{x:Int}:∀{n:Nat},n<=W.pn->(∃k,k<n/\(W.A3 k).id=x)->∃k,BW W x k
 | 0,_,⟨k,hk,_⟩=>absurd hk (Nat.not_lt_zero _)
 | n+1,hn,⟨k,hk,e⟩=>by
  by_cases h:∃j,j<n/\(W.A3 j).id=x
  ·exact Qs (by omega) h
  ·have:k=n:=by
    by_cases a:k<n
    ·exact absurd ⟨k,a,e⟩ h
    ·omega
   subst this;exact⟨k,by omega,e,fun j c b=>h ⟨j,c,b⟩⟩
def treeM(W:A6)(m:Cq):List (Int×Int):=AG W.pool m.rs m.rb
def oldM(W:A6)(m:Cq):List (Int×Int):=AG W.pool (AI W m.A8).rs (AI W m.A8).rb
def BR(l m:List (Int×Int)):List (Int×Int):=l.filter (fun x=>decide (x∉m))
def Ct(l m:List (Int×Int)):List (Int×Int):=l.filter (fun x=>decide (x∈m))
def EA(l:List (Int×Int))(t:Int):List (Int×Int):=l.filter (fun x=>decide (t<x.2))
def CB(W:A6)(m:Cq):List (Int×Int):=BR (treeM W m) (oldM W m)
def Cg(W:A6)(m:Cq):List (Int×Int):=EA (treeM W m) (AI W m.A8).time
def E6(n:Nat)(f g:Nat->Int)(l:List (Int×Int)):Prop:=F6 n f g l.length (AN l) (AP l)
def F3(now old:List (Int×Int))(t tm:Int):Prop:=∀x,x∈now->x.2<=tm/\(x∈old↔x.2<=t)
def K7(W:A6)(m:Cq):Prop:=E6 m.dn m.ds m.db (BR (oldM W m) (treeM W m))/\F3 (treeM W m) (oldM W m) (AI W m.A8).time m.time
def qU(W:A6)(m:Cq):Prop:=m.rb<=m.time/\E6 (Cg W m).length (AN (Cg W m)) (AP (Cg W m)) (CB W m)/\E6 m.dn m.ds m.db (BR (oldM W m) (Ct (treeM W m) (oldM W m)))
theorem zM(l m:List (Int×Int)):BR m (Ct l m)=BR m l:=by
 unfold BR Ct;refine List.filter_congr fun x b=>?_
 rw[decide_eq_decide];simp only[List.mem_filter,decide_eq_true_eq];exact⟨fun h a=>h ⟨a,b⟩,fun h a=>h a.1⟩
variable{l:List (Int×Int)}
theorem D6(h:i<l.length):l.getD i (0,0)=l[i]:=by
 rw[List.getD_eq_getElem?_getD,List.getElem?_eq_getElem h,Option.getD_some]
theorem Hu:PIn l.length (AN l) (AP l) x y↔(x,y)∈l:=by
 constructor
 ·rintro⟨j,a,b,c⟩;unfold AN at b;unfold AP at c;rw[D6 a]at b c;have:l[j]=(x,y):=Prod.ext b c;exact this▸List.getElem_mem a
 ·intro h;obtain⟨j,a,e⟩:=List.getElem_of_mem h;exact⟨j,a,by unfold AN;rw[D6 a,e],by unfold AP;rw[D6 a,e]⟩
structure EV (W:A6):Prop where
 right:AZ W.pool
 ids:∀k,k<W.pn->(W.A3 k).A8<(W.A3 k).id
 tree:∀i,i<memN W->B3 W.pool (AA W i).rs (AA W i).rb
 time:∀i,i<memN W->0<=(AA W i).time
theorem ED{rs rb:Int}(b:AZ p)(e:B3 p rs rb){x:Int×Int}(a:x∈AG p rs rb):B8 p x.1 x.2/\x.2<=rb/\¬Has p.hn p.h x.1:=by
 rcases(Nu b).2 e with f | ⟨d,_,c⟩
 ·rw[AG,if_pos f]at a;simp at a
 ·have:=MN b d x a;exact⟨this.1,this.2,c.2 x a⟩
theorem L0{rs rb:Int}(b:AZ p)(c:B3 p rs rb):(AG p rs rb).Nodup:=by
 rcases(Nu b).2 c with d | ⟨e,_,a⟩
 ·rw[AG,if_pos d];exact List.nodup_nil
 ·exact a.1
theorem zDs(e:AZ p)(h:B8 p x y):FU x y:=by
 have f:=Ey e h;have g:=e.1;obtain⟨a,b,c,d⟩:=h;have:=f.1.2;exact⟨b,by omega,a,by omega⟩
theorem Ky(a:AZ p)(h:∀x,x∈l->B8 p x.1 x.2)(hn:l.Nodup)(c:l.length<=200):Cf l.length (AN l) (AP l):=by
 have hs:=(Qi h).2 hn;refine⟨c,fun i hi=>?_,fun i hi k b=>?_⟩
 ·unfold AN AP;rw[D6 hi];exact zDs a (h _ (List.getElem_mem hi))
 ·unfold AN;rw[D6 hi,D6 (show k<l.length by omega)];unfold Bk List.Nodup at hs;rw[List.pairwise_map]at hs;exact List.pairwise_iff_getElem.1 hs k i (by omega) hi b
theorem zC3(n:AZ p){T:List (Int×Int)}(o:∀x,x∈T->B8 p x.1 x.2)(hn:T.Nodup)(q:T.length<=200)(P Q:Int×Int->Bool) :
 E6 (T.filter P).length (AN (T.filter P)) (AP (T.filter P)) (T.filter Q)↔∀x,x∈T->P x=Q x:=by
 constructor
 ·rintro⟨_,_,b,f⟩;have g:∀x,x∈T->P x=true->Q x=true:=fun x a d=>by
   have r:x∈T.filter P:=List.mem_filter.2 ⟨a,d⟩;obtain⟨j,l,e⟩:=List.getElem_of_mem r;have:=f j l;rw[Hu]at this;unfold AN AP at this;rw[D6 l,e]at this;exact(List.mem_filter.1 this).2
  have m:(T.filter Q).filter P=T.filter P:=by
   rw[List.filter_filter];refine List.filter_congr fun x a=>?_
   cases d:P x
   ·rfl
   ·rw[g x a d];rfl
  have k:((T.filter Q).filter P).length=(T.filter Q).length:=(by rw[m,b]);rw[List.length_filter_eq_length_iff]at k;intro x a;cases hq:Q x
  ·cases d:P x
   ·rfl
   ·rw[g x a d]at hq;exact absurd hq (by simp)
  ·exact k x (List.mem_filter.2 ⟨a,hq⟩)
 ·intro h;have e:T.filter P=T.filter Q:=List.filter_congr h;rw[e];have c:Cf (T.filter Q).length (AN (T.filter Q)) (AP (T.filter Q)):=Ky n (fun x a=>o x (List.mem_filter.1 a).1) (hn.filter _) (Nat.le_trans (List.length_filter_le _ _) q);exact⟨c,c,rfl,fun i hi=>⟨i,hi,rfl,rfl⟩⟩
theorem Xw(h:EV W)(hi:i<memN W):qU W (AA W i)↔K7 W (AA W i):=by
 generalize q:AA W i=m;have j:=h.tree i hi;have f:=h.time i hi;rw[q]at j f;have d:(treeM W m).length<=200:=by have:=Dh W.pool m.rs m.rb;unfold treeM;omega
 have l:∀x,x∈treeM W m->B8 W.pool x.1 x.2:=fun x b=>(ED h.right j b).1
 unfold qU K7;rw[zM];have key:E6 (Cg W m).length (AN (Cg W m)) (AP (Cg W m)) (CB W m)↔∀x,x∈treeM W m->(x∈oldM W m↔x.2<=(AI W m.A8).time):=by
  unfold Cg CB EA BR;rw[zC3 h.right l (L0 h.right j) d];refine⟨fun k x b=>?_,fun k x b=>?_⟩
  ·have:=k x b;rw[decide_eq_decide]at this;constructor
   ·intro a;by_cases e:(AI W m.A8).time<x.2
    ·exact absurd a (this.1 e)
    ·omega
   ·intro c;by_cases a:x∈oldM W m
    ·exact a
    ·have:=this.2 a;omega
  ·rw[decide_eq_decide];have:=k x b;constructor
   ·intro e a;have:=this.1 a;omega
   ·intro a;by_cases c:x.2<=(AI W m.A8).time
    ·exact absurd (this.2 c) a
    ·omega
 rw[key];constructor
 ·rintro⟨n,g,p⟩;exact⟨p,fun x b=>⟨by have:=(ED h.right j b).2.1;omega,g x b⟩⟩
 ·rintro⟨n,g⟩;refine⟨?_,fun x b=>(g x b).2,n⟩;by_cases o:Nil m.rs m.rb
  ·rw[o.2];exact f
  ·have r:(m.rs,m.rb)∈treeM W m:=(by unfold treeM AG;rw[if_neg o];simp);exact(g _ r).1
theorem zEP{m:Cq}(c:K7 W m):Cg W m=CB W m:=by
 unfold Cg CB EA BR;refine List.filter_congr fun x d=>?_
 rw[decide_eq_decide];have:=(c.2 x d).2;constructor
 ·intro b a;have:=this.1 a;omega
 ·intro b;by_cases a:x.2<=(AI W m.A8).time
  ·exact absurd (this.2 a) b
  ·omega
open Classical in
def cnt(P:Nat->Prop):Nat->Nat
 | 0=>0
 | k+1=>cnt P k+(if P k then 1 else 0)
theorem Ki{P Q:Nat->Prop}:∀{n:Nat},(∀i,i<n->(P i↔Q i))->cnt P n=cnt Q n
 | 0,_=>rfl
 | n+1,h=>by
  unfold cnt;rw[Ki (fun i hi=>h i (by omega))];by_cases a:P n
  ·rw[if_pos a,if_pos ((h n (by omega)).1 a)]
  ·rw[if_neg a,if_neg (fun b=>a ((h n (by omega)).2 b))]
theorem Zd{P Q:Nat->Prop}:∀{n:Nat},(∀i,i<n->P i->Q i)->cnt P n<=cnt Q n
 | 0,_=>Nat.le_refl _
 | n+1,h=>by
  unfold cnt;have:=Zd (n:=n) (fun i hi=>h i (by omega));by_cases a:P n
  ·rw[if_pos a,if_pos (h n (by omega) a)];omega
  ·rw[if_neg a];omega
theorem Xz{P Q:Nat->Prop}:∀{n:Nat},(∀i,i<n->P i->Q i)->(cnt P n=cnt Q n↔∀i,i<n->(P i↔Q i))
 | 0,_=>⟨fun _ i hi=>absurd hi (Nat.not_lt_zero _),fun _=>rfl⟩
 | n+1,h=>by
  refine⟨fun e=>?_,fun e=>Ki e⟩;have f:=Zd (n:=n) (fun i hi=>h i (by omega));have g:=Xz (n:=n) (fun i hi=>h i (by omega));unfold cnt at e;have hn:P n↔Q n:=by
   refine⟨h n (by omega),fun b=>?_⟩;by_cases a:P n
   ·exact a
   ·rw[if_neg a,if_pos b]at e;omega
  have c:cnt P n=cnt Q n:=by
   by_cases a:P n
   ·rw[if_pos a,if_pos (hn.1 a)]at e;omega
   ·rw[if_neg a,if_neg (fun b=>a (hn.2 b))]at e;omega
  intro i hi;by_cases d:i=n
  ·subst d;exact hn
  ·exact g.1 c i (by omega)
theorem PK{P Q:Nat->Prop}:∀{n:Nat},(∀i,i<n->P i->¬Q i)->cnt (fun i=>P i\/Q i) n=cnt P n+cnt Q n
 | 0,_=>rfl
 | n+1,h=>by
  unfold cnt;rw[PK (fun i hi=>h i (by omega))];by_cases a:P n
  ·rw[if_pos (Or.inl a),if_pos a,if_neg (h n (by omega) a)];omega
  ·by_cases b:Q n
   ·rw[if_pos (Or.inr b),if_neg a,if_pos b];omega
   ·rw[if_neg (fun h=>h.elim a b),if_neg a,if_neg b];omega
theorem Tu(P:Nat->Prop):∀n,cnt P n+cnt (fun i=>¬P i) n=n
 | 0=>rfl
 | n+1=>by
  have:=Tu P n;unfold cnt;by_cases a:P n
  ·rw[if_pos a,if_neg (fun h=>h a)];omega
  ·rw[if_neg a,if_pos a];omega
theorem QM{P:Nat->Prop}:∀{n:Nat},(∀i,i<n->¬P i)->cnt P n=0
 | 0,_=>rfl
 | n+1,h=>by
  unfold cnt;rw[QM (fun i hi=>h i (by omega)),if_neg (h n (by omega))]
theorem Tv:∀{n a:Nat},a<n->cnt (fun i=>i=a) n=1
 | 0,a,h=>absurd h (Nat.not_lt_zero _)
 | n+1,a,h=>by
  unfold cnt;by_cases e:n=a
  ·subst e;rw[if_pos rfl,QM (fun i hi=>by omega)]
  ·rw[if_neg e,Tv (by omega)]
theorem O7{n:Nat}:∀{l:List Nat},l.Nodup->(∀x,x∈l->x<n)->cnt (fun i=>i∈l) n=l.length
 | [],_,_=>QM (fun i hi=>by simp)
 | a :: l,hn,hl=>by
  obtain⟨d,f⟩:=List.nodup_cons.1 hn;have b:cnt (fun i=>i∈a :: l) n=cnt (fun i=>i=a\/i∈l) n:=Ki (fun i _=>List.mem_cons);have c:cnt (fun i=>i=a\/i∈l) n=cnt (fun i=>i=a) n+cnt (fun i=>i∈l) n:=PK (fun i _ (e:i=a) hi=>d (e▸hi));rw[b,c,Tv (hl a (by simp)),O7 f (fun x g=>hl x (by simp[g])),List.length_cons];omega
theorem V2(f:Nat->AH):∀n,roomN f n=cnt (fun i=>Ah (f i)) n
 | 0=>rfl
 | n+1=>by unfold roomN cnt;rw[V2 f n]
theorem zEb(l:AZ p):cnt (fun i=>Has p.hn p.h i) p.n=p.hn:=by
 have h:=l.2.2;have q:∀x,x∈(List.range p.hn).map (fun j=>(p.h j).toNat)->x<p.n:=by
  intro x g;obtain⟨j,c,rfl⟩:=List.mem_map.1 g;have:=h j (List.mem_range.1 c);have k:=this.1;have d:=this.2.1;omega
 have hn:((List.range p.hn).map (fun j=>(p.h j).toNat)).Nodup:=by
  unfold List.Nodup;rw[List.pairwise_map];refine List.Pairwise.imp_of_mem ?_ (List.pairwise_lt_range);intro a b m o f e;have k:=h a (List.mem_range.1 m);have d:=h b (List.mem_range.1 o);have:=k.1;have:=d.1;exact d.2.2.2 ⟨a,f,by omega⟩
 have:=O7 hn q;rw[List.length_map,List.length_range]at this;refine Eq.trans (Ki (fun i hi=>?_)) this;constructor
 ·rintro⟨j,c,e⟩;exact List.mem_map.2 ⟨j,List.mem_range.2 c,by rw[e];simp⟩
 ·intro g;obtain⟨j,c,e⟩:=List.mem_map.1 g;have:=(h j (List.mem_range.1 c)).1;exact⟨j,List.mem_range.1 c,by omega⟩
theorem VI(a:AZ p):cnt (fun i=>¬Ah (p.s i)/\¬Has p.hn p.h i) p.n+roomN p.s p.n+p.hn=p.n:=by
 have f:=Tu (fun i=>Ah (p.s i)\/Has p.hn p.h i) p.n;have b:cnt (fun i=>Ah (p.s i)\/Has p.hn p.h i) p.n=cnt (fun i=>Ah (p.s i)) p.n+cnt (fun i=>Has p.hn p.h i) p.n:=PK (fun i hi c=>by
  rintro⟨j,d,e⟩;have:=(a.2.2 j d).2.2.1;rw[e]at this;simp only[Int.toNat_natCast]at this;exact this c)
 rw[zEb a,<-V2]at b;have g:cnt (fun i=>¬(Ah (p.s i)\/Has p.hn p.h i)) p.n=cnt (fun i=>¬Ah (p.s i)/\¬Has p.hn p.h i) p.n:=Ki (fun i _=>not_or);omega
def Q9(W:A6):Prop:=∀i,i<W.pool.n->((∃m,m<memN W/\∃b,((i:Int),b)∈treeM W (AA W m))↔(¬Ah (W.pool.s i)/\¬Has W.pool.hn W.pool.h i))
def Ic(W:A6):Prop:=∀i,i<memN W->∀j,j<i->∀x,x∈CB W (AA W i)->∀y,y∈CB W (AA W j)->x.1≠y.1
def B7(W:A6):Nat->List (Int×Int)
 | 0=>[]
 | k+1=>B7 W k ++ Cg W (AA W k)
def Lh(W:A6):Prop:=(B7 W (memN W)).Nodup/\(B7 W (memN W)).length+roomN W.pool.s W.pool.n+W.pool.hn=W.pool.n
theorem M7{W:A6}{x:Int×Int}:∀{k:Nat},x∈B7 W k↔∃i,i<k/\x∈Cg W (AA W i)
 | 0=>by simp[B7]
 | k+1=>by
  unfold B7;rw[List.mem_append,M7];constructor
  ·rintro(⟨i,hi,h⟩ | h)
   ·exact⟨i,by omega,h⟩
   ·exact⟨k,by omega,h⟩
  ·rintro⟨i,hi,h⟩;by_cases e:i=k
   ·subst e;exact Or.inr h
   ·exact Or.inl ⟨i,by omega,h⟩
theorem Yk{W:A6}:∀{k:Nat},(∀i,i<k->(Cg W (AA W i)).Nodup)->((B7 W k).Nodup↔∀i,i<k->∀j,j<i->∀x,x∈Cg W (AA W i)->x∉Cg W (AA W j))
 | 0,_=>⟨fun _ i hi=>absurd hi (Nat.not_lt_zero _),fun _=>List.nodup_nil⟩
 | k+1,hy=>by
  unfold B7;rw[List.nodup_append,Yk (fun i hi=>hy i (by omega))];constructor
  ·rintro⟨f,l,g⟩ i hi j d x a b;by_cases e:i=k
   ·subst e;exact g x (M7.2 ⟨j,d,b⟩) x a rfl
   ·exact f i (by omega) j d x a b
  ·intro h;refine⟨fun i hi=>h i (by omega),hy k (by omega),fun x a y c e=>?_⟩;subst e;obtain⟨i,hi,a⟩:=M7.1 a;exact h k (by omega) i hi x c a
theorem Uc{W:A6}(h:EV W){x:Int×Int}:∀(N:Nat) (k:Nat),k<W.pn->(W.A3 k).id<N->0<=(W.A3 k).id->(∀j,j<W.pn->0<=(W.A3 j).id)->x∈treeM W (AA W k)->∃i,i<memN W/\x∈CB W (AA W i)
 | 0,k,hk,h1,h2,_,_=>by omega
 | N+1,k,hk,h1,h2,h0,hx=>by
  by_cases a:x∈oldM W (AA W k)
  ·have c:∃j,BW W (AA W k).A8 j:=by
    refine Classical.byContradiction fun d=>?_
    have:AI W (AA W k).A8=DL:=(by unfold AI;rw[dif_neg d]);unfold oldM at a;rw[this,AG,if_pos ⟨rfl,rfl⟩]at a;simp at a
   obtain⟨j,b⟩:=c;unfold oldM at a;rw[DW b]at a;have e:(AA W k).A8=(W.A3 k).A8:=(by rw[CH hk];rfl);have:=h.ids k hk;have:=b.2.1;exact Uc h N j b.1 (by omega) (h0 j b.1) h0 (by rw[CH b.1];exact a)
  ·exact⟨k,by unfold memN;omega,List.mem_filter.2 ⟨hx,by simpa using a⟩⟩
theorem zEq(h:EV W)(c:∀j,j<W.pn->0<=(W.A3 j).id){x:Int×Int}(f:m<memN W)(g:x∈treeM W (AA W m)):∃i,i<memN W/\x∈CB W (AA W i):=by
 by_cases a:x∈oldM W (AA W m)
 ·have d:∃j,BW W (AA W m).A8 j:=by
   refine Classical.byContradiction fun e=>?_
   have:AI W (AA W m).A8=DL:=(by unfold AI;rw[dif_neg e]);unfold oldM at a;rw[this,AG,if_pos ⟨rfl,rfl⟩]at a;simp at a
  obtain⟨j,b⟩:=d;unfold oldM at a;rw[DW b]at a;have:=c j b.1;exact Uc h ((W.A3 j).id.toNat+1) j b.1 (by omega) (c j b.1) c (by rw[CH b.1];exact a)
 ·exact⟨m,f,List.mem_filter.2 ⟨g,by simpa using a⟩⟩
theorem XY(h:EV W)(T:∀j,j<W.pn->0<=(W.A3 j).id)(U:∀i,i<memN W->K7 W (AA W i)):Lh W↔Q9 W/\Ic W:=by
 have w:∀i,i<memN W->Cg W (AA W i)=CB W (AA W i):=fun i hi=>zEP (U i hi)
 have K:∀i,i<memN W->(Cg W (AA W i)).Nodup:=fun i hi=>(L0 h.right (h.tree i hi)).filter _
 have t:∀i,i<memN W->∀x,x∈CB W (AA W i)->x∈treeM W (AA W i):=fun i _ x c=>(List.mem_filter.1 c).1
 have p:∀i,i<memN W->∀x,x∈treeM W (AA W i)->B8 W.pool x.1 x.2/\¬Has W.pool.hn W.pool.h x.1:=fun i hi x c=>⟨(ED h.right (h.tree i hi) c).1,(ED h.right (h.tree i hi) c).2.2⟩
 have o:∀x y:Int×Int,B8 W.pool x.1 x.2->B8 W.pool y.1 y.2->x.1=y.1->x=y:=fun x y c g e=>by
  have O:=c.2.2.2;have S:=g.2.2.2;rw[e]at O;exact Prod.ext e (O.symm.trans S)
 have G:(B7 W (memN W)).Nodup↔Ic W:=by
  rw[Yk K];unfold Ic;constructor
  ·intro H i hi j I x c y g e;have N:=o x y (p i hi x (t i hi x c)).1 (p j (by omega) y (t j (by omega) y g)).1 e;subst N;exact H i hi j I x (by rw[w i hi];exact c) (by rw[w j (by omega)];exact g)
  ·intro H i hi j I x c M;exact H i hi j I x (by rw[<-w i hi];exact c) x (by rw[<-w j (by omega)];exact M) rfl
 have d:∀x,x∈B7 W (memN W)↔∃m,m<memN W/\x∈treeM W (AA W m):=fun x=>by
  rw[M7];constructor
  ·rintro⟨i,hi,c⟩;rw[w i hi]at c;exact⟨i,hi,t i hi x c⟩
  ·rintro⟨m,k,c⟩;obtain⟨i,hi,c⟩:=zEq h T k c;exact⟨i,hi,by rw[w i hi];exact c⟩
 unfold Lh;rw[G];constructor
 ·rintro⟨A,R⟩;refine⟨?_,A⟩;have f:=G.2 A;have hpL:∀x,x∈B7 W (memN W)->B8 W.pool x.1 x.2:=fun x c=>by
   obtain⟨m,k,c⟩:=(d x).1 c;exact(p m k x c).1
  have J:∀x,x∈(B7 W (memN W)).map (fun x=>x.1.toNat)->x<W.pool.n:=by
   intro x c;obtain⟨y,g,rfl⟩:=List.mem_map.1 c;have:=hpL y g;have F:=this.2.1;have z:=this.2.2.1;omega
  have v:((B7 W (memN W)).map (fun x=>x.1.toNat)).Nodup:=by
   unfold List.Nodup;rw[List.pairwise_map];refine List.Pairwise.imp_of_mem ?_ f;intro a b q r u e;have C:=hpL a q;have D:=hpL b r;have:=C.2.1;have:=D.2.1;exact u (o a b C D (by omega))
  have E:=O7 v J;rw[List.length_map]at E;have X:=VI h.right;have l:∀i,i<W.pool.n->(i∈(B7 W (memN W)).map (fun x=>x.1.toNat)↔∃m,m<memN W/\∃b,((i:Int),b)∈treeM W (AA W m)):=by
   intro i hi;rw[List.mem_map];constructor
   ·rintro⟨x,c,e⟩;have:=(hpL x c).2.1;obtain⟨m,k,c⟩:=(d x).1 c;exact⟨m,k,x.2,by rw[show(i:Int)=x.1 by omega];exact c⟩
   ·rintro⟨m,k,b,c⟩;exact⟨(i,b),(d _).2 ⟨m,k,c⟩,by simp⟩
  have B:∀i,i<W.pool.n->i∈(B7 W (memN W)).map (fun x=>x.1.toNat)->¬Ah (W.pool.s i)/\¬Has W.pool.hn W.pool.h i:=by
   intro i hi c;obtain⟨m,k,b,c⟩:=(l i hi).1 c;have:=p m k _ c;refine⟨fun V=>?_,this.2⟩;have F:=this.1.1;have z:=this.1.2.2.2;simp only[Int.toNat_natCast]at z;rw[V.1]at z;simp only at F z;omega
  have:=(Xz B).1 (by rw[E];omega);intro i hi;rw[<-l i hi];exact this i hi
 ·rintro⟨L,A⟩;refine⟨A,?_⟩;have f:=G.2 A;have hpL:∀x,x∈B7 W (memN W)->B8 W.pool x.1 x.2:=fun x c=>by
   obtain⟨m,k,c⟩:=(d x).1 c;exact(p m k x c).1
  have J:∀x,x∈(B7 W (memN W)).map (fun x=>x.1.toNat)->x<W.pool.n:=by
   intro x c;obtain⟨y,g,rfl⟩:=List.mem_map.1 c;have:=hpL y g;have F:=this.2.1;have z:=this.2.2.1;omega
  have v:((B7 W (memN W)).map (fun x=>x.1.toNat)).Nodup:=by
   unfold List.Nodup;rw[List.pairwise_map];refine List.Pairwise.imp_of_mem ?_ f;intro a b q r u e;have C:=hpL a q;have D:=hpL b r;have:=C.2.1;have:=D.2.1;exact u (o a b C D (by omega))
  have E:=O7 v J;rw[List.length_map]at E;have X:=VI h.right;have l:∀i,i<W.pool.n->(i∈(B7 W (memN W)).map (fun x=>x.1.toNat)↔∃m,m<memN W/\∃b,((i:Int),b)∈treeM W (AA W m)):=by
   intro i hi;rw[List.mem_map];constructor
   ·rintro⟨x,c,e⟩;have:=(hpL x c).2.1;obtain⟨m,k,c⟩:=(d x).1 c;exact⟨m,k,x.2,by rw[show(i:Int)=x.1 by omega];exact c⟩
   ·rintro⟨m,k,b,c⟩;exact⟨(i,b),(d _).2 ⟨m,k,c⟩,by simp⟩
  have:=Ki (P:=fun i=>i∈(B7 W (memN W)).map (fun x=>x.1.toNat)) (Q:=fun i=>¬Ah (W.pool.s i)/\¬Has W.pool.hn W.pool.h i) (n:=W.pool.n) (fun i hi=>(l i hi).trans (L i hi));omega
theorem Ax.atW{base:Nat}(h:Ax w base v l)(e:l.length<=1000):BG w 0 w.heap.size v l.length (AN l) (AP l):=by
 obtain⟨b,c,d⟩:=h.own (by unfold maxLen;omega);exact c.at (fun a=>⟨Nat.zero_le _,(d a).2.2⟩)
def qT(now old:List (Int×Int))(t tm:Int)(n:Nat):Prop:=∀i,i<n->AP now i<=tm/\((AN now i,AP now i)∈old↔AP now i<=t)
theorem Tp(a b:List (Int×Int))(t tm:Int):qT a b t tm a.length↔F3 a b t tm:=by
 constructor
 ·intro h x d;obtain⟨j,c,e⟩:=List.getElem_of_mem d;have:=h j c;unfold AN AP at this;rw[D6 c,e]at this;exact this
 ·intro h i hi;have:=h _ (List.getElem_mem hi);unfold AN AP;rw[D6 hi];exact this
def NL(W:A6):Prop:=∀k,k<W.pn->1<=(W.A3 k).id
def Dq(i:Nat)(c:Int):Prop:=(97<=c/\c<=122)\/(i≠0/\((48<=c/\c<=57)\/c=95))
def BX(s:ByteArray):Prop:=1<=s.size/\s.size<=20/\∀j,(h:j<s.size)->Dq j (s[j].toNat:Int)
variable{s:ByteArray}
theorem zIt(d:k<s.size)(a:∀j,(h:j<k)->(b:j<s.size)->Dq j (s[j].toNat:Int))(c:Dq k (s[k].toNat:Int)) :
 ∃m:Nat,m<=s.size/\Value.int .i64 ((k:Int)+1)=A0 (m:Int)/\∀j,(h:j<m)->(b:j<s.size)->Dq j (s[j].toNat:Int):=by
 refine⟨k+1,by omega,by simp,fun j h b=>?_⟩;by_cases e:j=k
 ·subst e;exact c
 ·exact a j (by omega) b
theorem zIs(c:0<s.size)(a:Dq 0 (s[0].toNat:Int)) :
 ∃m:Nat,m<=s.size/\Value.int .i64 1=A0 (m:Int)/\∀j,(h:j<m)->(b:j<s.size)->Dq j (s[j].toNat:Int):=by
 refine⟨1,by omega,by simp,fun j h b=>?_⟩;obtain rfl:j=0:=by omega
 exact a
theorem Ra(s:ByteArray)(w:World)(hs:s.size<=maxLen) :
 Calls Tryz.prog 114 #[.string s] w fun e w'=>AJ (BX s) e/\w'=w:=by
 unfold maxLen at hs;by_cases r:s.size<1
 ·have f:(s.size:Int)<1:=(by omega);go_enter Tryz.func114,Tryz.ntmps114;go_wp2;go_ret;exact⟨⟨false,rfl,by simp[BX];omega⟩,rfl⟩
 by_cases t:20<s.size
 ·have m:(20:Int)<(s.size:Int):=(by omega);have f:¬(s.size:Int)<1:=(by omega);go_enter Tryz.func114,Tryz.ntmps114;go_wp2;go_ret;exact⟨⟨false,rfl,by simp[BX];omega⟩,rfl⟩
 have f:¬(s.size:Int)<1:=by omega
 have m:¬(20:Int)<(s.size:Int):=by omega
 have p:0<s.size:=by omega
 by_cases a:97<=(s[0].toNat:Int)/\(s[0].toNat:Int)<=122
 ·obtain⟨l,n⟩:=a;go_enter Tryz.func114,Tryz.ntmps114;go_wp2
  go_loop [20] (fun i=>∃k:Nat,k<=s.size/\i=A0 k/\∀j,(h:j<k)->(q:j<s.size)->Dq j (s[j].toNat:Int)) (fun i=>s.size - (intOf i).toNat)
  case atStart=>exact⟨0,Nat.zero_le _,rfl,fun j h=>absurd h (Nat.not_lt_zero _)⟩
  case round=>
   obtain⟨k,u,rfl,c⟩:=hrel;have b:Hid (∀j,(h:j<k)->(q:j<s.size)->Dq j (s[j].toNat:Int)):=c;clear c;by_cases d:k<s.size
   ·by_cases o:k=0
    all_goals try subst o
    all_goals go_wp2
    all_goals try (go_ret;refine⟨⟨false,rfl,?_⟩,rfl⟩;simp only[Bool.false_eq_true,false_iff];intro h;have g:=h.2.2 _ d;unfold Dq at g;first | omega | grind)
    all_goals
     go_round
     case measure=>simp[intOf];omega
     case rel=>first | exact zIs d (by unfold Dq;first | omega | grind) | exact zIt d b.out (by unfold Dq;first | omega | grind)
   ·go_wp2;go_ret;refine⟨⟨true,rfl,?_⟩,rfl⟩;simp only[true_iff];exact⟨by omega,by omega,fun j h=>b.out j (by omega) h⟩
 ·by_cases l:97<=(s[0].toNat:Int)
  ·have n:¬(s[0].toNat:Int)<=122:=fun h=>a ⟨l,h⟩
   clear a;go_enter Tryz.func114,Tryz.ntmps114;go_wp2;go_ret;refine⟨⟨false,rfl,?_⟩,rfl⟩;simp only[Bool.false_eq_true,false_iff];intro h;have g:=h.2.2 _ p;unfold Dq at g;omega
  ·clear a;go_enter Tryz.func114,Tryz.ntmps114;go_wp2;go_ret;refine⟨⟨false,rfl,?_⟩,rfl⟩;simp only[Bool.false_eq_true,false_iff];intro h;have g:=h.2.2 _ p;unfold Dq at g;omega
def Cd(a b:ByteArray):Prop:=Op.bytesLess a.toList b.toList=true
theorem VB:∀x y:List UInt8,Op.bytesLess x y=true\/x=y\/Op.bytesLess y x=true
 | [],[]=>Or.inr (Or.inl rfl)
 | [],b :: y=>Or.inl (by simp[Op.bytesLess])
 | a :: x,[]=>Or.inr (Or.inr (by simp[Op.bytesLess]))
 | a :: x,b :: y=>by
  simp only[Op.bytesLess,Bool.or_eq_true,decide_eq_true_eq,Bool.and_eq_true,beq_iff_eq,List.cons.injEq];by_cases h:a=b
  ·subst h;rcases VB x y with h | h | h
   ·exact Or.inl (Or.inr ⟨rfl,h⟩)
   ·exact Or.inr (Or.inl ⟨rfl,h⟩)
   ·exact Or.inr (Or.inr (Or.inr ⟨rfl,h⟩))
  ·have:a<b\/b<a:=by
    have c:a.toNat≠b.toNat:=fun e=>h (UInt8.toNat_inj.1 e)
    rw[UInt8.lt_iff_toNat_lt,UInt8.lt_iff_toNat_lt];omega
   rcases this with h | h
   ·exact Or.inl (Or.inl h)
   ·exact Or.inr (Or.inr (Or.inl h))
theorem R6:∀x:List UInt8,Op.bytesLess x x=false
 | []=>rfl
 | a :: x=>by simp[Op.bytesLess,R6 x]
theorem VA:∀x y:List UInt8,Op.bytesLess x y=true->Op.bytesLess y x=false
 | [],[],h=>by simp[Op.bytesLess]at h
 | [],b :: y,_=>by simp[Op.bytesLess]
 | a :: x,[],h=>by simp[Op.bytesLess]at h
 | a :: x,b :: y,h=>by
  simp only[Op.bytesLess,Bool.or_eq_true,decide_eq_true_eq,Bool.and_eq_true,beq_iff_eq]at h;rw[<-Bool.not_eq_true];simp only[Op.bytesLess,Bool.or_eq_true,decide_eq_true_eq,Bool.and_eq_true,beq_iff_eq,UInt8.lt_iff_toNat_lt]at h ⊢;rintro(c | ⟨c,d⟩)
  ·rcases h with h | ⟨h,_⟩
   ·omega
   ·subst h;omega
  ·subst c;rcases h with h | ⟨_,h⟩
   ·omega
   ·rw[VA x y h]at d;exact absurd d (by simp)
variable{a b:ByteArray}
theorem G7(h:a.toList=b.toList):a=b:=by
 rw[Go.ByteArray.toList_eq,Go.ByteArray.toList_eq]at h;cases a;cases b;simp only[ByteArray.mk.injEq]at *;exact Array.toList_inj.1 h
theorem Sy(a b:ByteArray):(Op.bytesLess a.toList b.toList || a.toList == b.toList)=false↔Cd b a:=by
 unfold Cd;rw[Bool.or_eq_false_iff,beq_eq_false_iff_ne];constructor
 ·rintro⟨c,d⟩;rcases VB a.toList b.toList with h | h | h
  ·rw[c]at h;exact absurd h (by simp)
  ·exact absurd h d
  ·exact h
 ·intro h;refine⟨VA _ _ h,fun e=>?_⟩;rw[e,R6]at h;exact absurd h (by simp)
theorem QD(h:Cd a b):a≠b:=fun e=>by
 subst e;unfold Cd at h;rw[R6]at h;exact absurd h (by simp)
theorem VC:∀x y z:List UInt8,Op.bytesLess x y=true->Op.bytesLess y z=true->Op.bytesLess x z=true
 | _,[],_,h,_=>by cases ‹List UInt8›<;>simp[Op.bytesLess]at h
 | [],_ :: _,[],_,h=>by simp[Op.bytesLess]at h
 | [],_ :: _,_ :: _,_,_=>by simp[Op.bytesLess]
 | _ :: _,_ :: _,[],_,h=>by simp[Op.bytesLess]at h
 | a :: x,b :: y,c :: z,h,d=>by
  simp only[Op.bytesLess,Bool.or_eq_true,decide_eq_true_eq,Bool.and_eq_true,beq_iff_eq,UInt8.lt_iff_toNat_lt]at h d ⊢;rcases h with h | ⟨h,f⟩
  ·rcases d with d | ⟨d,e⟩
   ·left;omega
   ·subst d;left;exact h
  ·subst h;rcases d with d | ⟨d,e⟩
   ·left;exact d
   ·subst d;right;exact⟨rfl,VC x y z f e⟩
theorem zBL{c:ByteArray}(h:Cd a b)(d:Cd b c):Cd a c:=VC _ _ _ h d
def CK(W:A6)(x:Int):Prop:=∃k,k<W.pn/\(W.A3 k).id=x
def BL(W:A6)(x:ByteArray):Prop:=∃k,k<W.sn/\(W.A2 k).name=x
def GJ(W:A6)(i:Nat):Prop:=BX (W.A2 i).name/\(0<i->Cd (W.A2 (i - 1)).name (W.A2 i).name)/\((W.A2 i).A8≠0->CK W (W.A2 i).A8)/\((W.A2 i).origin≠0->CK W (W.A2 i).origin)
def Mr(W:A6)(i:Nat):Prop:=1<=(W.A3 i).id/\(W.A3 i).id<W.next/\1<=(W.A3 i).time/\(W.A3 i).time<W.time/\BX (W.A3 i).name/\BL W (W.A3 i).set
def LJ(W:A6)(i:Nat):Prop:=(0<i->(W.A3 (i - 1)).id<(W.A3 i).id/\(W.A3 (i - 1)).time<(W.A3 i).time)/\((W.A3 i).A8≠0->(W.A3 i).A8<(W.A3 i).id/\CK W (W.A3 i).A8)
def LK(W:A6)(i j:Nat):Prop:=∀k,k<j->¬((W.A3 k).set=(W.A3 i).set/\(W.A3 k).name=(W.A3 i).name)
def KJ(W:A6)(i:Nat):Prop:=Mr W i/\LJ W i/\LK W i i
def DD(W:A6):Prop:=Jb W.time 1 900000/\Jb W.next 1 900000/\W.sn<=8/\W.pn<=20/\(∀i,i<W.sn->GJ W i)/\∀i,i<W.pn->KJ W i
theorem Y6{r:Int}(h:Q6 W.pn (fun k=>(W.A3 k).id=x) r):(CK W x/\0<=r/\r<W.pn/\(W.A3 r.toNat).id=x)\/(¬CK W x/\r = -1):=by
 rcases h with⟨k,a,e,_,rfl⟩ | ⟨hn,rfl⟩
 ·exact Or.inl ⟨⟨k,a,e⟩,by omega,by omega,by simpa using e⟩
 ·exact Or.inr ⟨fun ⟨k,a,e⟩=>hn k a e,rfl⟩
theorem zg{x:ByteArray}{r:Int}(h:Q6 W.sn (fun k=>(W.A2 k).name=x) r):(BL W x/\0<=r)\/(¬BL W x/\r = -1):=by
 rcases h with⟨k,a,e,_,rfl⟩ | ⟨hn,rfl⟩
 ·exact Or.inl ⟨⟨k,a,e⟩,by omega⟩
 ·exact Or.inr ⟨fun ⟨k,a,e⟩=>hn k a e,rfl⟩
def DX(w:World)(b:Nat)(v0 v1 v2 v3 v4 v5 v6 v7:Value):Prop:=(AO w b 0 v0/\AO w b 1 v1/\AO w b 2 v2/\AO w b 3 v3)/\(AO w b 4 v4/\AO w b 5 v5/\AO w b 6 v6/\AO w b 7 v7)
theorem DX.A1{b:Nat}{v2 v3 v4 v5 v6 v7:Value}(h:DX w b v0 v1 v2 v3 v4 v5 v6 v7)(t:Below w.heap.size w w'):DX w' b v0 v1 v2 v3 v4 v5 v6 v7:=
 ⟨⟨h.1.1.A1 t,h.1.2.1.A1 t,h.1.2.2.1.A1 t,h.1.2.2.2.A1 t⟩,h.2.1.A1 t,h.2.2.1.A1 t,h.2.2.2.1.A1 t,h.2.2.2.2.A1 t⟩
theorem DX.new(w:World)(b v1 c d e f g h:Value)(t:TypeId):DX (w.alloc (.cells #[b,v1,c,d,e,f,g,h] t)) w.heap.size b v1 c d e f g h:=by
 have a:(w.alloc (.cells #[b,v1,c,d,e,f,g,h] t)).heap[w.heap.size]?=some (.cells #[b,v1,c,d,e,f,g,h] t):=heap_alloc_new _ _;exact⟨⟨Az a rfl,Az a rfl,Az a rfl,Az a rfl⟩,Az a rfl,Az a rfl,Az a rfl,Az a rfl⟩
end
end Go.Proofs.YtddigaohmfpepaaGreatDoor
