/- A part of the proof. -/
import Derived.Test.YtmgeglgboadfiaaGreatDoorV9
set_option linter.unusedVariables false
set_option maxRecDepth 20000
set_option maxHeartbeats 4000000
namespace Go.Proofs.YtmgeglgboadfiaaGreatDoor
open Go.RowKit
theorem zNS{w:World}{base g cp:Nat}{f h:Nat->Int}(hr:zw w base (.slice (some ⟨g,0,none⟩) 8 cp) (zBD f h 8)){j:Nat}(hj:j<8)(x y:Int) :
  zm ((w.setCell ⟨g,j*2,none⟩ (.int .i64 x)).setCell ⟨g,j*2+1,none⟩ (.int .i64 y)) g (.slice (some ⟨g,0,none⟩) 8 cp) 8 (fun i=>if i=j then x else f i) (fun i=>if i=j then y else h i):=by
 obtain⟨b,cA,e,bA,_,_,aA⟩:=qZ hr (by rw[yE];omega);simp only[Value.slice.injEq,Option.some.injEq,Addr.mk.injEq,and_true]at e;obtain⟨rfl,_,rfl⟩:=e;rw[yE]at bA;refine⟨by unfold maxLen;omega,_,cp,rfl,bA,fun _=>⟨0,rfl,fun i hi=>?_⟩⟩;have h1:=aA _ _ (zBY (zBD f h 8) i (by rw[yE];exact hi)).1;have h2:=aA _ _ (zBY (zBD f h 8) i (by rw[yE];exact hi)).2;have:=zK2 f h hi;unfold zf zh at this;rw[this.1]at h1;rw[this.2]at h2;rw[Nat.zero_add];show zW _ g (i*2) (.int .i64 (if i=j then x else f i))/\zW _ g (i*2+1) (.int .i64 (if i=j then y else h i));by_cases e:i=j
 ·subst e;rw[if_pos rfl,if_pos rfl];exact⟨(h1.set _).zRY _ (Or.inr (by omega)),(h2.zRY _ (Or.inr (by omega))).set _⟩
 ·rw[if_neg e,if_neg e];exact⟨(h1.zRY _ (Or.inr (by omega))).zRY _ (Or.inr (by omega)),(h2.zRY _ (Or.inr (by omega))).zRY _ (Or.inr (by omega))⟩
theorem zJg{w:World}{base g cp:Nat}{f h:Nat->Int}(hr:zw w base (.slice (some ⟨g,0,none⟩) 8 cp) (zBD f h 8)):base<=g/\g<w.heap.size/\8<=cp/\∀i,i<8->zW w g (i*2) (.int .i64 (f i))/\zW w g (i*2+1) (.int .i64 (h i)):=by
 obtain⟨b,dA,e,bA,hb,cA,aA⟩:=qZ hr (by rw[yE];omega);simp only[Value.slice.injEq,Option.some.injEq,Addr.mk.injEq,and_true]at e;obtain⟨rfl,_,rfl⟩:=e;rw[yE]at bA;refine⟨hb,cA,bA,fun i hi=>?_⟩;have h1:=aA _ _ (zBY (zBD f h 8) i (by rw[yE];exact hi)).1;have h2:=aA _ _ (zBY (zBD f h 8) i (by rw[yE];exact hi)).2;have:=zK2 f h hi;unfold zf zh at this;rw[this.1]at h1;rw[this.2]at h2;exact⟨h1,h2⟩
theorem zQR(w:World)(p:zI)(xs xb:Int)(n:Nat)(t:TypeId):zU (w.alloc (.cells #[.int .i64 (yw p xs xb n),.int .i64 (zAC p xs xb n),.int .i64 (yK p xs xb n),.int .i64 (yp p xs xb n),.int .i64 xs,.int .i64 xb] t)) 0 (w.heap.size+1) (.slice (some ⟨w.heap.size,0,none⟩) 3 3) 3 (fun i=>qy p xs xb n (2 - i)) (fun i=>yk p xs xb n (2 - i)):=by
 have hb:(w.alloc (.cells #[.int .i64 (yw p xs xb n),.int .i64 (zAC p xs xb n),.int .i64 (yK p xs xb n),.int .i64 (yp p xs xb n),.int .i64 xs,.int .i64 xb] t)).heap[w.heap.size]?=some (.cells #[.int .i64 (yw p xs xb n),.int .i64 (zAC p xs xb n),.int .i64 (yK p xs xb n),.int .i64 (yp p xs xb n),.int .i64 xs,.int .i64 xb] t):=heap_alloc_new _ _;refine⟨by unfold maxLen;omega,_,3,rfl,Nat.le_refl _,fun _=>⟨w.heap.size,0,rfl,Nat.zero_le _,Nat.lt_succ_self _,fun i hi=>?_⟩⟩;rcases i with _ | _ | _ | i
 ·exact⟨(zJ hb rfl).1,(zJ hb rfl).1⟩
 ·exact⟨(zJ hb rfl).1,(zJ hb rfl).1⟩
 ·exact⟨(zJ hb rfl).1,(zJ hb rfl).1⟩
 ·omega
theorem zQc(w:World):zm w 0 (.slice none 0 0) 0 (fun _=>0) (fun _=>0):=⟨Nat.zero_le _,none,0,rfl,Nat.le_refl _,fun h=>absurd h (Nat.lt_irrefl _)⟩
theorem zGG(v0 v1:Value)(lo hi:Nat)(p:zI)(xs xb zRj b:Int)(d:ByteArray)(w:World)(h1:zu w lo hi v0 v1 p) :
  Calls Tryz.prog 29 #[.agg #[v0,v1],.agg #[.int .i64 xs,.int .i64 xb],.int .i64 zRj,.string d,.int .i64 b] w (zHb (qo p xs xb zRj d b) w):=by
 have Hp:=zE h1;obtain⟨a,c,a',c',rfl,rfl⟩:=h1.form;clear h1;have hq:∀n:Nat,(n:Int).tdiv 8=((n / 8:Nat):Int):=fun n=>(Int.ofNat_tdiv n 8).symm
 have hr:∀n:Nat,(n:Int).tmod 8=((n % 8:Nat):Int):=fun n=>(Int.ofNat_tmod n 8).symm
 have vG:=zPN w (.slice a p.n c) (.slice a' p.hn c') (.int .i64 xs) (.int .i64 xb) 33 61 64;go_enter Tryz.func29,Tryz.ntmps29;go_upto_region 1 with fail;generalize ((w.alloc (.cells #[.slice a p.n c,.slice a' p.hn c'] 33)).alloc (.cells #[.int .i64 xs,.int .i64 xb] 61)).alloc (.cells #[.slice none 0 0,.slice none 0 0,.int .i64 0,.int .i64 0,.slice none 0 0,.int .i64 0] 64)=W at vG ⊢;obtain⟨hB,hX,hR,fC,hz⟩:=vG;by_cases cE:8000<d.size
 ·have nB:=zE cE;have lK:(8000:Int)<(d.size:Int):=(by omega);have HR:=zE hR;obtain⟨⟨r0,r1⟩,⟨r2,r3⟩,⟨r4,r5⟩,⟨r6,r7⟩,⟨r8,r9⟩,⟨pA,sA⟩⟩:=HR.out
  try go_wp2
  have aA:=HR.out.put (.slice none 0 0) (.slice none 0 0) (.int .i64 0) (.int .i64 0) (.slice none 0 0) (.int .i64 2);have gA:=zAm (R:=w.heap.size+1+1) (c:=2) (by omega) fC;rw[zFR nB.out];exact bodyPost_ret (v:=.agg #[.slice none 0 0,.slice none 0 0,.int .i64 0,.int .i64 0,.slice none 0 0,.int .i64 2]) (by simp[results,Tryz.results29,go_sem,aA.1.1,aA.2.1.1,aA.2.2.1.1,aA.2.2.2.1.1,aA.2.2.2.2.1.1,aA.2.2.2.2.2.1]) rfl gA
 ·have nB:=zE cE;have lK:¬(8000:Int)<(d.size:Int):=(by omega);clear cE;obtain⟨⟨x0,x1⟩,⟨x2,x3⟩⟩:=id hB;obtain⟨⟨y0,y1⟩,⟨y2,y3⟩⟩:=id hX;go_wp2_with fail;refine(zF4 _ _ lo hi p xs xb W (Hp.out.zRX fC)).mono ?_;rintro e w1 ⟨⟨t,rfl,ht⟩,mB⟩;have mF:=zE (hB.zRX mB);have bE:=zE (hX.zRX mB);have jD:=zE (hR.zRX mB);have gD:=zA fC mB;have mK:w.heap.size+3<=w1.heap.size:=(by have:=mB.size;omega);clear hB hX hR fC mB hz x0 x1 x2 x3 y0 y1 y2 y3;by_cases rB:qp p xs xb
  ·have fA:=zE rB;obtain rfl:t=true:=ht.2 rB;clear ht rB;obtain⟨⟨y0,y1⟩,⟨y2,y3⟩⟩:=bE.out;obtain⟨⟨x0,x1⟩,⟨x2,x3⟩⟩:=mF.out;go_wp2_with fail;refine(zMA _ _ lo hi p xs xb b w1 (Hp.out.zRX gD) fA.out).mono ?_;rintro e w2 ⟨⟨t,rfl,ht⟩,aC⟩;have bF:=zE (mF.out.zRX aC);have tG:=zE (bE.out.zRX aC);have tA:=zE (jD.out.zRX aC);have sB:=zA gD aC;have fL:w.heap.size+3<=w2.heap.size:=(by have:=aC.size;omega);clear aC gD mF bE jD mK y0 y1 y2 y3 x0 x1 x2 x3;by_cases pB:yB xb b
   ·have vB:=zE (And.intro fA.out pB);obtain rfl:t=true:=ht.2 pB;clear ht pB;obtain⟨⟨r0,r1⟩,⟨r2,r3⟩,⟨r4,r5⟩,⟨r6,r7⟩,⟨r8,r9⟩,⟨pA,sA⟩⟩:=tA.out;by_cases hN:zCH zRj
    ·have oB:=zE hN;obtain⟨n,rfl⟩:=Int.eq_ofNat_of_zero_le hN.1;have rA:n<64:=(by have:=hN.2;omega);have jL:((n / 8:Nat):Int)<8:=(by omega);have mL:((n % 8:Nat):Int)<8:=(by omega);have nL:(n:Int)<64:=(by omega);have gL:0<=(n:Int) % 8:=(by omega);have kL:(n:Int) % 8<8:=(by omega);have iL:((n:Int) % 8).toNat=n % 8:=(by omega);clear hN;by_cases lA:d.size=16
     ·have dH:=zE (And.intro oB.out lA);have dK:((d.size:Int) != 16)=false:=(by simp;omega);have vA:=zE lA;clear lA r0 r1 r2 r3 r4 r5 r6 r7 r8 r9 pA sA;obtain⟨⟨x0,x1⟩,⟨x2,x3⟩⟩:=bF.out;go_wp2_with (first | (go_at_call 80;refine(zDO _ _).mono ?_;rintro e w9 ⟨⟨t2,rfl,dB⟩,rfl⟩;obtain rfl:t2=true:=dB.2 oB.out;clear dB) | fail);go_wp2_with fail;have dC:=fA.out.1.1;refine(zLI _ _ lo hi p w9 (Hp.out.zRX sB) dC).mono ?_;rintro e w3 ⟨rfl,lB⟩;have dF:=zE (bF.out.zRX lB);have jF:=zE (tG.out.zRX lB);have tC:=zE (tA.out.zRX lB);have rF:=zA sB lB;have eL:w.heap.size+3<=w3.heap.size:=(by have:=lB.size;omega);clear lB x0 x1 x2 x3 bF tG tA sB;by_cases lC:roomN p.s p.n<3
      ·have fE:(roomN p.s p.n:Int)<3:=(by omega);have vF:=zE (zHl fA.out rA vB.out.2 vA.out lC);clear lC;obtain⟨⟨r0,r1⟩,⟨r2,r3⟩,⟨r4,r5⟩,⟨r6,r7⟩,⟨r8,r9⟩,⟨pA,sA⟩⟩:=tC.out
       try go_wp2
       have aA:=tC.out.put (.slice none 0 0) (.slice none 0 0) (.int .i64 0) (.int .i64 0) (.slice none 0 0) (.int .i64 6);have gA:=zAm (R:=w.heap.size+1+1) (c:=6) (by omega) rF;rw[vF.out];exact bodyPost_ret (v:=.agg #[.slice none 0 0,.slice none 0 0,.int .i64 0,.int .i64 0,.slice none 0 0,.int .i64 6]) (by simp[results,Tryz.results29,go_sem,aA.1.1,aA.2.1.1,aA.2.2.1.1,aA.2.2.2.1.1,aA.2.2.2.2.1.1,aA.2.2.2.2.2.1]) rfl gA
      ·have fE:¬(roomN p.s p.n:Int)<3:=(by omega);have jI:=zE lC;clear lC;obtain⟨⟨x0,x1⟩,⟨x2,x3⟩⟩:=dF.out;obtain⟨⟨y0,y1⟩,⟨y2,y3⟩⟩:=jF.out;go_wp2_with fail;refine(zHC _ _ lo hi p w3 (Hp.out.zRX rF) (by have:=zEI fA.out.1;omega)).mono ?_;rintro e w4 ⟨s0,s1,rfl,mC,kD⟩;obtain⟨a5,c5,a6,c6,rfl,rfl⟩:=mC.form;have jB:=zC w4 (.cells #[.slice a5 p.n c5,.slice a6 p.hn c6] 33);have cC:=zA kD jB;have gB:p.n<=c5:=(by obtain⟨_,_,_,_,⟨_,_,_,e,h,_⟩,_⟩:=mC;simp only[Value.slice.injEq,true_and]at e;omega);have eE:=zE ((mC.zRX jB).isIn (S:=fun k=>w3.heap.size<=k/\k<w4.heap.size) (fun k h1 h2=>⟨h1,h2⟩));have vD:=zE (zc.zRZ w4 (.slice a5 p.n c5) (.slice a6 p.hn c6) 33);have oC:=zE (dF.out.zRX cC);have fD:=zE (jF.out.zRX cC);have tE:=zE (tC.out.zRX cC);have sC:=zA rF cC;have gK:=kD.size;have cJ:(w4.alloc (.cells #[.slice a5 p.n c5,.slice a6 p.hn c6] 33)).heap.size=w4.heap.size+1:=World.size_alloc _ _;clear x0 x1 x2 x3 y0 y1 y2 y3 dF jF tC kD jB cC mC;go_upto_region 10 with fail;generalize w4.alloc (.cells #[.slice a5 p.n c5,.slice a6 p.hn c6] 33)=w5 at eE vD oC fD tE sC cJ ⊢;obtain⟨⟨x0,x1⟩,⟨x2,x3⟩⟩:=oC.out;obtain⟨⟨y0,y1⟩,⟨y2,y3⟩⟩:=fD.out;go_wp2_with fail;refine(zL2 _ _ lo hi p xs xb n w5 (Hp.out.zRX sC) fA.out rA).mono ?_;rintro e w6 ⟨rfl,tD⟩;have rH:=zC w6 (.cells #[.int .i64 (yw p xs xb n),.int .i64 (zAC p xs xb n)] 61);have oF:=zC (w6.alloc (.cells #[.int .i64 (yw p xs xb n),.int .i64 (zAC p xs xb n)] 61)) (.cells #[.int .i64 (yK p xs xb n),.int .i64 (yp p xs xb n)] 61);have kB:=zA tD (zA rH oF);have pC:=zE ((zc.zRZ w6 (.int .i64 (yw p xs xb n)) (.int .i64 (zAC p xs xb n)) 61).zRX oF);have bG:=zc.zRZ (w6.alloc (.cells #[.int .i64 (yw p xs xb n),.int .i64 (zAC p xs xb n)] 61)) (.int .i64 (yK p xs xb n)) (.int .i64 (yp p xs xb n)) 61;rw[World.size_alloc]at bG;have eC:=zE bG;have jE:=zE (eE.out.zRX kB);have kE:=zE (vD.out.zRX kB);have pE:=zE (oC.out.zRX kB);have mG:=zE (fD.out.zRX kB);have cG:=zE (tE.out.zRX kB);have iD:=zA sC kB;have eK:w4.heap.size+1<=w6.heap.size:=(by have:=tD.size;omega);have vE:((w6.alloc (.cells #[.int .i64 (yw p xs xb n),.int .i64 (zAC p xs xb n)] 61)).alloc (.cells #[.int .i64 (yK p xs xb n),.int .i64 (yp p xs xb n)] 61)).heap.size=w6.heap.size+2:=(by rw[World.size_alloc,World.size_alloc]);clear rH oF kB bG eE vD oC fD tE sC cJ tD x0 x1 x2 x3 y0 y1 y2 y3;go_upto_region 11 with fail;generalize (w6.alloc (.cells #[.int .i64 (yw p xs xb n),.int .i64 (zAC p xs xb n)] 61)).alloc (.cells #[.int .i64 (yK p xs xb n),.int .i64 (yp p xs xb n)] 61)=w7 at pC eC jE kE pE mG cG iD vE ⊢;generalize w6.heap.size=T12 at pC eC eK vE ⊢;go_wp2_with fail;refine(zFU w4.heap.size 0 _ a5 c5 (.slice a6 p.hn c6) (.slice none 0 0) p (qj b d) w7 kE.out (by omega) (fun k hk=>by omega) gB jE.out (zQc w7) (fun h=>absurd h (Nat.lt_irrefl _)) (by show d.size<=maxLen;rw[vA.out];unfold maxLen;omega)).mono ?_;rintro e w8 (⟨i0,tH,cH,nH,pH,aB⟩ | ⟨bC,_,_⟩);rotate_left
       ·obtain⟨j,hj⟩:=zAW (f:=p.s) (n:=p.n) (by have:=jI.out;omega);exact absurd hj.2.1 (bC j hj.1)
       have fF:e = .returned (.tuple #[.agg #[.int .i64 (i0:Int),.int .i64 b],.bool true]):=cH;subst fF;clear cH;have oD:=zE tH;have vH:=zE (pH.mono (T:=fun k=>w3.heap.size<=k/\k<w4.heap.size) (fun k hk=>hk.elim id (fun h=>absurd h.1 (Nat.lt_irrefl _))));have mJ:=zE nH;have dJ:=zE (pC.out.zRf aB (by omega));have aI:=zE (eC.out.zRf aB (by omega));have aH:=zE (pE.out.zRf aB (by omega));have gI:=zE (mG.out.zRf aB (by omega));have aA:=zE (cG.out.zRf aB (by omega));have sI:=iD.trans (aB.zRX (B:=w.heap.size) iD.size (by intro k hk;omega));have tK:T12+2<=w8.heap.size:=(by have:=aB.size;omega);clear tH nH pH aB pC eC jE kE pE mG cG iD vE;have dA:=zC w8 (.cells #[.int .i64 (i0:Int),.int .i64 b] 61);have eD:=zE (zc.zRZ w8 (.int .i64 (i0:Int)) (.int .i64 b) 61);have mE:=zE (vH.out.zRX dA);have kG:=zE (mJ.out.zRX dA);have lF:=zE (dJ.out.zRX dA);have bD:=zE (aI.out.zRX dA);have aD:=zE (aH.out.zRX dA);have kF:=zE (gI.out.zRX dA);have nD:=zE (aA.out.zRX dA);have kC:=zA sI dA;have fI:(w8.alloc (.cells #[.int .i64 (i0:Int),.int .i64 b] 61)).heap.size=w8.heap.size+1:=World.size_alloc _ _;clear dA vH mJ dJ aI aH gI aA sI;go_upto_region 12 with fail;generalize w8.alloc (.cells #[.int .i64 (i0:Int),.int .i64 b] 61)=w9 at eD mE kG lF bD aD kF nD kC fI ⊢;generalize w8.heap.size=T14 at eD tK fI ⊢;obtain⟨⟨x0,x1⟩,⟨x2,x3⟩⟩:=aD.out;obtain⟨⟨y0,y1⟩,⟨y2,y3⟩⟩:=bD.out;go_wp2_with fail;refine(zDA _ _ lo hi p (yK p xs xb n) (yp p xs xb n) w9 (Hp.out.zRX kC) (zJ6 fA.out (by omega))).mono ?_;rintro e wA ⟨g1,nK,rfl,mA,oA⟩;have bB:=zE mA;obtain⟨dL,aL,iK,kA⟩:=zJg mA;have oH:=zE (eD.out.zRX oA);have eI:=zE (mE.out.zRX oA);have mI:=zE (kG.out.zRX oA);have iI:=zE (lF.out.zRX oA);have kJ:=zE (bD.out.zRX oA);have dI:=zE (aD.out.zRX oA);have jH:=zE (kF.out.zRX oA);have gH:=zE (nD.out.zRX oA);have nF:=zA kC oA;clear mA oA x0 x1 x2 x3 y0 y1 y2 y3 eD mE kG lF bD aD kF nD kC;obtain⟨⟨q0,q1⟩,⟨q2,q3⟩⟩:=kA (n % 8) (by omega);obtain⟨⟨x0,x1⟩,⟨x2,x3⟩⟩:=oH.out;clear kA;go_upto_region 14 with fail;have tB:=(zF.put wA g1 (n % 8*2) (.int .i64 (i0:Int))).trans (zF.put _ g1 (n % 8*2+1) (.int .i64 b));have pD:=zE (zNS bB.out (show n % 8<8 by omega) (i0:Int) b);have oE:=zE (mI.out.zRf tB (by omega));have aG:=zE (eI.out.zRf tB (fun k hk=>by omega));have lE:=zE (iI.out.zRf tB (by omega));have nE:=zE (kJ.out.zRf tB (by omega));have iG:=zE (dI.out.zRf tB (by omega));have gE:=zE (jH.out.zRf tB (by omega));have aE:=zE (gH.out.zRf tB (by omega));have cD:=nF.trans (tB.zRX (B:=w.heap.size) nF.size (by intro k hk;omega));have tJ:=tB.size;clear q0 q1 q2 q3 x0 x1 x2 x3 oH eI mI iI kJ dI jH gH nF tB bB;generalize (wA.setCell ⟨g1,n % 8*2,none⟩ (.int .i64 (i0:Int))).setCell ⟨g1,n % 8*2+1,none⟩ (.int .i64 b)=wB at pD oE aG lE nE iG gE aE cD tJ ⊢;go_wp2_with fail;refine(zFU w4.heap.size g1 _ a5 c5 (.slice a6 p.hn c6) (.slice (some ⟨g1,0,none⟩) 8 nK) (qh p b d i0) (zAk (zBT p xs xb n 1 (i0:Int)) (zBR p xs xb n 1 b) b) wB oE.out (by omega) (fun k hk=>by omega) gB aG.out pD.out (fun _=>⟨by omega,by omega⟩) (by show(0:Nat)<=maxLen;exact Nat.zero_le _)).mono ?_;have pK:=jI.out;have q0:roomN (qh p b d i0).s p.n+1=roomN p.s p.n:=zCY (s:=qj b d) oD.out (zAe vB.out.2.1 vA.out);rintro e wC (⟨i1,lJ,rG,sJ,pI,fB⟩ | ⟨bC,_,_⟩);rotate_left
       ·obtain⟨j,hj⟩:=zAW (f:=(qh p b d i0).s) (n:=p.n) (by omega);exact absurd hj.2.1 (bC j hj.1)
       have mD:e = .returned (.tuple #[.agg #[.int .i64 (i1:Int),.int .i64 b],.bool true]):=rG;subst mD;clear rG;have nJ:Hid (qz p.n (qh p b d i0).s i1):=lJ;have q1:roomN (zAa p xs xb n b d i0 i1).s p.n+1=roomN (qh p b d i0).s p.n:=zCY (p:=qh p b d i0) nJ.out (zBc fA.out rA vB.out.2 oD.out);have pG:Hid (qW wC (fun k=>(w3.heap.size<=k/\k<w4.heap.size)\/k=g1) (.slice a5 p.n c5) (.slice a6 p.hn c6) (zAa p xs xb n b d i0 i1)):=pI.mono (fun k hk=>hk.imp id And.right);have cI:Hid (zc wC w4.heap.size (.slice a5 p.n c5) (.slice a6 p.hn c6)):=sJ;have tI:=zE (lE.out.zRf fB (by omega));have kI:=zE (nE.out.zRf fB (by omega));have sH:=zE (iG.out.zRf fB (by omega));have vJ:=zE (gE.out.zRf fB (by omega));have bI:=zE (aE.out.zRf fB (by omega));have bJ:=cD.trans (fB.zRX (B:=w.heap.size) cD.size (by intro k hk;omega));have jK:g1<wC.heap.size:=(by have:=fB.size;omega);clear lJ sJ pI fB lE nE iG gE aE cD pD oE aG tJ;have cA:=zC wC (.cells #[.int .i64 (i1:Int),.int .i64 b] 61);have rC:=zE (zc.zRZ wC (.int .i64 (i1:Int)) (.int .i64 b) 61);have sE:=zE (pG.out.zRX cA);have lG:=zE (cI.out.zRX cA);have iB:=zE (tI.out.zRX cA);have eG:=zE (kI.out.zRX cA);have iC:=zE (sH.out.zRX cA);have nC:=zE (vJ.out.zRX cA);have dG:=zE (bI.out.zRX cA);have dD:=zA bJ cA;have eH:(wC.alloc (.cells #[.int .i64 (i1:Int),.int .i64 b] 61)).heap.size=wC.heap.size+1:=World.size_alloc _ _;clear cA pG cI tI kI sH vJ bI bJ;go_upto_region 15 with fail;generalize wC.alloc (.cells #[.int .i64 (i1:Int),.int .i64 b] 61)=wD at rC sE lG iB eG iC nC dG dD eH ⊢;generalize wC.heap.size=T17 at rC jK eH ⊢;obtain⟨⟨x0,x1⟩,⟨x2,x3⟩⟩:=iC.out;obtain⟨⟨y0,y1⟩,⟨y2,y3⟩⟩:=nC.out;go_wp2_with fail;refine(zDA _ _ lo hi p xs xb wD (Hp.out.zRX dD) (zJ8 fA.out)).mono ?_;rintro e wE ⟨g2,rK,rfl,iA,nA⟩;have eB:=zE iA;obtain⟨rL,kK,cK,jA⟩:=zJg iA;have bH:=zE (rC.out.zRX nA);have gJ:=zE (sE.out.zRX nA);have vI:=zE (lG.out.zRX nA);have oI:=zE (iB.out.zRX nA);have iJ:=zE (eG.out.zRX nA);have bL:=zE (iC.out.zRX nA);have aK:=zE (nC.out.zRX nA);have mH:=zE (dG.out.zRX nA);have jG:=zA dD nA;clear iA nA x0 x1 x2 x3 y0 y1 y2 y3 rC sE lG iB eG iC nC dG dD;obtain⟨⟨u0,u1⟩,⟨u2,u3⟩⟩:=jA (n / 8) (by omega);obtain⟨⟨x0,x1⟩,⟨x2,x3⟩⟩:=bH.out;clear jA;go_upto_region 17 with fail;have tF:=(zF.put wE g2 (n / 8*2) (.int .i64 (i1:Int))).trans (zF.put _ g2 (n / 8*2+1) (.int .i64 b));have dE:=zE (zNS eB.out (show n / 8<8 by omega) (i1:Int) b);have fG:=zE (vI.out.zRf tF (by omega));have aF:=zE (gJ.out.zRf tF (fun k hk=>by omega));have pF:=zE (oI.out.zRf tF (by omega));have eF:=zE (iJ.out.zRf tF (by omega));have sD:=zE (aK.out.zRf tF (by omega));have oG:=zE (mH.out.zRf tF (by omega));have jC:=jG.trans (tF.zRX (B:=w.heap.size) jG.size (by intro k hk;omega));have kH:=tF.size;clear u0 u1 u2 u3 x0 x1 x2 x3 bH gJ vI oI iJ bL aK mH jG tF eB;generalize (wE.setCell ⟨g2,n / 8*2,none⟩ (.int .i64 (i1:Int))).setCell ⟨g2,n / 8*2+1,none⟩ (.int .i64 b)=wF at dE fG aF pF eF sD oG jC kH ⊢;go_wp2_with fail;refine(zFU w4.heap.size g2 _ a5 c5 (.slice a6 p.hn c6) (.slice (some ⟨g2,0,none⟩) 8 rK) (zAa p xs xb n b d i0 i1) (zAk (zBT p xs xb n 0 (i1:Int)) (zBR p xs xb n 0 b) b) wF fG.out (by omega) (fun k hk=>by omega) gB aF.out dE.out (fun _=>⟨by omega,by omega⟩) (by show(0:Nat)<=maxLen;exact Nat.zero_le _)).mono ?_;rintro e wG (⟨i2,aJ,iH,sG,oJ,cB⟩ | ⟨bC,_,_⟩);rotate_left
       ·obtain⟨j,hj⟩:=zAW (f:=(zAa p xs xb n b d i0 i1).s) (n:=p.n) (by omega);exact absurd hj.2.1 (bC j hj.1)
       have rD:e = .returned (.tuple #[.agg #[.int .i64 (i2:Int),.int .i64 b],.bool true]):=iH;subst rD;clear iH;have vF:=zE (zLe fA.out rA vB.out.2 vA.out oD.out nJ.out aJ);have pJ:Hid (zy wG w3.heap.size wG.heap.size (.slice a5 p.n c5) (.slice a6 p.hn c6) (zG5 p xs xb n b d i0 i1 i2)):=oJ.own (fun k hk=>by have:=cB.size;omega);have jJ:Hid (zc wG w4.heap.size (.slice a5 p.n c5) (.slice a6 p.hn c6)):=sG;have lH:=zE (pF.out.zRf cB (by omega));have rJ:=zE (eF.out.zRf cB (by omega));have nI:=zE (sD.out.zRf cB (by omega));have eJ:=zE (oG.out.zRf cB (by omega));have fJ:=jC.trans (cB.zRX (B:=w.heap.size) jC.size (by intro k hk;omega));have vK:g2<wG.heap.size:=(by have:=cB.size;omega);clear aJ sG oJ cB pF eF sD oG jC dE fG aF kH;have eA:=zC wG (.cells #[.int .i64 (i2:Int),.int .i64 b] 61);have vC:=zE (zc.zRZ wG (.int .i64 (i2:Int)) (.int .i64 b) 61);have iF:=zE (pJ.out.zRX eA);have sF:=zE (jJ.out.zRX eA);have cF:=zE (lH.out.zRX eA);have gF:=zE (rJ.out.zRX eA);have rE:=zE (nI.out.zRX eA);have gG:=zE (eJ.out.zRX eA);have rI:=zA fJ eA;have gC:(wG.alloc (.cells #[.int .i64 (i2:Int),.int .i64 b] 61)).heap.size=wG.heap.size+1:=World.size_alloc _ _;clear eA pJ jJ lH rJ nI eJ fJ;go_upto_region 18 with fail;generalize wG.alloc (.cells #[.int .i64 (i2:Int),.int .i64 b] 61)=wH at vC iF sF cF gF rE gG rI gC ⊢;generalize wG.heap.size=T20 at vC iF vK gC ⊢;obtain⟨⟨x0,x1⟩,⟨x2,x3⟩⟩:=sF.out;obtain⟨⟨y0,y1⟩,⟨y2,y3⟩⟩:=vC.out;obtain⟨⟨z0,z1⟩,⟨z2,z3⟩⟩:=cF.out;obtain⟨⟨u0,u1⟩,⟨u2,u3⟩⟩:=gF.out;obtain⟨⟨v0,v1⟩,⟨v2,v3⟩⟩:=rE.out;have n0:w.heap.size+1+1≠w4.heap.size:=(by omega);have n1:w.heap.size+1+1≠T20:=(by omega);have n2:w.heap.size+1+1≠T12:=(by omega);have n3:w.heap.size+1+1≠T12+1:=(by omega);have pL:w.heap.size+1≠T12:=(by omega);have n4:w.heap.size+1+1≠w.heap.size+1:=(by omega);have m0:wH.heap.size≠w4.heap.size:=(by omega);have m1:wH.heap.size≠T20:=(by omega);have m2:wH.heap.size≠T12:=(by omega);have m3:wH.heap.size≠T12+1:=(by omega);have m4:wH.heap.size≠w.heap.size+1:=(by omega);have hL:zU (wH.alloc (.cells #[.int .i64 (yw p xs xb n),.int .i64 (zAC p xs xb n),.int .i64 (yK p xs xb n),.int .i64 (yp p xs xb n),.int .i64 xs,.int .i64 xb] 61)) 0 (wH.heap.size+1) (.slice (some ⟨wH.heap.size,0,none⟩) 3 3) 3 (fun i=>qy p xs xb n (2 - i)) (fun i=>yk p xs xb n (2 - i)):=zQR wH p xs xb n 61;rw[gC]at hL;have HL:=zE hL;have cL:=zE (zC wH (.cells #[.int .i64 (yw p xs xb n),.int .i64 (zAC p xs xb n),.int .i64 (yK p xs xb n),.int .i64 (yp p xs xb n),.int .i64 xs,.int .i64 xb] 61));clear hL;go_region_held3 (fun w'=>w'.cell? ⟨w4.heap.size,0,none⟩=some (.slice a5 p.n c5)/\w'.cell? ⟨w4.heap.size,1,none⟩=some (.slice a6 p.hn c6)/\w'.cell? ⟨T20,0,none⟩=some (.int .i64 (i2:Int))/\w'.cell? ⟨T20,1,none⟩=some (.int .i64 b)/\w'.cell? ⟨T12,0,none⟩=some (.int .i64 (yw p xs xb n))/\w'.cell? ⟨T12,1,none⟩=some (.int .i64 (zAC p xs xb n))/\w'.cell? ⟨T12+1,0,none⟩=some (.int .i64 (yK p xs xb n))/\w'.cell? ⟨T12+1,1,none⟩=some (.int .i64 (yp p xs xb n))/\w'.cell? ⟨w.heap.size+1,0,none⟩=some (.int .i64 xs)/\w'.cell? ⟨w.heap.size+1,1,none⟩=some (.int .i64 xb)) (go_keep)
        (first
         | (go_at_call 86;refine(zMl _ 3 0 (T20+1+1) (fun i=>qy p xs xb n (2 - i)) (fun i=>yk p xs xb n (2 - i)) _ ?_ (by omega)).mono ?_;(exact HL.out.zRX (Below.refl _ _).drew);rintro e wI ⟨v',rfl,lD,fH⟩;obtain⟨oa,oc,rfl,_⟩:=zY lD;have bA:=zA cL.out (zK fH);obtain⟨⟨x0,_⟩,⟨x2,_⟩⟩:=sF.out.zRX bA;obtain⟨⟨y0,_⟩,⟨y2,_⟩⟩:=vC.out.zRX bA;obtain⟨⟨z0,_⟩,⟨z2,_⟩⟩:=cF.out.zRX bA;obtain⟨⟨u0,_⟩,⟨u2,_⟩⟩:=gF.out.zRX bA;obtain⟨⟨v0,_⟩,⟨v2,_⟩⟩:=rE.out.zRX bA;obtain⟨⟨r0,r1⟩,⟨r2,r3⟩,⟨r4,r5⟩,⟨r6,r7⟩,⟨r8,r9⟩,⟨pA,sA⟩⟩:=gG.out.zRX bA))
       have oK:=zE (gG.out.zRX bA);have fK:=zE (iF.out.zRX bA);have iE:=zA rI bA;have sK:wH.heap.size<=wI.heap.size:=bA.size;have lI:Hid (zw wI (T20+1) (.slice oa (yf p xs xb n 3).length oc) (yf p xs xb n 3)):=lD.mono (by show T20+1<=(World.alloc _ _).heap.size;rw[World.size_alloc,gC];omega);have oL:w.heap.size+2<T20:=(by omega);rw[show kidsUp (fun i=>qy p xs xb n (2 - i)) (fun i=>yk p xs xb n (2 - i)) 3=yf p xs xb n 3 from rfl];clear fH bA lD x0 x2 y0 y2 z0 z2 u0 u2 v0 v2 r0 r1 r2 r3 r4 r5 r6 r7 r8 r9 pA sA;have aA:=oK.out.put (.slice a5 p.n c5) (.slice a6 p.hn c6) (.int .i64 (i2:Int)) (.int .i64 b) (.slice oa (yf p xs xb n 3).length oc) (.int .i64 0);have nG:=zF.put6 wI (w.heap.size+1+1) (.slice a5 p.n c5) (.slice a6 p.hn c6) (.int .i64 (i2:Int)) (.int .i64 b) (.slice oa (yf p xs xb n 3).length oc) (.int .i64 0);have lL:T20+1<=wI.heap.size:=(by have:=iE.size;have:=sK;omega);go_wp2;rw[vF.out];exact bodyPost_ret (v:=.agg #[.slice a5 p.n c5,.slice a6 p.hn c6,.int .i64 (i2:Int),.int .i64 b,.slice oa (yf p xs xb n 3).length oc,.int .i64 0]) (by simp[results,Tryz.results29,go_sem,aA.1.1,aA.2.1.1,aA.2.2.1.1,aA.2.2.2.1.1,aA.2.2.2.2.1.1,aA.2.2.2.2.2.1]) rfl ⟨_,_,_,w3.heap.size,T20,rfl,by omega,Nat.le_trans (show T20<=wI.heap.size by omega) nG.size,fK.out.zRf nG (by intro k hk;omega),((((((lI.out.put (by omega) _).put (by omega) _).put (by omega) _).put (by omega) _).put (by omega) _).put (by omega) _).mono (by omega),fun k hk=>Or.inr (by have:=(lI.out.lt hk).1;omega),iE.trans (nG.zRX (B:=w.heap.size) iE.size (by intro k hk;omega))⟩
     ·have dH:Hid (¬(zCH (n:Int)/\d.size=16)):=fun h=>lA h.2
      have dK:((d.size:Int) != 16)=true:=(by simp;omega);clear lA;go_wp2_with (first | (go_at_call 80;refine(zDO _ _).mono ?_;rintro e w9 ⟨⟨t2,rfl,dB⟩,rfl⟩;obtain rfl:t2=true:=dB.2 oB.out;clear dB) | fail);obtain⟨⟨r0,r1⟩,⟨r2,r3⟩,⟨r4,r5⟩,⟨r6,r7⟩,⟨r8,r9⟩,⟨pA,sA⟩⟩:=tA.out
      try go_wp2
      have aA:=tA.out.put (.slice none 0 0) (.slice none 0 0) (.int .i64 0) (.int .i64 0) (.slice none 0 0) (.int .i64 8);have gA:=zAm (R:=w.heap.size+1+1) (c:=8) (by omega) sB;rw[zB7 nB.out vB.out dH.out];exact bodyPost_ret (v:=.agg #[.slice none 0 0,.slice none 0 0,.int .i64 0,.int .i64 0,.slice none 0 0,.int .i64 8]) (by simp[results,Tryz.results29,go_sem,aA.1.1,aA.2.1.1,aA.2.2.1.1,aA.2.2.2.1.1,aA.2.2.2.2.1.1,aA.2.2.2.2.2.1]) rfl gA
    ·have oB:=zE hN;clear hN;go_wp2_with (first | (go_at_call 80;refine(zDO _ _).mono ?_;rintro e w9 ⟨⟨t2,rfl,dB⟩,rfl⟩;obtain rfl:t2=false:=zQ dB oB.out;clear dB) | fail);obtain⟨⟨r0,r1⟩,⟨r2,r3⟩,⟨r4,r5⟩,⟨r6,r7⟩,⟨r8,r9⟩,⟨pA,sA⟩⟩:=tA.out
     try go_wp2
     have aA:=tA.out.put (.slice none 0 0) (.slice none 0 0) (.int .i64 0) (.int .i64 0) (.slice none 0 0) (.int .i64 8);have gA:=zAm (R:=w.heap.size+1+1) (c:=8) (by omega) sB;rw[zB7 nB.out vB.out (fun h=>oB.out h.1)];exact bodyPost_ret (v:=.agg #[.slice none 0 0,.slice none 0 0,.int .i64 0,.int .i64 0,.slice none 0 0,.int .i64 8]) (by simp[results,Tryz.results29,go_sem,aA.1.1,aA.2.1.1,aA.2.2.1.1,aA.2.2.2.1.1,aA.2.2.2.2.1.1,aA.2.2.2.2.2.1]) rfl gA
   ·have bK:=zE pB;obtain rfl:t=false:=zQ ht pB;clear ht pB;obtain⟨⟨r0,r1⟩,⟨r2,r3⟩,⟨r4,r5⟩,⟨r6,r7⟩,⟨r8,r9⟩,⟨pA,sA⟩⟩:=tA.out
    try go_wp2
    have aA:=tA.out.put (.slice none 0 0) (.slice none 0 0) (.int .i64 0) (.int .i64 0) (.slice none 0 0) (.int .i64 1);have gA:=zAm (R:=w.heap.size+1+1) (c:=1) (by omega) sB;rw[zCt nB.out (fun h=>bK.out h.2)];exact bodyPost_ret (v:=.agg #[.slice none 0 0,.slice none 0 0,.int .i64 0,.int .i64 0,.slice none 0 0,.int .i64 1]) (by simp[results,Tryz.results29,go_sem,aA.1.1,aA.2.1.1,aA.2.2.1.1,aA.2.2.2.1.1,aA.2.2.2.2.1.1,aA.2.2.2.2.2.1]) rfl gA
  ·have fA:=zE rB;obtain rfl:t=false:=zQ ht rB;clear ht rB;obtain⟨⟨r0,r1⟩,⟨r2,r3⟩,⟨r4,r5⟩,⟨r6,r7⟩,⟨r8,r9⟩,⟨pA,sA⟩⟩:=jD.out
   try go_wp2
   have aA:=jD.out.put (.slice none 0 0) (.slice none 0 0) (.int .i64 0) (.int .i64 0) (.slice none 0 0) (.int .i64 1);have gA:=zAm (R:=w.heap.size+1+1) (c:=1) (by omega) gD;rw[zCt nB.out (fun h=>fA.out h.1)];exact bodyPost_ret (v:=.agg #[.slice none 0 0,.slice none 0 0,.int .i64 0,.int .i64 0,.slice none 0 0,.int .i64 1]) (by simp[results,Tryz.results29,go_sem,aA.1.1,aA.2.1.1,aA.2.2.1.1,aA.2.2.2.1.1,aA.2.2.2.2.1.1,aA.2.2.2.2.2.1]) rfl gA
theorem zEh{p:zI}(hR:zx p){i:Nat}(h:qz p.n p.s i):¬Has p.hn p.h (i:Int):=by
 rintro⟨j,hj,e⟩;have h3:=(hR.2.2 j hj).2.2.1;rw[e,Int.toNat_natCast]at h3;exact h3 h.2.1
theorem zJv{p:zI}{i:Nat}{s:zL}(hR:zx p)(h:qz p.n p.s i)(hs:zAg p s)(hk:s.kn=0):zBo (yF p i s) (i:Int) s.zRi:=
 ⟨zDx h hs.1.1,by rw[Int.toNat_natCast,zCB];exact hk,zEh hR h⟩
theorem zJO{p:zI}{i:Nat}{s:zL}(hR:zx p)(h:qz p.n p.s i)(hs:zAg p s)(hk:0<s.kn):zAi (yF p i s) (i:Int) s.zRi:=
 ⟨zDx h hs.1.1,by rw[Int.toNat_natCast,zCB];exact hk,zEh hR h⟩
theorem zIM{p q:zI}(h:Ext p q){i:Nat}(hi:qz q.n q.s i):zL8 p (i:Int):=by
 unfold zL8;rw[Int.toNat_natCast];exact h.free hi.2.1
theorem zN9{p:zI}{xs xb b:Int}{n:Nat}{d:ByteArray}{i0 i1 i2:Nat}(hT:qp p xs xb)(hn:n<64)(hB:yB xb b)(hd:d.size=16)(h0:qz p.n p.s i0)(h1:qz p.n (qh p b d i0).s i1)(h2:qz p.n (zAa p xs xb n b d i0 i1).s i2) :
  New p xs xb n b (zG5 p xs xb n b d i0 i1 i2) (i2:Int) b (i1:Int) b (i0:Int) b:=by
 have e1:Ext p (qh p b d i0):=Ext.set h0.2.1 _;have e2:Ext (qh p b d i0) (zAa p xs xb n b d i0 i1):=Ext.set h1.2.1 _;have e3:Ext (zAa p xs xb n b d i0 i1) (zG5 p xs xb n b d i0 i1 i2):=Ext.set h2.2.1 _;have r1:=zD6 (d:=d) hT hB hd h0;have r2:=zFb (n:=n) hT hn hB hd h0 h1;have f0:zAg p (qj b d):=zAe hB.1 hd;have f1:=zBc (n:=n) (d:=d) hT hn hB h0;have f2:=zEP (d:=d) hT hn hB h0 h1;have pg:zBo (qh p b d i0) (i0:Int) b:=zJv hT.1 h0 f0 rfl;have nd:zAi (zAa p xs xb n b d i0 i1) (i1:Int) b:=zJO (p:=qh p b d i0) r1 h1 f1 (by show 0<8;omega);have rt:zAi (zG5 p xs xb n b d i0 i1 i2) (i2:Int) b:=zJO (p:=zAa p xs xb n b d i0 i1) r2 h2 f2 (by show 0<8;omega);have ns:(zAa p xs xb n b d i0 i1).s (i1:Int).toNat=zAk (zBT p xs xb n 1 (i0:Int)) (zBR p xs xb n 1 b) b:=by rw[Int.toNat_natCast];exact zCB _ _ _
 refine⟨(e1.trans e2).trans e3,zGV (p:=zAa p xs xb n b d i0 i1) r2 h2 f2,Or.inr ⟨e3.zRj (e2.zRj pg),zIM (Ext.refl p) h0⟩,Or.inr ⟨e3.node nd,zIM e1 h1,?_,zD1 hn hB.1.1⟩,Or.inr ⟨rt,zIM (e1.trans e2) h2,?_,zD1 hn hB.1.1⟩⟩
 ·rw[e3.at nd.1];exact ns
 ·rw[Int.toNat_natCast];exact zCB _ _ _
theorem zMg{p:zI}{xs xb b:Int}{n:Nat}{d:ByteArray}{i0 i1 i2:Nat}(hT:qp p xs xb)(hn:n<64)(hB:yB xb b)(hd:d.size=16)(h0:qz p.n p.s i0)(h1:qz p.n (qh p b d i0).s i1)(h2:qz p.n (zAa p xs xb n b d i0 i1).s i2) :
  ((zG5 p xs xb n b d i0 i1 i2).s (i0:Int).toNat).data=d:=by
 have e2:Ext (qh p b d i0) (zAa p xs xb n b d i0 i1):=Ext.set h1.2.1 _;have e3:Ext (zAa p xs xb n b d i0 i1) (zG5 p xs xb n b d i0 i1 i2):=Ext.set h2.2.1 _;have f0:zAg p (qj b d):=zAe hB.1 hd;have pg:zBo (qh p b d i0) (i0:Int) b:=zJv hT.1 h0 f0 rfl;rw[(e2.trans e3).at pg.1,Int.toNat_natCast,show(qh p b d i0).s i0=qj b d from zCB _ _ _];rfl
theorem zOO{p:zI}{xs xb zRj b:Int}{d:ByteArray}(hc:(qo p xs xb zRj d b).code=0) :
  qp p xs xb/\∃n:Nat,n<64/\zRj=(n:Int)/\d.size=16/\(qo p xs xb zRj d b).old=yf p xs xb n 3/\∃ms mb gs gb,New p xs xb n b (qo p xs xb zRj d b).zRd (qo p xs xb zRj d b).rs (qo p xs xb zRj d b).rb ms mb gs gb/\¬Nil gs gb/\((qo p xs xb zRj d b).zRd.s gs.toNat).data=d:=by
 by_cases h0:8000<d.size
 ·rw[zFR h0]at hc;exact absurd hc (by decide)
 by_cases h1:qp p xs xb/\yB xb b
 ·by_cases h2:zCH zRj/\d.size=16
  ·obtain⟨n,rfl⟩:=Int.eq_ofNat_of_zero_le h2.1.1;have hn:n<64:=(by have:=h2.1.2;omega);by_cases hr:roomN p.s p.n<3
   ·rw[zHl h1.1 hn h1.2 h2.2 hr]at hc;exact absurd hc (by decide)
   ·obtain⟨i0,q0⟩:=zAW (f:=p.s) (n:=p.n) (by omega);have l0:roomN (qh p b d i0).s p.n+1=roomN p.s p.n:=zCY (s:=qj b d) q0 (zAe h1.2.1 h2.2);obtain⟨i1,q1⟩:=zAW (f:=(qh p b d i0).s) (n:=p.n) (by omega);have l1:roomN (zAa p xs xb n b d i0 i1).s p.n+1=roomN (qh p b d i0).s p.n:=zCY (p:=qh p b d i0) q1 (zBc h1.1 hn h1.2 q0);obtain⟨i2,q2⟩:=zAW (f:=(zAa p xs xb n b d i0 i1).s) (n:=p.n) (by omega);rw[zLe h1.1 hn h1.2 h2.2 q0 q1 q2];refine⟨h1.1,n,hn,rfl,h2.2,rfl,(i1:Int),b,(i0:Int),b,zN9 h1.1 hn h1.2 h2.2 q0 q1 q2,fun hx=>?_,zMg h1.1 hn h1.2 h2.2 q0 q1 q2⟩;have:=h1.2.1.1;have:=hx.2;omega
  ·rw[zB7 h0 h1 h2]at hc;exact absurd hc (by decide)
 ·rw[zCt h0 h1]at hc;exact absurd hc (by decide)
theorem zPB(p:zI)(xs xb:Int)(n:Nat)(b:Int)(o:zD0):qC (zBi p xs xb n b o).zRd<=qC o.zRd+16/\(zBi p xs xb n b o).old.length<=3:=by
 have h2:=zGk p xs xb n b o 2;have h3:(yf p xs xb n 3).length<=3:=zBE _ _ 3;unfold zBi;split
 ·exact⟨Nat.zero_le _,Nat.zero_le _⟩
 ·split
  ·exact⟨Nat.zero_le _,Nat.zero_le _⟩
  ·exact⟨by show qC (layS p xs xb n b o 2).zRd<=_;omega,h3⟩
theorem zHE(p:zI)(xs xb zRj:Int)(d:ByteArray)(b:Int):qC (qo p xs xb zRj d b).zRd<=qC p+40/\(qo p xs xb zRj d b).old.length<=3:=by
 unfold qo;split
 ·exact⟨Nat.zero_le _,Nat.zero_le _⟩
 ·split
  ·split
   ·rename_i hd
    split
    ·have h1:=zPB p xs xb zRj.toNat b ⟨(qx p (qj b d)).zRd,(qx p (qj b d)).ps,(qx p (qj b d)).pb,0⟩;have h2:=zFO p (qj b d);have h3:zAN (qj b d)=16:=(by show 0+d.size=16;rw[hd.2]);exact⟨by have h4:=h1.1;simp only at h4;omega,h1.2⟩
    ·exact⟨Nat.zero_le _,Nat.zero_le _⟩
   ·exact⟨Nat.zero_le _,Nat.zero_le _⟩
  ·exact⟨Nat.zero_le _,Nat.zero_le _⟩
def zFZ(c:Int):Prop:=c=0\/∃i,i<7/\c=zBb i
theorem zJQ(p:zI)(s:zL):zFZ (qx p s).code:=by
 unfold qx;split
 ·split
  ·exact Or.inl rfl
  ·exact Or.inr ⟨4,by omega,rfl⟩
 ·exact Or.inr ⟨0,by omega,rfl⟩
theorem zJh(p:zI)(xs xb:Int)(n:Nat)(b:Int)(o:zD0)(h:zFZ o.code)(L:Nat):zFZ (layS p xs xb n b o L).code:=by
 cases L with
 | zero=>exact h
 | succ L=>
  unfold layS;unfold zNl zFJ;split
  ·exact Or.inl rfl
  ·exact zJQ _ _
theorem zOg(p:zI)(xs xb:Int)(n:Nat)(b:Int)(o:zD0)(h:zFZ o.code):zFZ (zBi p xs xb n b o).code:=by
 unfold zBi;split
 ·exact zJh p xs xb n b o h 1
 ·split
  ·exact zJh p xs xb n b o h 2
  ·exact Or.inl rfl
theorem zNN(p:zI)(xs xb zRj:Int)(d:ByteArray)(b:Int):zFZ (qo p xs xb zRj d b).code:=by
 unfold qo;split
 ·exact Or.inr ⟨1,by omega,rfl⟩
 ·split
  ·split
   ·split
    ·exact zOg _ _ _ _ _ _ (Or.inl rfl)
    ·exact zJQ _ _
   ·exact Or.inr ⟨6,by omega,rfl⟩
  ·exact Or.inr ⟨0,by omega,rfl⟩
theorem zOU{l:List (Int×Int)}(h:l.Nodup)(hi:∀x,x∈l->∀y,y∈l->x.1=y.1->x=y):(l.map Prod.fst).Nodup:=by
 unfold List.Nodup at h ⊢;rw[List.pairwise_map];exact h.imp_of_mem (fun {a b} ha hb aA e=>aA (hi a ha b hb e))
theorem New.hold{p q:zI}{xs xb b ys yb ms mb gs gb:Int}{n:Nat}(h:New p xs xb n b q ys yb ms mb gs gb)(hT:qp p xs xb)(hn:n<64):yU q (yf p xs xb n 3):=by
 have hk:=yU.tree hT.1 hT.2;refine⟨h.right,fun x hx=>?_,zOU (zN8 hT hn) (fun x hx y hy e=>?_)⟩
 ·obtain⟨h1,h2⟩:=hk.2.1 x (zNP hT hn hx);exact⟨h.ext.points h1,fun hh=>h2 ((h.ext.has x.1).1 hh)⟩
 ·have h1:=(hk.2.1 x (zNP hT hn hx)).1.2.2.2;have h2:=(hk.2.1 y (zNP hT hn hy)).1.2.2.2;have e2:x.2=y.2:=(by rw[<-h1,<-h2,e]);exact Prod.ext e e2
def zG6(y:zCO):Prop:=zFZ y.code/\y.old.length<=3/\(y.code=0->yU y.zRd y.old)
theorem zFd(p:zI)(xs xb zRj:Int)(d:ByteArray)(b:Int):zG6 (qo p xs xb zRj d b):=⟨zNN _ _ _ _ _ _,(zHE _ _ _ _ _ _).2,fun hc=>by
 obtain⟨hT,n,hn,-,-,ho,ms,mb,gs,gb,hN,-,-⟩:=zOO hc;rw[ho];exact hN.hold hT hn⟩
noncomputable def zE3(W:zH)(k:Nat)(y:zCO):List (Int×Int):=qY (zf y.old) (zh y.old) (zN W (W.zRg k).zRh).time y.old.length
noncomputable def zPT(W:zH)(k:Nat)(y:zCO):List (Int×Int):=zBx (zf y.old) (zh y.old) (zN W (W.zRg k).zRh).time y.old.length
noncomputable def zDy(W:zH)(k:Nat)(y:zCO):List (Int×Int):=zBL (W.zRg k).dn (W.zRg k).ds (W.zRg k).db ++ zPT W k y
noncomputable def zBW(W:zH)(k:Nat)(y:zCO):qD:={W.zRg k with rs:=y.rs,rb:=y.rb,dn:=(zDy W k y).length,ds:=zf (zDy W k y),db:=zh (zDy W k y)}
noncomputable def zML(W:zH)(k:Nat)(y:zCO):zH:={W with zRd:=zv y.zRd (zE3 W k y),zRg:=fun j=>if j=k then zBW W k y else W.zRg j}
open Classical in
noncomputable def zBB(W:zH)(k:Nat)(y:zCO):zB9:=if y.code=0 then⟨zML W k y,0,((zE3 W k y).length:Int),0⟩else zBz y.code
theorem zPo{W:zH}{k:Nat}{y:zCO}(h:zG6 y)(hc:y.code=0):yU y.zRd (zE3 W k y):=by
 refine(h.2.2 hc).sub ?_;have:=zGW (zf y.old) (zh y.old) (zN W (W.zRg k).zRh).time y.old.length
 rwa [zN2]at this
theorem zGr(v0 v1:Value)(lo hi:Nat)(p:zI)(xs xb:Int)(w:World)(h1:zu w lo hi v0 v1 p)(hn:qC p<=1048576) :
    Calls Tryz.prog 153 #[.agg #[v0,v1],.agg #[.int .i64 xs,.int .i64 xb]] w (zM1 (zHz p xs xb) w):=by
  have Hp:=zT h1;obtain⟨a,c,a',c',rfl,rfl⟩:=h1.form;have Hn:=zT hn;have mC:p.hn<=1048576:=(by unfold qC at hn;omega);have eC:p.n<=1048576:=(by unfold qC at hn;omega);have pB:Hid (∀j,j<p.n->(p.s j).kn<=1048576):=fun j hj=>by have h2:=zFx p.s hj;unfold zAN at h2;unfold qC at hn;omega
  have nC:p.hn<=c':=(by obtain⟨_,⟨_,_,_,e,h,_⟩⟩:=h1;simp only[Value.slice.injEq,true_and]at e;omega);have lB:=zQw w (.slice a p.n c) (.slice a' p.hn c') (.int .i64 xs) (.int .i64 xb) 33 61 151;obtain⟨i0,mB,iB⟩:=Option.map_eq_some_iff.1 zDQ;simp only[Prod.mk.injEq]at iB;have HI:=zT (And.intro mB iB);clear h1 hn mB iB;go_enter Tryz.func153,Tryz.ntmps153;go_wp2_with fail;generalize ((w.alloc (.cells #[.slice a p.n c,.slice a' p.hn c'] 33)).alloc (.cells #[.int .i64 xs,.int .i64 xb] 61)).alloc (.cells #[.slice none 0 0,.slice none 0 0,.int .i64 0,.int .i64 0,.int .i64 0] 151)=W at lB ⊢;obtain⟨hB,hX,hR,gB,hz⟩:=lB;refine(zAA _ _ lo hi p _ (Hp.out.zRX gB)).mono ?_;rintro e w1 ⟨⟨t,rfl,ht⟩,rA⟩;have jB:=zT (hB.zRX rA);have eB:=zT (hX.zRX rA);have dB:=zT (hR.zRX rA);have cB:=zA gB rA;have rB:w.heap.size+3<=w1.heap.size:=(by have:=rA.size;omega);clear hB hX hR gB rA hz;by_cases mA:zx p
  · have nA:=zT mA
    obtain rfl:t=true:=ht.2 mA;clear ht mA;obtain⟨⟨x0,x1⟩,⟨x2,x3⟩⟩:=jB.out;obtain⟨⟨y0,y1⟩,⟨y2,y3⟩⟩:=eB.out;go_wp2_with fail;refine(zEp _ p.n lo hi p.s _ _ _ (Hp.out.1.zRX cB)).mono ?_;rintro e w2 ⟨⟨t,rfl,ht⟩,oA⟩;rw[zEs nA.out]at ht;have sA:=zT (jB.out.zRX oA);have bB:=zT (eB.out.zRX oA);have jA:=zT (dB.out.zRX oA);have kA:=zA cB oA;have lC:w.heap.size+3<=w2.heap.size:=(by have:=oA.size;omega);clear oA cB jB eB dB rB x0 x1 x2 x3 y0 y1 y2 y3;by_cases hP:zr p xs xb
    · have HP:=zT hP
      obtain rfl:t=true:=ht.2 hP;clear ht hP;obtain⟨⟨x0,x1⟩,⟨x2,x3⟩⟩:=sA.out;obtain⟨⟨y0,y1⟩,⟨y2,y3⟩⟩:=bB.out;go_wp2_with fail;refine(zCW _ p.hn lo hi p.h _ _ (Hp.out.2.zRX kA)).mono ?_;rintro e w3 ⟨⟨t,rfl,ht⟩,nB⟩;subst nB;by_cases hH:Has p.hn p.h xs
      · have HH:=zT hH
        obtain rfl:t=true:=ht.2 hH;clear ht hH;obtain⟨⟨u0,u1⟩,⟨u2,u3⟩,⟨u4,u5⟩,⟨u6,u7⟩,⟨u8,u9⟩⟩:=jA.out;go_wp2;have fA:=jA.out.put (.slice none 0 0) (.slice none 0 0) (.int .i64 0) (.int .i64 0) (.int .i64 4);have gA:=zCw (R:=w.heap.size+1+1) (u2:=.int .i64 0) (u3:=.int .i64 0) (u4:=.int .i64 4) (by omega) kA;rw[zJa nA.out (fun h=>h.2 HH.out)];exact bodyPost_ret (v:=.agg #[.slice none 0 0,.slice none 0 0,.int .i64 0,.int .i64 0,.int .i64 4]) (by simp[results,Tryz.results153,go_sem,fA.1.1,fA.2.1.1,fA.2.2.1.1,fA.2.2.2.1.1,fA.2.2.2.2.1]) rfl ⟨_,_,rfl,gA.1,gA.2⟩
      · have HH:=zT hH
        obtain rfl:t=false:=zQ ht hH;clear ht hH;obtain⟨⟨u0,u1⟩,⟨u2,u3⟩,⟨u4,u5⟩,⟨u6,u7⟩,⟨u8,u9⟩⟩:=jA.out;have jC:(p.hn:Int)<=(c':Int):=(by omega);have n0:w.heap.size+1+1≠w.heap.size:=(by omega);have n1:w.heap.size+1+1≠w.heap.size+1:=(by omega);go_wp2_with fail;go_region_held3 (fun w'=>w'.cell? ⟨w.heap.size,0,none⟩=some (.slice a p.n c)/\w'.cell? ⟨w.heap.size,1,none⟩=some (.slice a' p.hn c')/\w'.cell? ⟨w.heap.size+1,0,none⟩=some (.int .i64 xs)) (go_keep)
          (first
            | (go_at_call 193;refine(zEa _ p.n lo hi p.s _ ?_ eC pB.out).mono ?_;(first | exact Hp.out.1.zRX kA.drew | exact Hp.out.1.zRX (zA kA (zC _ _)).drew);rintro e w5 ⟨v5,bs,kb,kv,rfl,fB,tA,lA,aB⟩;obtain⟨_,sa,kB,rfl,_⟩:=id fB;(first | (have cC:w5.cell? ⟨w3.heap.size,0,none⟩=some (.int .i64 xs):=((zJ (i:=0) (v:=.int .i64 xs) (heap_alloc_new w3 (.cells #[.int .i64 xs] 2)) rfl).zRX (zK aB)).1) | skip);have dA:Below w3.heap.size w3 w5:=(by first | exact zK aB | exact zA (zC _ _) (zK aB));have iA:∀k,yi bs kb p.n p.s k->w3.heap.size<=k/\k<w5.heap.size:=(by first | exact lA | exact fun k hk=>(by have:=lA k hk;simp at this;omega));have z0:=(sA.out.zRX dA).1.1;have z1:=(sA.out.zRX dA).2.1;have z2:=(bB.out.zRX dA).1.1)
            | (refine step_append_grows rfl (.tmp 33) (.tmp 36) 23 rfl 2 i0 (.int .i64 0) 1 8 (by kernel_rfl) HI.out.1 HI.out.2.1 HI.out.2.2.1 HI.out.2.2.2 rfl (by decide) a' p.hn p.hn (ic p.h p.hn) (by simp[Act.eval]) (zLf Hp.out.2) (zBu _ _) (zNb Hp.out.2 (zA kA (zA dA (zC w5 _)))) ⟨w5.heap.size,0,none⟩ 1 1 [.int .i64 xs] (by simp[Act.eval]) rfl (zRH _ _ _) (zQS _) (by omega) (by unfold maxLen;omega) (by omega) ?_
               intro v6 w6 aA bA;obtain⟨a6,c6,rfl,_⟩:=zY aA;have pA:Below w5.heap.size w5 w6:=zA (zC w5 _) (zCu bA);have eA:w6.ownsRow w5.heap.size 2 1 (.slice a6 (p.hn+1) c6) (p.hn+1) (ic p.h p.hn ++ [.int .i64 xs]):=zEJ aA (by simp);have cA:=zA dA pA;obtain⟨⟨p0,p1⟩,⟨p2,p3⟩⟩:=sA.out.zRX cA;obtain⟨⟨p4,p5⟩,⟨p6,p7⟩⟩:=bB.out.zRX cA;obtain⟨⟨p8,p9⟩,⟨vB,bC⟩,⟨fC,kC⟩,⟨dC,iC⟩,⟨oB,gC⟩⟩:=jA.out.zRX cA;clear aA bA)
            | (refine step_append_grows rfl (.tmp 33) (.tmp 36) 23 rfl 2 i0 (.int .i64 0) 1 8 (by kernel_rfl) HI.out.1 HI.out.2.1 HI.out.2.2.1 HI.out.2.2.2 rfl (by decide) a' p.hn p.hn (ic p.h p.hn) (by simp[Act.eval]) (zLf Hp.out.2) (zBu _ _) (zNb Hp.out.2 (zA kA dA)) ⟨w3.heap.size,0,none⟩ 1 1 [.int .i64 xs] (by simp[Act.eval]) rfl (zFk cC) (zQS _) (by omega) (by unfold maxLen;omega) (by omega) ?_
               intro v6 w6 aA bA;obtain⟨a6,c6,rfl,_⟩:=zY aA;have pA:Below w5.heap.size w5 w6:=zCu bA;have eA:w6.ownsRow w5.heap.size 2 1 (.slice a6 (p.hn+1) c6) (p.hn+1) (ic p.h p.hn ++ [.int .i64 xs]):=zEJ aA (by simp);have cA:=zA dA pA;obtain⟨⟨p0,p1⟩,⟨p2,p3⟩⟩:=sA.out.zRX cA;obtain⟨⟨p4,p5⟩,⟨p6,p7⟩⟩:=bB.out.zRX cA;obtain⟨⟨p8,p9⟩,⟨vB,bC⟩,⟨fC,kC⟩,⟨dC,iC⟩,⟨oB,gC⟩⟩:=jA.out.zRX cA;clear aA bA))
        all_goals
          have aC:=zT (zJk (p:=zAM p xs) (B:=w3.heap.size) (M:=w3.heap.size) (fB.zRX pA) tA (fun k hk=>by have:=iA k hk;have:=pA.size;omega) (by show p.hn+1<=maxLen;unfold maxLen;omega) (by rw[<-zNR]at eA;exact eA) (fun k e=>by
            have h1:=eA.lt k e;refine⟨by have:=dA.size;omega,Or.inr (Or.inr ⟨h1.2,fun hx=>?_⟩)⟩;have:=iA k hx;omega) (Nat.le_refl _) (fun e=>absurd e (Nat.succ_ne_zero _)))
          have sB:=zT (jA.out.zRX cA);have tB:=zA kA cA;clear fB tA lA iA aB dA pA cA eA;go_wp2;have vA:=sB.out.put (.slice sa p.n kB) (.slice a6 (p.hn+1) c6) (.int .i64 0) (.int .i64 0) (.int .i64 0);have gA:=zHU (R:=w.heap.size+1+1) (u2:=.int .i64 0) (u3:=.int .i64 0) (u4:=.int .i64 0) aC.out (by omega) (by omega) (Nat.le_refl _) tB;rw[zNn nA.out HP.out HH.out];exact bodyPost_ret (v:=.agg #[.slice sa p.n kB,.slice a6 (p.hn+1) c6,.int .i64 0,.int .i64 0,.int .i64 0]) (by simp[results,Tryz.results153,go_sem,vA.1.1,vA.2.1.1,vA.2.2.1.1,vA.2.2.2.1.1,vA.2.2.2.2.1]) rfl ⟨_,_,rfl,gA.1,gA.2⟩
    · have HP:=zT hP
      obtain rfl:t=false:=zQ ht hP;clear ht hP;obtain⟨⟨u0,u1⟩,⟨u2,u3⟩,⟨u4,u5⟩,⟨u6,u7⟩,⟨u8,u9⟩⟩:=jA.out;go_wp2;have fA:=jA.out.put (.slice none 0 0) (.slice none 0 0) (.int .i64 0) (.int .i64 0) (.int .i64 4);have gA:=zCw (R:=w.heap.size+1+1) (u2:=.int .i64 0) (u3:=.int .i64 0) (u4:=.int .i64 4) (by omega) kA;rw[zJa nA.out (fun h=>HP.out h.1)];exact bodyPost_ret (v:=.agg #[.slice none 0 0,.slice none 0 0,.int .i64 0,.int .i64 0,.int .i64 4]) (by simp[results,Tryz.results153,go_sem,fA.1.1,fA.2.1.1,fA.2.2.1.1,fA.2.2.2.1.1,fA.2.2.2.2.1]) rfl ⟨_,_,rfl,gA.1,gA.2⟩
  · have nA:=zT mA
    obtain rfl:t=false:=zQ ht mA;clear ht mA;obtain⟨⟨u0,u1⟩,⟨u2,u3⟩,⟨u4,u5⟩,⟨u6,u7⟩,⟨u8,u9⟩⟩:=dB.out;go_wp2;have fA:=dB.out.put (.slice none 0 0) (.slice none 0 0) (.int .i64 0) (.int .i64 0) (.int .i64 1);have gA:=zCw (R:=w.heap.size+1+1) (u2:=.int .i64 0) (u3:=.int .i64 0) (u4:=.int .i64 1) (by omega) cB;rw[zNy nA.out];exact bodyPost_ret (v:=.agg #[.slice none 0 0,.slice none 0 0,.int .i64 0,.int .i64 0,.int .i64 1]) (by simp[results,Tryz.results153,go_sem,fA.1.1,fA.2.1.1,fA.2.2.1.1,fA.2.2.2.1.1,fA.2.2.2.2.1]) rfl ⟨_,_,rfl,gA.1,gA.2⟩
theorem zOV(v0 v1:Value)(a b c:Int)(w:World):(Instr.field 151 (.agg #[v0,v1,.int .i64 a,.int .i64 b,.int .i64 c]) 0).run Tryz.prog w = .ok (.agg #[v0,v1]) w:=by kernel_rfl
theorem zMa(C lo hi:Nat)(z0 z1 z2 z3 u8:Value)(tm nx id m:Int)(p q:zI)(x:Int×Int)(w:World)(hC:yj w C z0 z1 (.int .i64 tm) (.int .i64 nx) z2 z3 (.int .i64 id) (.int .i64 m) u8)(hP:zu w lo hi z0 z1 p)(hn:qC p<=1048576)(hh:zHz p x.1 x.2=⟨q,0,0,0⟩)(hm:0<=m)(fB:m<=1000000) :
  Calls Tryz.prog 96 #[.pointer (some ⟨C,0,none⟩),.agg #[.int .i64 x.1,.int .i64 x.2]] w fun e w'=>(∃v,e = .returned v)/\∃y0 y1,yj w' C y0 y1 (.int .i64 tm) (.int .i64 nx) z2 z3 (.int .i64 id) (.int .i64 (m+1)) u8/\zy w' w.heap.size w'.heap.size y0 y1 q/\zF (fun j=>j=C) w w':=by
 obtain⟨a0,c0,a1,c1,rfl,rfl⟩:=hP.form;have lB:=hC.1.lt;have gA:=zC w (.cells #[.int .i64 x.1,.int .i64 x.2] 61);have HX:=zB (zc.zRZ w (.int .i64 x.1) (.int .i64 x.2) 61);have HC:=zB (hC.zRX gA);have jB:IntKind.i64.wrap (m+1)=m+1:=by first | exact wrap_small (by omega) (by omega) | exact wrap_small _ (by omega) (by omega)
 have bB:(w.alloc (.cells #[.int .i64 x.1,.int .i64 x.2] 61)).heap.size=w.heap.size+1:=World.size_alloc _ _;have cA:=zB (show ∀w',Below (w.alloc (.cells #[.int .i64 x.1,.int .i64 x.2] 61)).heap.size (w.alloc (.cells #[.int .i64 x.1,.int .i64 x.2] 61)) w'->Calls Tryz.prog 153 #[.agg #[.slice a0 p.n c0,.slice a1 p.hn c1],.agg #[.int .i64 x.1,.int .i64 x.2]] w' fun e jA=>∃b0 d0 b1 d1,e = .returned (.agg #[.slice b0 q.n d0,.slice b1 q.hn d1,.int .i64 0,.int .i64 0,.int .i64 0])/\zy jA w'.heap.size jA.heap.size (.slice b0 q.n d0) (.slice b1 q.hn d1) q/\Below w'.heap.size w' jA from fun w' aB=>by
  refine(zGr _ _ lo hi p x.1 x.2 w' ((hP.zRX gA).zRX aB) hn).mono ?_;rw[hh];rintro e w2 ⟨y0,y1,rfl,ho,vA⟩;obtain⟨b0,d0,b1,d1,rfl,rfl⟩:=ho.at.form;exact⟨b0,d0,b1,d1,rfl,ho,vA⟩)
 clear hP hh hC hn;go_enter Tryz.func96,Tryz.ntmps96;go_wp2_with fail;generalize w.alloc (.cells #[.int .i64 x.1,.int .i64 x.2] 61)=w1 at gA HX HC bB cA ⊢;have eA:Below w1.heap.size w1 w1.drew:=(Below.refl _ _).drew;have lA:=zB (show ∀w',Below w1.drew.heap.size w1.drew w'->(fun w':World=>w'.cell? ⟨w.heap.size,0,none⟩=some (.int .i64 x.1)/\w'.cell? ⟨w.heap.size,1,none⟩=some (.int .i64 x.2)) w' from fun w' hb=>by
  have h:=(HX.out.zRX eA).zRX hb;exact⟨h.1.1,h.2.1⟩)
 obtain⟨⟨x0,-⟩,⟨x1,-⟩,-⟩:=HC.out.zRX eA;refine wp_region_held_drew (S:=(fun w':World=>w'.cell? ⟨w.heap.size,0,none⟩=some (.int .i64 x.1)/\w'.cell? ⟨w.heap.size,1,none⟩=some (.int .i64 x.2))) (by kernel_rfl) (lA.out _ (Below.refl _ _)) (fun hHeld=>?_);have fA:=eA;generalize w1.drew=q0 at hHeld lA x0 x1 eA fA ⊢;refine tk 0 (h:=tk 1 (h:=tk 2 (h:=tk 3 (h:=tk 4 (h:=tk 6 (h:=?_))))));refine rd [5] (rc (fun K hK=>?_) .nil);go_simp
 (try go_wp2_with fail)
 refine hK.out _ _ (lA.out _ (Below.refl _ _)) ?_;clear hK K;intro hHeld
 try simp only[Act.put,s1,s2,s3]
 refine rd [7] (rc (fun K hK=>?_) .nil);go_simp;go_at_call 153;refine(cA.out q0 fA).mono ?_;rintro e w3 ⟨b0,d0,b1,d1,rfl,pA,rA⟩;have oA:=zB pA;have dA:Below w1.heap.size w1 w3:=zA fA rA;have bA:=zB (HC.out.zRX dA);have iA:=zB (HX.out.zRX dA);clear pA
 (try go_wp2_with fail)
 refine hK.out _ _ ⟨iA.out.1.1,iA.out.2.1⟩ ?_;clear hK K hHeld;intro hHeld
 try simp only[Act.put,s1,s2,s3]
 have dB:=zOV (.slice b0 q.n d0) (.slice b1 q.hn d1) 0 0 0;refine tk 8 (h:=tk 9 (h:=tk 10 (h:=tk 11 (h:=?_))));refine rd [12] (rc (fun K hK=>?_) .nil);obtain⟨⟨t0,cB⟩,⟨t1,eB⟩,-⟩:=bA.out;go_simp
 (try go_wp2_with fail)
 have hT:=(zF.put w3 C 0 (.slice b0 q.n d0)).trans (zF.put (w3.setCell ⟨C,0,none⟩ (.slice b0 q.n d0)) C 1 (.slice b1 q.hn d1));have kA:=iA.out.zRf hT (fun h=>by omega);refine hK.out _ _ ⟨kA.1.1,kA.2.1⟩ ?_;clear hK K hHeld t0 cB t1 eB;intro hHeld
 try simp only[Act.put,s1,s2,s3]
 refine wpAnyH_done (by kernel_rfl) ?_ _;have aA:=zB (show yj ((w3.setCell ⟨C,0,none⟩ (.slice b0 q.n d0)).setCell ⟨C,1,none⟩ (.slice b1 q.hn d1)) C (.slice b0 q.n d0) (.slice b1 q.hn d1) (.int .i64 tm) (.int .i64 nx) z2 z3 (.int .i64 id) (.int .i64 m) u8 from⟨(bA.out.1.set _).zRY _ (Or.inr (by decide)),(bA.out.2.1.zRY _ (Or.inr (by decide))).set _,(bA.out.2.2.1.zRY _ (Or.inr (by decide))).zRY _ (Or.inr (by decide)),(bA.out.2.2.2.1.zRY _ (Or.inr (by decide))).zRY _ (Or.inr (by decide)),(bA.out.2.2.2.2.1.zRY _ (Or.inr (by decide))).zRY _ (Or.inr (by decide)),(bA.out.2.2.2.2.2.1.zRY _ (Or.inr (by decide))).zRY _ (Or.inr (by decide)),(bA.out.2.2.2.2.2.2.1.zRY _ (Or.inr (by decide))).zRY _ (Or.inr (by decide)),(bA.out.2.2.2.2.2.2.2.1.zRY _ (Or.inr (by decide))).zRY _ (Or.inr (by decide)),(bA.out.2.2.2.2.2.2.2.2.zRY _ (Or.inr (by decide))).zRY _ (Or.inr (by decide))⟩);have tA:Below w.heap.size w w3:=zA gA dA;have sA:=zB (show zF (fun j=>j=C) w ((w3.setCell ⟨C,0,none⟩ (.slice b0 q.n d0)).setCell ⟨C,1,none⟩ (.slice b1 q.hn d1))from(zF.zRa tA).trans hT);have gB:=rA.size;have kB:=fA.size;have nA:=zB ((oA.out.zRf hT (fun k e=>by omega)).zRc (show w.heap.size<=q0.heap.size by omega) hT.size);clear kA hT dB bA iA oA;generalize ((w3.setCell ⟨C,0,none⟩ (.slice b0 q.n d0)).setCell ⟨C,1,none⟩ (.slice b1 q.hn d1))=w4 at aA sA nA ⊢;obtain⟨y7,iB⟩:=aA.out.2.2.2.2.2.2.2.1;go_wp2_with fail;have mA:=zF.put w4 C 7 (.int .i64 (m+1));go_end0;refine⟨⟨_,rfl⟩,_,_,⟨aA.out.1.zRY _ (Or.inr (by decide)),aA.out.2.1.zRY _ (Or.inr (by decide)),aA.out.2.2.1.zRY _ (Or.inr (by decide)),aA.out.2.2.2.1.zRY _ (Or.inr (by decide)),aA.out.2.2.2.2.1.zRY _ (Or.inr (by decide)),aA.out.2.2.2.2.2.1.zRY _ (Or.inr (by decide)),aA.out.2.2.2.2.2.2.1.zRY _ (Or.inr (by decide)),aA.out.2.2.2.2.2.2.2.1.set _,aA.out.2.2.2.2.2.2.2.2.zRY _ (Or.inr (by decide))⟩,?_,sA.out.trans mA⟩;exact(nA.out.zRf mA (fun k e=>by omega)).zRc (Nat.le_refl _) mA.size
theorem zOl(C lo hi n:Nat)(P:Nat->Prop)(z0 z1 z2 z3 u8 v:Value)(tm nx id m t:Int)(p:zI)(f g:Nat->Int)(w:World)(hv:zU w lo hi v n f g)(jA:qm n f g)(ht:zCG t)(hH:yU p (qY f g t n))(hC:yj w C z0 z1 (.int .i64 tm) (.int .i64 nx) z2 z3 (.int .i64 id) (.int .i64 m) u8)(hP:qW w P z0 z1 p)(iB:∀k,P k->C<k/\k<w.heap.size)(hm:0<=m)(oB:m<=900000) :
  Calls Tryz.prog 94 #[v,.int .i64 t,.func (.func 96) #[.pointer (some ⟨C,0,none⟩)] #[]] w fun e w'=>∃vo y0 y1,e = .returned vo/\zw w' w.heap.size vo (zBx f g t n)/\yj w' C y0 y1 (.int .i64 tm) (.int .i64 nx) z2 z3 (.int .i64 id) (.int .i64 (m+((qY f g t n).length:Int))) u8/\qW w' (fun j=>P j\/(w.heap.size<=j/\j<w'.heap.size)) y0 y1 (zv p (qY f g t n))/\zF (fun j=>j=C) w w':=by
 have tB:=hC.1.lt;have nA:(qY f g t n).length<=200:=by have:=zCb f g t n;have:=jA.1;omega
 have HS:=zB (show Calls Tryz.prog 151 #[v,.int .i64 t] w fun e w'=>∃vy vo,e = .returned (.agg #[vy,vo])/\zDK (qY f g t n) (zBx f g t n) w w' vy vo by
  refine(zA4 v n lo hi f g t w hv).mono ?_;rintro e w1 ⟨vy,vo,l,l',rfl,hy,ho,hr⟩;rw[hy.1 ⟨jA,ht⟩,ho.1 ⟨jA,ht⟩]at hr;exact⟨vy,vo,rfl,hr⟩)
 have HC:=zB hC;have HP:=zB hP;have HH:=zB hH;obtain⟨-,av,cv,rfl,-,-⟩:=(show zU w lo hi v n f g from hv);clear hv jA ht hC hP hH;generalize qY f g t n=l at HS HH nA ⊢;generalize zBx f g t n=l' at HS ⊢;go_enter Tryz.func94,Tryz.ntmps94;go_wp2_with fail;refine HS.out.mono ?_;clear HS;rintro e w1 ⟨vy,vo,rfl,oA,lA,-,dB⟩;obtain⟨ay,cy,rfl,-⟩:=zY oA;obtain⟨ao,co,rfl,-⟩:=zY lA;obtain⟨bo,aA,fB⟩:=oA.own (by unfold maxLen;omega);have iA:=zC w1 (.cells #[.slice ay l.length cy,.slice ao l'.length co] 201);have HX:=zB (zc.zRZ w1 (.slice ay l.length cy) (.slice ao l'.length co) 201);have fA:=zA dB iA;have gB:=zB (HC.out.zRX fA);have rA:=zB (HP.out.zRX fA);have kA:=zB (zw.zRX lA iA);have bB:=zB (aA.zRX iA);have mB:=zB fB;have rB:=dB.size;have jB:(w1.alloc (.cells #[.slice ay l.length cy,.slice ao l'.length co] 201)).heap.size=w1.heap.size+1:=World.size_alloc _ _;obtain⟨⟨x0,-⟩,⟨x1,-⟩⟩:=HX.out;clear oA lA aA fB HC HP;go_wp2_with fail;clear x0 x1;generalize w1.alloc (.cells #[.slice ay l.length cy,.slice ao l'.length co] 201)=w2 at iA HX fA gB rA kA bB jB ⊢
 go_loopw [16] (fun i wr=>∃(k:Nat) (y0 y1:Value),k<=l.length/\i = .int .i64 k/\yj wr C y0 y1 (.int .i64 tm) (.int .i64 nx) z2 z3 (.int .i64 id) (.int .i64 (m+(k:Int))) u8/\qW wr (fun j=>P j\/(w.heap.size<=j/\j<wr.heap.size)) y0 y1 (zv p (l.take k))/\zF (fun j=>j=C) w2 wr) (fun i _=>l.length - (intOf i).toNat)
 case atStart=>exact⟨0,_,_,Nat.zero_le _,rfl,by simpa using gB.out,rA.out.mono (fun j h=>Or.inl h),zF.refl _ _⟩
 case round=>
  obtain⟨k,y0,y1,hk,rfl,tA,sA,gA⟩:=hrel;have pA:=zB tA;have mA:=zB sA;have cA:=zB gA;have sB:=gA.size;have hX:=HX.out.zRf gA (fun h=>by omega);obtain⟨⟨x0,-⟩,⟨x1,-⟩⟩:=hX;clear tA sA gA;by_cases eA:k<l.length
  ·have kB:(k:Int)<(l.length:Int):=(by omega);have aA:=bB.out.zRf cA.out (fun h0 e=>by
    obtain⟨_,h,_⟩:=mB.out h0;omega)
   obtain⟨_,a,c,e1,_,hx⟩:=aA;obtain⟨off,rfl,dA⟩:=hx (by omega);simp only[Value.slice.injEq,true_and]at e1;obtain⟨rfl,rfl⟩:=e1;obtain⟨⟨q0,-⟩,⟨q1,-⟩⟩:=dA k eA;have hn:=HH.out.next eA;have e0:l[k]=(zf l k,zh l k):=by
    unfold zf zh;rw[List.getD_eq_getElem?_getD,List.getElem?_eq_getElem eA];rfl
   rw[e0]at hn;have HN:=zB hn;clear hn e0 dA hx;have bA:=zC wr (.cells #[.int .i64 (zf l k),.int .i64 (zh l k)] 61);obtain⟨⟨r0,-⟩,⟨r1,-⟩⟩:=zc.zRZ wr (.int .i64 (zf l k)) (.int .i64 (zh l k)) 61;go_wp2_with fail;have pB:=bA.size;refine(zMa C 0 wr.heap.size y0 y1 z2 z3 u8 tm nx id (m+(k:Int)) (zv p (l.take k)) (zv p (l.take (k+1))) (zf l k,zh l k) _ (pA.out.zRX bA) (((mA.out.at (lo:=0) (hi:=wr.heap.size) (fun j h=>⟨Nat.zero_le _,by
    rcases h with h | h
    ·have:=iB j h;omega
    ·omega⟩))).zRX bA) (by have:=zEI HN.out.2;omega) HN.out.1 (by omega) (by omega)).mono ?_
   rintro e w4 ⟨⟨ve,rfl⟩,t0,t1,vA,aB,cB⟩;have lB:=zB vA;have nB:=zB aB;have eB:=zB cB;clear r0 r1 q0 q1 x0 x1 vA aB cB;go_wp2_with fail;go_roundw
   case rel=>
    have vB:=eB.out.size;refine⟨k+1,t0,t1,by omega,by go_num,?_,nB.out.isIn (fun j h1 h2=>Or.inr ⟨by omega,h2⟩),cA.out.trans ((zF.zRa bA).trans eB.out)⟩;have e:m+((k+1:Nat):Int)=m+(k:Int)+1:=(by omega);rw[e];exact lB.out
   case measure=>simp[intOf];omega
  ·obtain rfl:k=l.length:=(by omega);go_wp2_with fail;rw[List.take_length]at mA;go_ret;refine⟨_,y0,y1,rfl,?_,pA.out,mA.out,((zF.zRa fA).trans cA.out)⟩;exact kA.out.zRf (row:=some C) ⟨cA.out.os,cA.out.tape,cA.out.output,cA.out.size,fun k hk hn=>cA.out.block k hk (fun e=>hn (by rw[e]))⟩ (fun q hq e=>by
    injection e with e;have:=zw.lt kA.out hq;omega)
open Go.Extern.Stop Go.Stop Go.Extern
theorem zHI(p:Nat->Addr)(c:Int)(n:Nat)(v:Value)(hn:(n=7/\c=0/\v = .nilIface)\/(n<7/\c=zBb n/\v=qM (p n)))(w:World)(h:zE2 w p):Calls Tryz.prog 93 #[.int .i64 c] w fun e w'=>e = .returned v/\Below w.heap.size w w':=by
 have HE:=zd h;have HN:=zd hn;have gA:n<=7:=by omega
 have cA:=zd (show ∀k,k<n->zBb k≠c from fun k hk=>by
  rcases hn with⟨_,rfl,_⟩ | ⟨h7,rfl,_⟩
  ·exact zO6 k
  ·exact zQb (by omega) h7 (by omega))
 clear h hn;have ha:=zC w (.cells (zOY p) 199);have HR:=zd (zGO.zRZ p w);go_enter Tryz.func93,Tryz.ntmps93;go_wp2_with fail;refine(zGK p _ HE.out).mono ?_;rintro e wa ⟨rfl,rfl⟩;go_wp2
 go_loopw [7] (fun i' wr=>∃k:Nat,k<=n/\i' = .int .i64 k/\zGO wr w.heap.size p/\Below w.heap.size w wr) (fun i _=>7 - (intOf i).toNat)
 case atStart=>exact⟨0,Nat.zero_le _,rfl,HR.out,ha⟩
 case round=>
  obtain⟨k,hk,rfl,hR,hb⟩:=hrel;by_cases eA:k<7
  ·have bA:(k:Int)<7:=(by omega);obtain⟨q0,q1⟩:=hR k eA;have fA:=zd hR;clear hR;have hn:=zC wr (.cells #[qM (p k),.int .i64 (zBb k)] 199);have aA:=zA hb hn;have dA:=zd (fA.out.zRX hn);have z0:(wr.alloc (.cells #[qM (p k),.int .i64 (zBb k)] 199)).cell? ⟨wr.heap.size,0,none⟩=some (qM (p k)):=(zJ (heap_alloc_new _ _) rfl).1;have z1:(wr.alloc (.cells #[qM (p k),.int .i64 (zBb k)] 199)).cell? ⟨wr.heap.size,1,none⟩=some (.int .i64 (zBb k)):=(zJ (heap_alloc_new _ _) rfl).1;by_cases he:k=n
   ·subst he;obtain⟨hc,hv⟩:=(HN.out.resolve_left (fun h=>by omega)).2;subst hc hv;go_wp2;go_ret;exact⟨rfl,aA⟩
   ·have iA:(zBb k == c)=false:=(by simpa using cA.out k (by omega));go_wp2;go_roundw
    case rel=>exact⟨k+1,by omega,by go_num,dA.out,aA⟩
    case measure=>simp[intOf];omega
  ·obtain rfl:k=7:=(by omega);obtain rfl:n=7:=(by omega);have hv:=(HN.out.resolve_right (fun h=>by omega)).2.2;subst hv;go_wp2;go_ret;exact⟨rfl,hb⟩
theorem zKB(g:Nat)(lb:Array Value)(eg:Enters Tryz.prog g)(P:Nat->Prop)(v:Value)(n lo hi:Nat)(f:Nat->qD)(w:World)(h:yW w lo hi v n f)(hn:n<=1000)
  (hP:∀i,i<n->∀a c w',Below w.heap.size w w'->zU w' lo hi (.slice a (f i).dn c) (f i).dn (f i).ds (f i).db->Calls Tryz.prog g (#[.agg #[.string (f i).name,.int .i64 (f i).origin,.int .i64 (f i).zRh,.int .i64 (f i).rs,.int .i64 (f i).rb,.slice a (f i).dn c]] ++ lb) w' fun e gA=>zG (P i) e/\Below w'.heap.size w' gA) :
  Calls Tryz.prog 103 #[v,.func (.func g) #[] lb] w fun e w'=>((∃i:Nat,i<n/\P i/\(∀j,j<i->¬P j)/\e = .returned (.int .i64 (i:Int)))\/((∀j,j<n->¬P j)/\e = .returned (.int .i64 (-1))))/\Below w.heap.size w w':=by
 have Hp:=zB h;obtain⟨-,a,c,rfl,-,-⟩:=h;have HP:=zB hP;clear hP;have e0:∀(args:Array Value) (w:World),(callFunc g args).run Tryz.prog w = .ok (.enter g args) w:=eg;clear eg;go_enter Tryz.func103,Tryz.ntmps103;go_wp2
 go_loopw [8] (fun i wr=>∃k:Nat,k<=n/\i = .int .i64 k/\(∀j,j<k->¬P j)/\Below w.heap.size w wr) (fun i _=>n - (intOf i).toNat)
 case atStart=>exact⟨0,Nat.zero_le _,rfl,fun j hj=>absurd hj (Nat.not_lt_zero _),Below.refl _ _⟩
 case round=>
  obtain⟨k,hk,rfl,bA,hb⟩:=hrel;have aA:=zB bA;clear bA;by_cases cA:k<n
  ·have fA:(k:Int)<(n:Int):=(by omega);obtain⟨b,off,vd,rfl,hs⟩:=(Hp.out.zRX hb).cells cA;obtain⟨-,ad,cd,rfl,-,-⟩:=id hs.zRl;have Hs:=zB hs.zRl;obtain⟨q0,q1,q2,q3,q4,q5,-,-⟩:=hs;go_wp2_with fail;clear q0 q1 q2 q3 q4 q5;refine(HP.out k cA ad cd wr hb Hs.out).mono ?_;rintro e w1 ⟨⟨t,rfl,ht⟩,dA⟩;have eA:=zA hb dA;clear dA Hs;by_cases hf:P k
   ·obtain rfl:t=true:=ht.2 hf;have HF:=zB hf;clear ht hf;go_wp2;go_ret;exact⟨Or.inl ⟨k,cA,HF.out,aA.out,rfl⟩,eA⟩
   ·obtain rfl:t=false:=zQ ht hf;have HF:=zB hf;clear ht hf;go_wp2;go_roundw
    case rel=>
     refine⟨k+1,by omega,by go_num,fun j hj=>?_,eA⟩;by_cases e:j=k
     ·subst e;exact HF.out
     ·exact aA.out j (by omega)
    case measure=>simp[intOf];omega
  ·obtain rfl:k=n:=(by omega);go_wp2;go_ret;exact⟨Or.inr ⟨aA.out,rfl⟩,hb⟩
theorem zMh(s:qD)(a:Option Addr)(c B:Nat)(name:ByteArray)(w:World)(h0:w.cell? ⟨B,0,none⟩=some (.string name)) :
  Calls Tryz.prog 104 #[.agg #[.string s.name,.int .i64 s.origin,.int .i64 s.zRh,.int .i64 s.rs,.int .i64 s.rb,.slice a s.dn c],.pointer (some ⟨B,0,none⟩)] w fun e w'=>zG (s.name=name) e/\Below w.heap.size w w':=by
 have ha:=zC w (.cells #[.string s.name,.int .i64 s.origin,.int .i64 s.zRh,.int .i64 s.rs,.int .i64 s.rb,.slice a s.dn c] 67);have k0:=(ha.cell (zD h0)).trans h0;clear h0;obtain⟨⟨x0,-⟩,⟨x1,-⟩,⟨x2,-⟩,⟨x3,-⟩,⟨x4,-⟩,⟨x5,-⟩⟩:=zi.zRZ w (.string s.name) (.int .i64 s.origin) (.int .i64 s.zRh) (.int .i64 s.rs) (.int .i64 s.rb) (.slice a s.dn c) 67;by_cases e1:s.name=name
 ·skip;have a1:=zCv e1;have H:=zB e1;clear e1;go_enter Tryz.func104,Tryz.ntmps104;go_wp2;go_ret;exact⟨zG.yes H.out,ha⟩
 ·skip;have a1:=zEm e1;have H:=zB e1;clear e1;go_enter Tryz.func104,Tryz.ntmps104;go_wp2;go_ret;exact⟨zG.no H.out,ha⟩
theorem zPQ{n k:Nat}{f:Nat->qD}{name:ByteArray}{e:Ending}(hn:(f k).name=name)(hf:∀j,j<k->(f j).name≠name)(hk:k<n)
  (hr:(∃i:Nat,i<n/\(f i).name=name/\(∀j,j<i->¬(f j).name=name)/\e = .returned (.int .i64 (i:Int)))\/((∀j,j<n->¬(f j).name=name)/\e = .returned (.int .i64 (-1)))):e = .returned (.int .i64 (k:Int)):=by
 rcases hr with⟨i,hi,h1,h2,rfl⟩ | ⟨h1,_⟩
 ·obtain rfl:i=k:=by
   rcases Nat.lt_trichotomy i k with h | h | h
   ·exact absurd h1 (hf i h)
   ·exact h
   ·exact absurd hn (h2 k h)
  rfl
 ·exact absurd hn (h1 k hk)
theorem zJT(C lo hi n k c2:Nat)(a2:Option Addr)(f:Nat->qD)(name:ByteArray)(w:World)(hc:w.cell? ⟨C,4,none⟩=some (.slice a2 n c2))(hS:yW w lo hi (.slice a2 n c2) n f)(hn:n<=8)(hk:k<n)(bA:(f k).name=name)(aA:∀j,j<k->(f j).name≠name) :
  Calls Tryz.prog 37 #[.pointer (some ⟨C,0,none⟩),.string name] w fun e w'=>(∃b off,a2=some ⟨b,off,none⟩/\e = .returned (.pointer (some ⟨b,off+k*6,none⟩)))/\Below w.heap.size w w':=by
 have Hp:=zB hS;have Hn:=zB bA;have Hf:=zB aA;obtain⟨b,off,vd,rfl,-⟩:=hS.cells hk;clear hS bA aA;have ha:=zC w (.cells #[.string name] 9);have c0:(w.alloc (.cells #[.string name] 9)).cell? ⟨w.heap.size,0,none⟩=some (.string name):=World.cell?_alloc_at _ _ _ _ rfl;have eA:=(ha.cell (zD hc)).trans hc;have C0:=zB c0;have jA:(k:Int)<(n:Int):=by omega
 clear c0 hc;go_enter Tryz.func37,Tryz.ntmps37;go_wp2_with fail;generalize w.alloc (.cells #[.string name] 9)=W1 at ha eA C0 ⊢;have IX:=zB (show ∀w',Below W1.heap.size W1 w'->Calls Tryz.prog 103 #[.slice (some ⟨b,off,none⟩) n c2,.func (.func 104) #[] #[.pointer (some ⟨w.heap.size,0,none⟩)]] w' fun e fA=>e = .returned (.int .i64 (k:Int))/\Below w'.heap.size w' fA from fun w' gA=>by
  refine(zKB 104 #[.pointer (some ⟨w.heap.size,0,none⟩)] (enters_of Tryz.func104 (by kernel_rfl) rfl) (fun i=>(f i).name=name) _ n lo hi f w' ((Hp.out.zRX ha).zRX gA) (by omega) (fun i hi' a c fA iA hp=>zMh (f i) a c _ name fA (((zA gA iA).cell (zD C0.out)).trans C0.out))).mono ?_;rintro e w2 ⟨hr,dA⟩;exact⟨zPQ Hn.out Hf.out hk hr,dA⟩)
 go_region_held3 (fun w'=>w'.cell? ⟨C,4,none⟩=some (.slice (some ⟨b,off,none⟩) n c2)) (go_keep)
  (first | (go_at_call 103;refine(IX.out _ (Below.refl _ _).drew).mono ?_;rintro e w2 ⟨rfl,dA⟩;have cA:=zK dA;have kA:=(cA.cell (zD eA)).trans eA))
 go_wp2;go_ret;exact⟨⟨b,off,rfl,rfl⟩,zA ha cA⟩
theorem yv{P:Program}{w w1:World}{bA:Array Oper}{o:Oper}{a:Act}{K:Act->World->Prop}{Q:Exit->Act->World->Prop}{E:Prop}(cA:o.guard=none)(s x:Operand)(t:TypeId)
  (ho:o.op = .call {callee:=.builtin .append,args:=#[s,x],argTypes:=#[t,t]}) (vs vx v':Value) (hs:a.eval s=vs) (hx:a.eval x=vx) (aA:(Builtin.append_ #[t,t] o.type #[vs,vx]).run P w = .ok v' w1)
  (h:K (a.put o.dst v') w1):if Region.wanted o (yielded bA a.tmps)=true then Oper.wp P o a w K Q else E:=by
 have hw:Region.wanted o (yielded bA a.tmps)=true:=by simp[Region.wanted,cA]
 rw[if_pos hw];unfold Oper.wp;simp[execOp,ho,resolve,invoke,builtin,hs,hx,aA,Result.andThen];exact h
theorem yJ.nth{w:World}{bs n:Nat}{kb:Nat->Nat}{kv:Nat->Value}{v:Value}{f:Nat->qD}(h:yJ w bs kb kv v n f){k:Nat}(hk:k<n):∃off c,v = .slice (some ⟨bs,off,none⟩) n c/\zAG w bs (off+k*6) (kb k) (kv k) (f k):=by
 obtain⟨_,a,c,hv,_,hx⟩:=h;obtain⟨off,ha,h⟩:=hx (by omega);exact⟨off,c,by rw[hv,ha],h k hk⟩
theorem zLs(v:Value)(s:zl)(w:World):(Instr.field 99 (.agg #[.int .i64 s.id,.string s.name,.string s.set,.int .i64 s.zRh,.int .i64 s.time,.int .i64 s.rs,.int .i64 s.rb,v]) 4).run Tryz.prog w = .ok (.int .i64 s.time) w:=by kernel_rfl
theorem zLp(C lo hi:Nat)(z0 z1 z2 z3 u6 u7 u8:Value)(W:zH)(x:Int)(w:World)(h:zk w lo hi z0 z1 z2 z3 W)(hC:yj w C z0 z1 (.int .i64 W.time) (.int .i64 W.next) z2 z3 u6 u7 u8)(hn:W.pn<=20)(bA:zNp W.pn W.zRe)(hD:zCT W)(hx:(Lit.int .i64 x).wf=true) :
  Calls Tryz.prog 95 #[.pointer (some ⟨C,0,none⟩),.int .i64 x] w fun e w'=>∃a c,e = .returned (ye (.slice a (zN W x).dn c) (zN W x))/\Below w.heap.size w w':=by
 have Hp:=zB h;obtain⟨l0,lA,l1,iA,l2,jA,l3,kA,rfl,rfl,rfl,rfl⟩:=h.form;have HD:=zB hD;have gA:=zB bA;have Hx:=zB hx;have ha:=zC w (.cells #[.int .i64 0,.string ⟨#[]⟩,.string ⟨#[]⟩,.int .i64 0,.int .i64 0,.int .i64 0,.int .i64 0,.slice none 0 0] 99);obtain⟨⟨x0,-⟩,⟨x1,-⟩,⟨x2,-⟩,⟨x3,-⟩,⟨x4,-⟩,⟨x5,-⟩,-⟩:=hC.zRX ha;have HR:=zB (zCP.zRZ w (.int .i64 0) (.string ⟨#[]⟩) (.string ⟨#[]⟩) (.int .i64 0) (.int .i64 0) (.int .i64 0) (.int .i64 0) (.slice none 0 0) 99);clear h hD bA hx hC;obtain⟨S,hS⟩:∃S,S=zN W x:=⟨_,rfl⟩;rw[<-hS];unfold ye;have HS:=zB hS;clear hS;go_enter Tryz.func95,Tryz.ntmps95;go_wp2_with fail;clear x0 x1 x2 x3 x4 x5;generalize w.alloc (.cells #[.int .i64 0,.string ⟨#[]⟩,.string ⟨#[]⟩,.int .i64 0,.int .i64 0,.int .i64 0,.int .i64 0,.slice none 0 0] 99)=W1 at ha HR ⊢;refine(zGx _ _ _ _ lo hi W W1 (Hp.out.zRX ha) hn gA.out).mono ?_;rintro e w2 ⟨A,rfl,hA,dA⟩;have HA:=zB hA;clear hA;go_wp2_with fail;refine(zBp lo hi W A x w2 HA.out HD.out Hx.out hn).mono ?_;rw[<-HS.out];unfold ye;rintro e w3 ⟨a,c,rfl,fA,eA⟩;have hb:=zA (zA ha dA) eA;have cA:=zB ((HR.out.zRX dA).zRX eA);clear fA;obtain⟨⟨⟨r0,g0⟩,⟨r1,g1⟩,⟨r2,g2⟩,⟨r3,g3⟩⟩,⟨r4,g4⟩,⟨r5,g5⟩,⟨r6,g6⟩,⟨r7,g7⟩⟩:=cA.out;go_wp2_with fail;have aA:=cA.out.put (.int .i64 S.id) (.string S.name) (.string S.set) (.int .i64 S.zRh) (.int .i64 S.time) (.int .i64 S.rs) (.int .i64 S.rb) (.slice a S.dn c);have hT:=zF.put8 w3 w.heap.size (.int .i64 S.id) (.string S.name) (.string S.set) (.int .i64 S.zRh) (.int .i64 S.time) (.int .i64 S.rs) (.int .i64 S.rb) (.slice a S.dn c);clear r0 g0 r1 g1 r2 g2 r3 g3 r4 g4 r5 g5 r6 g6 r7 g7;refine bodyPost_ret (v:=.agg #[.int .i64 S.id,.string S.name,.string S.set,.int .i64 S.zRh,.int .i64 S.time,.int .i64 S.rs,.int .i64 S.rb,.slice a S.dn c]) (by simp[results,Tryz.results95,go_sem,aA.1.1.1,aA.1.2.1.1,aA.1.2.2.1.1,aA.1.2.2.2.1,aA.2.1.1,aA.2.2.1.1,aA.2.2.2.1.1,aA.2.2.2.2.1]) rfl ⟨a,c,rfl,?_⟩
 ·exact hb.trans (hT.zRX (B:=w.heap.size) hb.size (fun k e=>by omega))
theorem zM0{W:zH}(h:zBM W)(x:Int):zCG (zN W x).time:=by
 by_cases hx:∃k,qs W x k
 ·obtain⟨k,hk⟩:=hx;rw[qu hk];have h1:=(h.2.2.2.2.2 k hk.1).1;have h2:=h.1;unfold zB2 at h2;exact⟨by have:=h1.2.2.1;omega,by have:=h1.2.2.2.1;omega⟩
 ·have e:zN W x=yL:=(by unfold zN;rw[dif_neg hx]);rw[e];exact⟨by decide,by decide⟩
theorem zQB(p:Nat->Addr)(C k hw bC fC:Nat)(z0 z1 z2 z3 mE aF vo:Value)(W:zH)(y:zCO)(name:ByteArray)(w:World)(hE:zE2 w p)(hI:zAx W)(hy:zG6 y)(ht:zCG (zN W (W.zRg k).zRh).time)(hx:(Lit.int .i64 (W.zRg k).zRh).wf=true)(hk:zF5 W name k)(hD:(W.zRg k).dn<=1048576)(aI:C<hw)(rH:hw<=w.heap.size)
  (ho:qP w (C+1) hw z0 z1 z2 z3 W) (hC:yj w C z0 z1 (.int .i64 W.time) (.int .i64 W.next) z2 z3 (.int .i64 0) (.int .i64 0) .nilIface) (rD:zy w bC fC mE aF y.zRd) (fI:hw<=bC) (gI:fC<=w.heap.size) (cE:zU w hw w.heap.size vo y.old.length (zf y.old) (zh y.old)) :
  Calls Tryz.prog 35 #[.pointer (some ⟨C,0,none⟩),.string name,.agg #[mE,aF,.int .i64 y.rs,.int .i64 y.rb,vo,.int .i64 y.code]] w (zLw p (zBB W k y) C w):=by
 have h8:=hI.zRo.zRg.1;have kH:=hI.zRo.zRe.1;have gA:=hk.1;have eI:=hy.2.1;have HE:=zB hE;have HC:=zB hC;have HI:=zB hI;have HY:=zB hy;have Ht:=zB ht;have Hx:=zB hx;have Hk:=zB hk;obtain⟨jA,fA,iA,kA,rfl,rfl⟩:=rD.at.form;obtain⟨-,oo,oc,rfl,-,-⟩:=id cE;obtain⟨P,Q,R,oA,pA⟩:=ho;obtain⟨kB,kb,kv,hS,lF,kC,-,eF⟩:=oA.zRg;obtain⟨off,c,rfl,dF⟩:=hS.nth gA;have eE:Q kB:=kC _ (Or.inl ⟨by omega,rfl⟩);have nH:=pA kB (Or.inr (Or.inl eE));obtain⟨bs,rF⟩:∃bs,bs=kB:=⟨_,rfl⟩;obtain⟨o2,iC⟩:∃o2,o2=off+k*6:=⟨_,rfl⟩;have eC:=zB (show ∀w',yJ w' kB kb kv (.slice (some ⟨kB,off,none⟩) W.sn c) W.sn W.zRg->w'.cell? ⟨C,4,none⟩=some (.slice (some ⟨kB,off,none⟩) W.sn c)->Calls Tryz.prog 37 #[.pointer (some ⟨C,0,none⟩),.string name] w' fun e vD=>e = .returned (.pointer (some ⟨bs,o2,none⟩))/\Below w'.heap.size w' vD from fun w' nG hc=>by
  refine(zJT C (C+1) hw W.sn k c _ W.zRg name w' hc (nG.at (lo:=C+1) (hi:=hw) (fun j hj=>pA j (Or.inr (Or.inl (kC j hj))))) h8 gA hk.2.1 hk.2.2).mono ?_;rintro e w2 ⟨⟨b,sG,e1,rfl⟩,rA⟩;simp only[Option.some.injEq,Addr.mk.injEq,and_true]at e1;obtain⟨rfl,rfl⟩:=e1;exact⟨by rw[rF,iC],rA⟩)
 subst rF;have dA:=zB pA;have eG:=zB hS;have aG:=zB lF;have eB:=zB kC;have lB:=zB dF;have eH:=zB eE;have iG:=zB (eF k gA);have HZ:=zB oA.zRe.isIn;have mD:=zB oA.qr;have jH:=zB iC;have cH:=zB rD;have fG:=zB cE;clear oA pA hS lF kC dF hC hI hE hy ht hx hk eE eF rD cE;rw[<-iC]at lB;clear iC;have ha:=zC w (.cells #[.slice jA y.zRd.n fA,.slice iA y.zRd.hn kA,.int .i64 y.rs,.int .i64 y.rb,.slice oo y.old.length oc,.int .i64 y.code] 64);have HX:=zB (zi.zRZ w (.slice jA y.zRd.n fA) (.slice iA y.zRd.hn kA) (.int .i64 y.rs) (.int .i64 y.rb) (.slice oo y.old.length oc) (.int .i64 y.code) 64);have tE:(w.alloc (.cells #[.slice jA y.zRd.n fA,.slice iA y.zRd.hn kA,.int .i64 y.rs,.int .i64 y.rb,.slice oo y.old.length oc,.int .i64 y.code] 64)).heap.size=w.heap.size+1:=World.size_alloc _ _;have jI:C<w.heap.size:=by omega
 obtain⟨⟨x0,-⟩,⟨x1,-⟩,⟨x2,-⟩,⟨x3,-⟩,⟨x4,-⟩,⟨x5,-⟩⟩:=HX.out;by_cases nC:y.code=0;rotate_left
 ·obtain⟨i,pE,bF⟩:=HY.out.1.resolve_left nC;have pF:=zB bF;clear bF;go_enter Tryz.func35,Tryz.ntmps35;go_wp2_with fail;generalize w.alloc (.cells #[.slice jA y.zRd.n fA,.slice iA y.zRd.hn kA,.int .i64 y.rs,.int .i64 y.rb,.slice oo y.old.length oc,.int .i64 y.code] 64)=w1 at ha HX tE x0 x1 x2 x3 x4 x5 ⊢;refine(zHI p y.code i (qM (p i)) (Or.inr ⟨pE,pF.out,rfl⟩) w1 (HE.out.zRX ha)).mono ?_;rintro e w2 ⟨rfl,rA⟩;have jB:=zA ha rA;have mB:=zB (HC.out.zRX jB);clear x0 x1 x2 x3 x4 x5;obtain⟨-,-,-,-,-,-,-,-,⟨x8,oF⟩⟩:=mB.out;go_wp2_with fail;go_end0;have hT:=zF.put w2 C 8 (qM (p i));have cG:=jB.size;have pG:=hT.size;have nA:=mB.out;refine⟨⟨_,rfl⟩,((zF.zRa jB).trans hT).zRX (B:=C) (by omega) (fun j (h:j=C)=>by omega),Nat.lt_of_lt_of_le (show C<w2.heap.size by omega) pG,Or.inr ⟨i,pE,?_,_,_,_,_,_,_,_,_,⟨nA.1.zRY _ (Or.inr (by decide)),nA.2.1.zRY _ (Or.inr (by decide)),nA.2.2.1.zRY _ (Or.inr (by decide)),nA.2.2.2.1.zRY _ (Or.inr (by decide)),nA.2.2.2.2.1.zRY _ (Or.inr (by decide)),nA.2.2.2.2.2.1.zRY _ (Or.inr (by decide)),nA.2.2.2.2.2.2.1.zRY _ (Or.inr (by decide)),nA.2.2.2.2.2.2.2.1.zRY _ (Or.inr (by decide)),nA.2.2.2.2.2.2.2.2.set _⟩⟩⟩;unfold zBB;rw[if_neg nC,pF.out]
 have aD:=zB nC;obtain⟨yc,jG⟩:∃yc,yc=y.code:=⟨_,rfl⟩;go_enter Tryz.func35,Tryz.ntmps35;clear nC jG yc;go_wp2_with fail;generalize w.alloc (.cells #[.slice jA y.zRd.n fA,.slice iA y.zRd.hn kA,.int .i64 y.rs,.int .i64 y.rb,.slice oo y.old.length oc,.int .i64 y.code] 64)=w1 at ha HX tE x0 x1 x2 x3 x4 x5 ⊢;refine(zHI p y.code 7 .nilIface (Or.inl ⟨rfl,aD.out,rfl⟩) w1 (HE.out.zRX ha)).mono ?_;rintro e w2 ⟨rfl,rA⟩;have jB:=zA ha rA;have mB:=zB (HC.out.zRX jB);have jE:=zB (HX.out.zRX rA);have cG:=rA.size;clear x0 x1 x2 x3 x4 x5;obtain⟨-,-,-,-,-,-,-,-,⟨x8,oF⟩⟩:=mB.out;go_upto_region 3 with fail;clear x8 oF;have rC:=zF.put w2 C 8 .nilIface;have sD:=zB (show zF (fun j=>j=C) w (w2.setCell ⟨C,8,none⟩ .nilIface)from(zF.zRa jB).trans rC);have lC:=zB (show yj (w2.setCell ⟨C,8,none⟩ .nilIface) C z0 z1 (.int .i64 W.time) (.int .i64 W.next) (.slice (some ⟨bs,off,none⟩) W.sn c) z3 (.int .i64 0) (.int .i64 0) .nilIface from by
  have h:=mB.out;exact⟨h.1.zRY _ (Or.inr (by decide)),h.2.1.zRY _ (Or.inr (by decide)),h.2.2.1.zRY _ (Or.inr (by decide)),h.2.2.2.1.zRY _ (Or.inr (by decide)),h.2.2.2.2.1.zRY _ (Or.inr (by decide)),h.2.2.2.2.2.1.zRY _ (Or.inr (by decide)),h.2.2.2.2.2.2.1.zRY _ (Or.inr (by decide)),h.2.2.2.2.2.2.2.1.zRY _ (Or.inr (by decide)),h.2.2.2.2.2.2.2.2.set _⟩)
 have tC:=zB (jE.out.zRf rC (by omega));have bG:=rC.size;clear rC mB jE;generalize w2.setCell ⟨C,8,none⟩ .nilIface=w3 at sD lC tC bG ⊢;obtain⟨⟨x0,-⟩,⟨x1,-⟩,⟨x2,-⟩,⟨x3,-⟩,⟨x4,-⟩,⟨x5,-⟩⟩:=tC.out;obtain⟨⟨c0,mG⟩,⟨c1,gH⟩,-⟩:=lC.out;have n1:w.heap.size≠C:=by omega
 have n2:C≠w.heap.size:=by omega
 go_upto_region 4 with fail;clear x0 x1 x2 x3 x4 x5 c0 mG c1 gH;have vC:zF (fun j=>j=C) w3 ((w3.setCell ⟨C,0,none⟩ (.slice jA y.zRd.n fA)).setCell ⟨C,1,none⟩ (.slice iA y.zRd.hn kA)):=(zF.put _ C _ _).trans (zF.put _ C _ _);have kD:=zB (sD.out.trans vC);have iD:=zB (show yj ((w3.setCell ⟨C,0,none⟩ (.slice jA y.zRd.n fA)).setCell ⟨C,1,none⟩ (.slice iA y.zRd.hn kA)) C (.slice jA y.zRd.n fA) (.slice iA y.zRd.hn kA) (.int .i64 W.time) (.int .i64 W.next) (.slice (some ⟨bs,off,none⟩) W.sn c) z3 (.int .i64 0) (.int .i64 0) .nilIface from by
  have h:=lC.out;exact⟨(h.1.set _).zRY _ (Or.inr (by decide)),(h.2.1.zRY _ (Or.inr (by decide))).set _,(h.2.2.1.zRY _ (Or.inr (by decide))).zRY _ (Or.inr (by decide)),(h.2.2.2.1.zRY _ (Or.inr (by decide))).zRY _ (Or.inr (by decide)),(h.2.2.2.2.1.zRY _ (Or.inr (by decide))).zRY _ (Or.inr (by decide)),(h.2.2.2.2.2.1.zRY _ (Or.inr (by decide))).zRY _ (Or.inr (by decide)),(h.2.2.2.2.2.2.1.zRY _ (Or.inr (by decide))).zRY _ (Or.inr (by decide)),(h.2.2.2.2.2.2.2.1.zRY _ (Or.inr (by decide))).zRY _ (Or.inr (by decide)),(h.2.2.2.2.2.2.2.2.zRY _ (Or.inr (by decide))).zRY _ (Or.inr (by decide))⟩)
 have mF:=zB (tC.out.zRf vC (by omega));have lH:=vC.size;clear vC lC tC sD;generalize ((w3.setCell ⟨C,0,none⟩ (.slice jA y.zRd.n fA)).setCell ⟨C,1,none⟩ (.slice iA y.zRd.hn kA))=w4 at kD iD mF lH ⊢;have aB:∀j,zCN bs kb W.sn W.zRg j->¬j=C:=fun j hj e=>by have:=dA.out j (Or.inr (Or.inl (eB.out j hj)));omega
 have nE:=zB (eG.out.zRf kD.out aB);have eA:=zB aB;clear aB;obtain⟨c4,-⟩:=iD.out.2.2.2.2.1;go_wp2_with fail;refine(eC.out w4 nE.out c4).mono ?_;clear eC c4;rintro e w5 ⟨rfl,oB⟩;have cI:=oB.size;have gB:=zB (kD.out.trans (zF.zRa oB));have cF:=zB (iD.out.zRX oB);have gF:=zB (mF.out.zRX oB);have iE:=zB (nE.out.zRX oB);have cB:=lB.out.zRf gB.out (by omega) (fun h0=>eA.out _ (Or.inr ⟨k,gA,h0,rfl⟩));have fE:=zB cB;have iF:=zB ((cH.out.zRf gB.out (fun j e=>by omega)).isIn (S:=fun j=>bC<=j/\j<fC) (fun j h1 h2=>⟨h1,h2⟩));have gE:=zB (fG.out.same (fun j h1 h2=>gB.out.block j h2 (by omega)));have lD:=zB (iG.out.kept (zCE gB.out) (fun h0=>by
  rw[(show(kv k).ownBlock=some (kb k)by
   obtain⟨_,a,c,hv,_,hx⟩:=lB.out.zRl;obtain⟨off,ha,_⟩:=hx h0;rw[hv,ha];rfl)]
  intro e;injection e with e;exact eA.out _ (Or.inr ⟨k,gA,h0,rfl⟩) e))
 have fF:=zB (HZ.out.zRf gB.out (fun j hj e=>by have:=dA.out j (Or.inr (Or.inr hj));omega));have gD:bs≠C:=by omega
 have gC:zk w5 0 w5.heap.size (.slice jA y.zRd.n fA) (.slice iA y.zRd.hn kA) (.slice (some ⟨bs,off,none⟩) W.sn c) z3 {W with zRd:=y.zRd}:=⟨iF.out.at (fun j hj=>⟨Nat.zero_le _,by omega⟩),iE.out.at (fun j hj=>⟨Nat.zero_le _,by have:=dA.out j (Or.inr (Or.inl (eB.out j hj)));omega⟩),fF.out.at (fun j hj=>⟨Nat.zero_le _,by have:=dA.out j (Or.inr (Or.inr hj));omega⟩)⟩;have bD:=zB (show ∀w',Below w5.heap.size w5 w'->Calls Tryz.prog 95 #[.pointer (some ⟨C,0,none⟩),.int .i64 (W.zRg k).zRh] w' fun e vD=>(∃a c,e = .returned (ye (.slice a (zN W (W.zRg k).zRh).dn c) (zN W (W.zRg k).zRh)))/\Below w'.heap.size w' vD from fun w' sE=>by
  refine(zLp C 0 w5.heap.size _ _ _ _ _ _ _ {W with zRd:=y.zRd} (W.zRg k).zRh w' (gC.zRX sE) (cF.out.zRX sE) kH HI.out.zRo.idsWf HI.out.zRo.dist Hx.out).mono ?_;rw[zIn];rintro e w2 ⟨a,c,rfl,rA⟩;exact⟨⟨a,c,rfl⟩,rA⟩)
 have cD:bs<w5.heap.size:=by omega
 obtain⟨x4,-⟩:=gF.out.2.2.2.2.1;obtain⟨q2,-⟩:=cB.c2;have oC:=zB (show ∀w',Below w5.heap.size w5 w'->(fun w':World=>w'.cell? ⟨w.heap.size,4,none⟩=some (.slice oo y.old.length oc)/\w'.cell? ⟨bs,o2+2,none⟩=some (.int .i64 (W.zRg k).zRh)) w' from fun w' hb=>⟨(hb.cell (p:=⟨w.heap.size,4,none⟩) (zD x4)).trans x4,(hb.cell (p:=⟨bs,o2+2,none⟩) cD).trans q2⟩);have sH:∀(fn:Fn) (first sF:Array Value) (w:World),(Instr.makeFunc fn first sF).run Tryz.prog w = .ok (.func fn first sF) w:=fun _ _ _ _=>rfl
 have jC:Below w5.heap.size w5 w5.drew:=(Below.refl _ _).drew;have dD:=zB (zPo (W:=W) (k:=k) HY.out aD.out);have vG:=zB ((HY.out.2.2 aD.out).ptrs (by omega));obtain⟨A,hA⟩:∃A,A=zN W (W.zRg k).zRh:=⟨_,rfl⟩;have HA:=zB hA;unfold zE3 at dD;rw[<-hA]at bD dD Ht;unfold ye at bD;have gG:=fun (a:Option Addr) (c:Nat) (w:World)=>zLs (.slice a A.dn c) A w
 clear hA gC x4 q2 cB;go_upto_region 5 with fail;refine wp_region_held_drew (S:=(fun w':World=>w'.cell? ⟨w.heap.size,4,none⟩=some (.slice oo y.old.length oc)/\w'.cell? ⟨bs,o2+2,none⟩=some (.int .i64 (W.zRg k).zRh))) (by kernel_rfl) (oC.out _ jC) (fun hHeld=>?_);generalize w5.drew=q0 at hHeld jC ⊢;refine tk 0 (h:=tk 1 (h:=tk 2 (h:=tk 3 (h:=tk 4 (h:=tk 5 (h:=tk 6 (h:=tk 9 (h:=tk 10 (h:=?_)))))))));refine rd [7] (rc (fun K hK=>?_) .nil);go_simp;go_at_call 95;refine(bD.out _ jC).mono ?_;rintro e w6 ⟨⟨a6,c6,rfl⟩,dG⟩;have aA:=zA jC dG
 (try go_wp2_with fail)
 refine hK.out _ _ (oC.out _ aA) ?_;clear hK K;intro hHeld
 try simp only[Act.put,s1,s2,s3]
 refine tk 8 (h:=?_);refine rd [11] (rc (fun K hK=>?_) .nil);go_simp;go_at_call 94;have oH:=aA.size;refine(zOl C hw w.heap.size y.old.length (fun j=>bC<=j/\j<fC) _ _ _ _ .nilIface _ W.time W.next 0 0 A.time y.zRd (zf y.old) (zh y.old) w6 (gE.out.zRX aA) vG.out Ht.out dD.out (cF.out.zRX aA) (iF.out.zRX aA) (fun k hk=>by omega) (by omega) (by omega)).mono ?_;rintro e w7 ⟨v7,y0,y1,rfl,dB,nF,lE,rB⟩;obtain⟨a7,c7,rfl,-⟩:=zY dB;have kE:(fun w':World=>w'.cell? ⟨w.heap.size,4,none⟩=some (.slice oo y.old.length oc)/\w'.cell? ⟨bs,o2+2,none⟩=some (.int .i64 (W.zRg k).zRh)) w7:=by
  have h:=oC.out _ aA;exact⟨(rB.cell (o:=4) (show w.heap.size<w6.heap.size by omega) (by omega)).trans h.1,(rB.cell (o:=o2+2) (show bs<w6.heap.size by omega) gD).trans h.2⟩
 have jF:=zB dB;have tG:=zB nF;have lG:=zB lE;have tD:zF (fun j=>j=C) w5 w7:=(zF.zRa aA).trans rB;have vH:=rB.size;have iB:=zB tD;clear nF lE dB
 (try go_wp2_with fail)
 refine hK.out _ _ kE ?_;clear hK K hHeld kE rB;intro hHeld
 try simp only[Act.put,s1,s2,s3]
 refine tk 12 (h:=?_);refine wpAnyH_done (by kernel_rfl) ?_ _;clear hHeld gG bD oC;go_upto_region 6 with fail;have bA:=fE.out.zRf iB.out gD (fun h0=>eA.out _ (Or.inr ⟨k,gA,h0,rfl⟩));have kF:=gF.out.zRf iB.out (show ¬w.heap.size=C by omega);have tB:=lD.out.kept (zCE iB.out) (fun h0=>by
  rw[(show(kv k).ownBlock=some (kb k)by
   obtain⟨_,a,c,hv,_,hx⟩:=lB.out.zRl;obtain⟨off,ha,_⟩:=hx h0;rw[hv,ha];rfl)]
  intro e;injection e with e;exact eA.out _ (Or.inr ⟨k,gA,h0,rfl⟩) e)
 have kG:=zB (iE.out.zRf iB.out eA.out);obtain⟨L,hL⟩:∃L,L=zBx (zf y.old) (zh y.old) A.time y.old.length:=⟨_,rfl⟩;rw[<-hL]at jF;simp only[<-hL];have pH:L.length<=3:=by
  rw[hL];have:=zLF (zf y.old) (zh y.old) A.time y.old.length;omega
 have dH:=zB hL;have cA:Below w7.heap.size w7 w7.drew:=(Below.refl _ _).drew;have dB:=zw.zRX jF.out cA;obtain⟨-,ak,ck,pC,-,-⟩:=id bA.zRl;have jD:=bA.zRl.zRX cA;have dE:=tB.zRX cA;rw[pC]at jD dE;obtain⟨da,dc,wb,nb,pB,nB,mC,rE⟩:=zGz (lo:=0) (hi:=w7.drew.heap.size) jD dE (by
  obtain⟨bb,ho,tF⟩:=zw.own dB (by unfold maxLen;omega);exact ho.at (fun h0=>⟨Nat.zero_le _,(tF h0).2.2⟩)) (by omega) 62
 have pD:=zB nB;have bB:=zB mC;have vE:=zB rE;have mA:∀j,(0<(W.zRg k).dn/\j=kb k)->j≠bs/\j≠C/\j≠w.heap.size:=fun j hj=>by
  have h1:=dA.out j (Or.inr (Or.inl (eB.out j (Or.inr ⟨k,gA,hj.1,hj.2⟩))));exact⟨fun e=>lB.out.zRk hj.1 (by rw[<-hj.2];exact e),by omega,by omega⟩
 have fD:bs<w7.drew.heap.size:=show bs<w7.heap.size by omega
 have sB:=kF.zRX cA;have rG:=sB.zRf mC (fun h=>(mA _ h).2.2 rfl);have sA:=fun (r:Nat) (u:Value) (h:zW w7 bs (o2+r) u)=>(h.zRX cA).zRf mC (fun h=>(mA _ h).1 rfl)
 have c5:=bA.c5;rw[pC]at c5;obtain⟨d5,oE⟩:=c5.zRX cA;obtain⟨m3,mH⟩:=sA 3 _ bA.c3;obtain⟨m4,vF⟩:=sA 4 _ bA.c4;obtain⟨m5,iH⟩:=sA 5 _ c5;obtain⟨-,-,⟨x2,-⟩,⟨x3,-⟩,-⟩:=sB;obtain⟨-,-,⟨u2,-⟩,⟨u3,-⟩,-⟩:=rG;have bE:=zB bA;have lA:=zB mA;have tH:=zB pC;have n3:bs≠w.heap.size:=by omega
 have n4:w.heap.size≠bs:=by omega
 clear kF sA c5 jD dE nB mC rE bA tB dB hL mA pC;have E1:zF (fun j=>j=bs) wb ((wb.setCell ⟨bs,o2+3,none⟩ (.int .i64 y.rs)).setCell ⟨bs,o2+3+1,none⟩ (.int .i64 y.rb)):=(zF.put _ bs _ _).trans (zF.put _ bs _ _);have E2:zF (fun j=>j=bs) wb (((wb.setCell ⟨bs,o2+3,none⟩ (.int .i64 y.rs)).setCell ⟨bs,o2+3+1,none⟩ (.int .i64 y.rb)).setCell ⟨bs,o2+5,none⟩ (.slice da ((W.zRg k).dn+L.length) dc)):=E1.trans (zF.put _ bs _ _);have sC:w.heap.size<wb.heap.size:=zD u2;have bH:=zB (show(fun w':World=>w'.cell? ⟨w.heap.size,2,none⟩=some (.int .i64 y.rs)/\w'.cell? ⟨w.heap.size,3,none⟩=some (.int .i64 y.rb)) ((wb.setCell ⟨bs,o2+3,none⟩ (.int .i64 y.rs)).setCell ⟨bs,o2+3+1,none⟩ (.int .i64 y.rb))from⟨(E1.cell (o:=2) sC n4).trans u2,(E1.cell (o:=3) sC n4).trans u3⟩);have fH:=zB (show(fun w':World=>w'.cell? ⟨w.heap.size,2,none⟩=some (.int .i64 y.rs)/\w'.cell? ⟨w.heap.size,3,none⟩=some (.int .i64 y.rb)) (((wb.setCell ⟨bs,o2+3,none⟩ (.int .i64 y.rs)).setCell ⟨bs,o2+3+1,none⟩ (.int .i64 y.rb)).setCell ⟨bs,o2+5,none⟩ (.slice da ((W.zRg k).dn+L.length) dc))from⟨(E2.cell (o:=2) sC n4).trans u2,(E2.cell (o:=3) sC n4).trans u3⟩);have aC:=zB E2;have dC:=zB pB;have HU:=zB (show(fun w':World=>w'.cell? ⟨w.heap.size,2,none⟩=some (.int .i64 y.rs)/\w'.cell? ⟨w.heap.size,3,none⟩=some (.int .i64 y.rb)) wb from⟨u2,u3⟩);have oD:=zB (show(fun w':World=>w'.cell? ⟨w.heap.size,2,none⟩=some (.int .i64 y.rs)/\w'.cell? ⟨w.heap.size,3,none⟩=some (.int .i64 y.rb)) w7.drew from⟨x2,x3⟩);clear pB E1 E2 u2 u3;refine wp_region_held_drew (S:=(fun w':World=>w'.cell? ⟨w.heap.size,2,none⟩=some (.int .i64 y.rs)/\w'.cell? ⟨w.heap.size,3,none⟩=some (.int .i64 y.rb))) (by kernel_rfl) oD.out (fun hHeld=>?_);generalize w7.drew=q7 at hHeld oD dC bB vE d5 oE x2 x3 cA fD ⊢;refine tk 0 (h:=tk 1 (h:=tk 2 (h:=tk 3 (h:=tk 4 (h:=tk 5 (h:=tk 6 (h:=tk 8 (h:=?_))))))));refine rd [7] (rc (fun K hK=>?_) .nil);go_simp
 (try go_wp2_with fail)
 refine hK.out _ _ (oD.out) ?_;clear hK K;intro hHeld
 try simp only[Act.put,s1,s2,s3]
 refine rd [9] (rc (fun K hK=>?_) .nil);refine yv rfl (.tmp 47) (.tmp 48) 62 rfl _ _ _ rfl rfl dC.out ?_
 (try go_wp2_with fail)
 refine hK.out _ _ (HU.out) ?_;clear hK K;intro hHeld
 try simp only[Act.put,s1,s2,s3]
 clear d5 oE x2 x3;refine tk 10 (h:=tk 11 (h:=?_));refine rd [12] (rc (fun K hK=>?_) .nil);go_simp
 (try go_wp2_with fail)
 refine hK.out _ _ (bH.out) ?_;clear hK K;intro hHeld
 try simp only[Act.put,s1,s2,s3]
 refine tk 13 (h:=tk 14 (h:=?_));refine rd [15] (rc (fun K hK=>?_) .nil);go_simp
 (try go_wp2_with fail)
 refine hK.out _ _ (fH.out) ?_;clear hK K;intro hHeld
 try simp only[Act.put,s1,s2,s3]
 refine wpAnyH_done (by kernel_rfl) ?_ _;clear hHeld m3 mH m4 vF m5 iH;go_wp2_with fail;go_end0;have eO:zBB W k y=⟨zML W k y,0,((zE3 W k y).length:Int),0⟩:=if_pos aD.out;have eY:zE3 W k y=qY (zf y.old) (zh y.old) A.time y.old.length:=by unfold zE3;rw[HA.out]
 have eD:zDy W k y=zBL (W.zRg k).dn (W.zRg k).ds (W.zRg k).db ++ L:=by unfold zDy zPT;rw[dH.out,HA.out]
 have oG:yj (((wb.setCell ⟨bs,o2+3,none⟩ (.int .i64 y.rs)).setCell ⟨bs,o2+3+1,none⟩ (.int .i64 y.rb)).setCell ⟨bs,o2+5,none⟩ (.slice da ((W.zRg k).dn+L.length) dc)) C y0 y1 (.int .i64 W.time) (.int .i64 W.next) (.slice (some ⟨bs,off,none⟩) W.sn c) z3 (.int .i64 0) (.int .i64 ((zE3 W k y).length:Int)) .nilIface:=by
  have h:=tG.out;rw[Int.zero_add,<-eY]at h;exact((h.zRX cA).zRf bB.out (fun e=>(lA.out _ e).2.1 rfl)).zRf aC.out (fun e=>gD e.symm)
 have dI:=cA.size;have iI:=bB.out.size;have bI:=aC.out.size;have vB:zF (fun j=>j=C\/j=bs\/(0<(W.zRg k).dn/\j=kb k)) w (((wb.setCell ⟨bs,o2+3,none⟩ (.int .i64 y.rs)).setCell ⟨bs,o2+3+1,none⟩ (.int .i64 y.rb)).setCell ⟨bs,o2+5,none⟩ (.slice da ((W.zRg k).dn+L.length) dc)):=((((gB.out.mono (fun j e=>Or.inl e)).trans (iB.out.mono (fun j e=>Or.inl e))).trans (zF.zRa cA)).trans (bB.out.mono (fun j e=>Or.inr (Or.inr e)))).trans (aC.out.mono (fun j e=>Or.inr (Or.inl e)));have tA:∀j,(0<(W.zRg k).dn/\j=kb k)->C+1<=j/\j<hw/\Q j:=fun j hj=>by
  have h1:=eB.out j (Or.inr ⟨k,gA,hj.1,hj.2⟩);have:=dA.out j (Or.inr (Or.inl h1));exact⟨this.1,this.2,h1⟩
 rw[eO];refine⟨⟨_,rfl⟩,vB.zRX (B:=C) (by omega) (fun j h=>by
  rcases h with h | h | h
  ·omega
  ·omega
  ·have:=tA j h;omega),by omega,Or.inl ⟨rfl,_,_,_,_,oG,?_⟩⟩
 have vA:zF (fun j=>j=bs\/(0<(W.zRg k).dn/\j=kb k)) q7 (((wb.setCell ⟨bs,o2+3,none⟩ (.int .i64 y.rs)).setCell ⟨bs,o2+3+1,none⟩ (.int .i64 y.rb)).setCell ⟨bs,o2+5,none⟩ (.slice da ((W.zRg k).dn+L.length) dc)):=(bB.out.mono (fun j e=>Or.inr e)).trans (aC.out.mono (fun j e=>Or.inl e));have fB:∀o u,zW w7 bs o u->zW wb bs o u:=fun o u h=>(h.zRX cA).zRf bB.out (fun h=>(lA.out _ h).1 rfl)
 have e2:=jH.out;have nD:0<(zBW W k y).dn->((0<(W.zRg k).dn/\nb=kb k)\/(q7.heap.size<=nb/\nb<wb.heap.size)):=fun h=>vE.out (by
  have:(zBW W k y).dn=(W.zRg k).dn+L.length:=(by show(zDy W k y).length=_;rw[eD,List.length_append,zAt]);omega)
 have cC:0<(zBW W k y).dn->nb≠bs:=fun h=>by
  rcases nD h with h | h
  ·exact(lA.out nb h).1
  ·omega
 have aE:zAG (((wb.setCell ⟨bs,o2+3,none⟩ (.int .i64 y.rs)).setCell ⟨bs,o2+3+1,none⟩ (.int .i64 y.rb)).setCell ⟨bs,o2+5,none⟩ (.slice da ((W.zRg k).dn+L.length) dc)) bs (off+k*6) nb (.slice da ((W.zRg k).dn+L.length) dc) (zBW W k y):=by
  rw[<-e2];have hs:=bE.out;refine⟨?_,?_,?_,?_,?_,?_,?_,lB.out.zRn,cC⟩
  ·exact(((fB _ _ hs.c0).zRY _ (Or.inr (by omega))).zRY _ (Or.inr (by omega))).zRY _ (Or.inr (by omega))
  ·exact(((fB _ _ hs.c1).zRY _ (Or.inr (by omega))).zRY _ (Or.inr (by omega))).zRY _ (Or.inr (by omega))
  ·exact(((fB _ _ hs.c2).zRY _ (Or.inr (by omega))).zRY _ (Or.inr (by omega))).zRY _ (Or.inr (by omega))
  ·exact(((fB _ _ hs.c3).set _).zRY _ (Or.inr (by omega))).zRY _ (Or.inr (by omega))
  ·exact(((fB _ _ hs.c4).zRY _ (Or.inr (by omega))).set _).zRY _ (Or.inr (by omega))
  ·exact(((fB _ _ hs.c5).zRY _ (Or.inr (by omega))).zRY _ (Or.inr (by omega))).set _
  ·have h:=pD.out.zRf aC.out (fun h0=>cC (by show 0<(zDy W k y).length;rw[eD];exact h0));show zm _ nb _ (zDy W k y).length (zf (zDy W k y)) (zh (zDy W k y));rw[eD];exact h
 show qL _ (C+1) _ _ _ _ _ (zML W k y);refine⟨(fun j=>(bC<=j/\j<fC)\/(w6.heap.size<=j/\j<w7.heap.size)),(fun j=>Q j\/(q7.heap.size<=j/\j<wb.heap.size)),R,⟨?_,?_,?_,?_,?_,?_⟩,?_⟩
 ·have h:=(lG.out.zRX cA).zRf vA (fun j hj e=>by
   rcases e with e | e
   ·omega
   ·have:=tA j e;omega)
  show qW _ _ _ _ (zv y.zRd (zE3 W k y));rw[eY];exact h
 ·refine zH5 (w:=q7) (kG.out.zRX cA) aG.out (fun j hj=>Or.inl (eB.out j hj)) gA vA (fun j hj aH r hr u hc=>?_) aE (fun h=>⟨(nD h).imp id (fun h j hj e=>?_),?_⟩)
  ·exact(((hc.zRf bB.out (fun h=>(lA.out _ h).1 rfl)).zRY _ (Or.inr (by omega))).zRY _ (Or.inr (by omega))).zRY _ (Or.inr (by omega))
  ·have:=dA.out j (Or.inr (Or.inl (eB.out j hj)));omega
  ·rcases nD h with h | h
   ·exact Or.inl (tA nb h).2.2
   ·exact Or.inr h
 ·exact((fF.out.zRf iB.out (fun j hj e=>by have:=dA.out j (Or.inr (Or.inr hj));omega)).zRX cA).zRf vA (fun j hj e=>by
   rcases e with e | e
   ·exact mD.out bs eH.out (by rw[<-e];exact hj)
   ·exact mD.out j (tA j e).2.2 hj)
 ·intro j hj hq;rcases hq with hq | hq
  ·have:=dA.out j (Or.inr (Or.inl hq));omega
  ·omega
 ·intro j hj hq;have:=dA.out j (Or.inr (Or.inr hq));omega
 ·intro j hj hq;rcases hj with hj | hj
  ·exact mD.out j hj hq
  ·have:=dA.out j (Or.inr (Or.inr hq));omega
 ·rintro j (h | h | h)
  ·omega
  ·rcases h with h | h
   ·have:=dA.out j (Or.inr (Or.inl h));omega
   ·omega
  ·have:=dA.out j (Or.inr (Or.inr h));omega
theorem zHf(p:Nat->Addr)(C k B0 B1 B2:Nat)(z0 z1 z2 z3:Value)(W:zH)(name:ByteArray)(zRj:Int)(data:ByteArray)(w:World)(hE:zE2 w p)(hI:zAx W)(ht:zCG (zN W (W.zRg k).zRh).time)(hx:(Lit.int .i64 (W.zRg k).zRh).wf=true)(hk:zF5 W name k)(hD:(W.zRg k).dn<=1048576)(rB:C<w.heap.size)(k0:w.cell? ⟨B0,0,none⟩=some (.string name))(l0:B0<C)(k1:w.cell? ⟨B1,0,none⟩=some (.int .i64 zRj))(l1:B1<C)(k2:w.cell? ⟨B2,0,none⟩=some (.string data))(l2:B2<C)
  (ho:qP w (C+1) w.heap.size z0 z1 z2 z3 W) (hC:yj w C z0 z1 (.int .i64 W.time) (.int .i64 W.next) z2 z3 (.int .i64 0) (.int .i64 0) .nilIface) :
  Calls Tryz.prog 34 #[.pointer (some ⟨C,0,none⟩),.pointer (some ⟨B0,0,none⟩),.pointer (some ⟨B1,0,none⟩),.pointer (some ⟨B2,0,none⟩)] w (zLw p (zBB W k (qo W.zRd (W.zRg k).rs (W.zRg k).rb zRj data W.time)) C w):=by
 have h8:=hI.zRo.zRg.1;have vA:=hk.1;have HC:=zB hC;have HO:=zB ho;obtain⟨bs,o2,kA,pA⟩:∃bs o2,Hid (∃nb nv,zAG w bs o2 nb nv (W.zRg k))/\Hid (∀w',Below w.heap.size w w'->Calls Tryz.prog 37 #[.pointer (some ⟨C,0,none⟩),.string name] w' fun e cA=>e = .returned (.pointer (some ⟨bs,o2,none⟩))/\Below w'.heap.size w' cA):=by
  obtain⟨P,Q,R,oA,sA⟩:=ho;have jB:=oA.isIn;obtain⟨oB,kb,kv,hS,tB,nB⟩:=jB.zRg;obtain⟨off,c,rfl,lA⟩:=hS.nth vA;refine⟨oB,off+k*6,zB ⟨_,_,lA⟩,zB (fun w' iA=>?_)⟩;obtain⟨c4,-⟩:=(hC.zRX iA).2.2.2.2.1;refine(zJT C (C+1) w.heap.size W.sn k c _ W.zRg name w' c4 ((hS.at (lo:=C+1) (hi:=w.heap.size) (fun j hj=>sA j (Or.inr (Or.inl (nB j hj))))).zRX iA) h8 vA hk.2.1 hk.2.2).mono ?_;rintro e w2 ⟨⟨b,eB,e1,rfl⟩,gA⟩;simp only[Option.some.injEq,Addr.mk.injEq,and_true]at e1;obtain⟨rfl,rfl⟩:=e1;exact⟨rfl,gA⟩
 obtain⟨nb,nv,lA⟩:=kA.out;clear kA;have kA:=zB lA;have fA:zu w (C+1) w.heap.size z0 z1 W.zRd:=ho.own.at.zRd;obtain⟨a0,c0,a1,c1,rfl,rfl⟩:=fA.form;obtain⟨y,hy⟩:∃y,y=qo W.zRd (W.zRg k).rs (W.zRg k).rb zRj data W.time:=⟨_,rfl⟩;have iB:=zB (show ∀w',Below w.heap.size w w'->Calls Tryz.prog 36 #[.agg #[.slice a0 W.zRd.n c0,.slice a1 W.zRd.hn c1],.agg #[.int .i64 (W.zRg k).rs,.int .i64 (W.zRg k).rb],.int .i64 zRj,.string data,.int .i64 W.time] w' (zHb y w')from fun w' hb=>by
  rw[hy];exact zFw _ _ (C+1) w.heap.size W.zRd (W.zRg k).rs (W.zRg k).rb zRj W.time data w' (fA.zRX hb))
 have HG:=zB (show zG6 y by rw[hy];exact zFd _ _ _ _ _ _);rw[<-hy];have sB:=zB (show ∀(w' cA:World) (v0 v1 vo:Value) (lo hi:Nat),Below w.heap.size w w'->Below w'.heap.size w' cA->zy cA lo hi v0 v1 y.zRd->w'.heap.size<=lo->hi<=cA.heap.size->zw cA w'.heap.size vo y.old->Calls Tryz.prog 35 #[.pointer (some ⟨C,0,none⟩),.string name,.agg #[v0,v1,.int .i64 y.rs,.int .i64 y.rb,vo,.int .i64 y.code]] cA (zLw p (zBB W k y) C cA)from fun w' cA v0 v1 vo lo hi hb iA hp h1 h2 hr=>by
  have gA:=zA hb iA;have hz:=hb.size;have vB:=iA.size;have mB:=gA.size;refine zQB p C k w.heap.size lo hi _ _ _ _ v0 v1 vo W y name cA (hE.zRX gA) hI HG.out ht hx hk hD rB mB (ho.zRX gA) (hC.zRX gA) hp (by omega) h2 ?_;obtain⟨bb,h3,tA⟩:=zw.own hr (by have:=HG.out.2.1;unfold maxLen;omega);exact h3.at (fun h0=>⟨by have:=(tA h0).2.1;omega,(tA h0).2.2⟩))
 have nA:Below w.heap.size w w.drew:=(Below.refl _ _).drew;have aA:=zB (show ∀w',Below w.heap.size w w'->(fun w':World=>w'.cell? ⟨B0,0,none⟩=some (.string name)/\w'.cell? ⟨B1,0,none⟩=some (.int .i64 zRj)/\w'.cell? ⟨B2,0,none⟩=some (.string data)) w' from fun w' hb=>⟨(hb.cell (zD k0)).trans k0,(hb.cell (zD k1)).trans k1,(hb.cell (zD k2)).trans k2⟩);have eA:=zB (show ∀w',Below C w w'->(fun w':World=>w'.cell? ⟨B0,0,none⟩=some (.string name)/\w'.cell? ⟨B1,0,none⟩=some (.int .i64 zRj)/\w'.cell? ⟨B2,0,none⟩=some (.string data)) w' from fun w' hb=>⟨(hb.cell (p:=⟨B0,0,none⟩) l0).trans k0,(hb.cell (p:=⟨B1,0,none⟩) l1).trans k1,(hb.cell (p:=⟨B2,0,none⟩) l2).trans k2⟩);clear hE hI ht hx hk hD ho hC fA lA hy;go_enter Tryz.func34,Tryz.ntmps34;go_upto_region 0 with fail;clear k0 k1 k2;refine wp_region_held_drew (S:=(fun w':World=>w'.cell? ⟨B0,0,none⟩=some (.string name)/\w'.cell? ⟨B1,0,none⟩=some (.int .i64 zRj)/\w'.cell? ⟨B2,0,none⟩=some (.string data))) (by kernel_rfl) (aA.out _ nA) (fun hHeld=>?_);have cB:=nA;generalize w.drew=q0 at hHeld nA cB ⊢;refine tk 0 (h:=tk 1 (h:=tk 2 (h:=tk 3 (h:=tk 4 (h:=tk 5 (h:=tk 7 (h:=tk 8 (h:=tk 13 (h:=tk 14 (h:=tk 15 (h:=tk 16 (h:=tk 17 (h:=tk 18 (h:=?_))))))))))))));refine zJG [6,9,10,11,12,19] (fun i=>if i=10 then [9] else if i=11 then [10] else if i=12 then [11] else []) (fun i=>i+5) (fun i v w'=>(i=6->v = .agg #[.slice a0 W.zRd.n c0,.slice a1 W.zRd.hn c1])/\(i=9->v = .pointer (some ⟨bs,o2,none⟩))/\(i=10->v = .pointer (some ⟨bs,o2,none⟩))/\(i=11->v = .pointer (some ⟨bs,o2+3,none⟩))/\(i=12->v = .agg #[.int .i64 (W.zRg k).rs,.int .i64 (W.zRg k).rb])/\(i=19->v = .int .i64 W.time)) 2 (G:=fun w'=>Below w.heap.size w w') (by kernel_rfl) (by decide) (by decide) (by decide) ?_ (fun _ _ h t=>zA h t) (by assumption) cB ?_ ?_
 ·intro i v w' cA hf t;exact hf
 ·intro i hi x w2 hS hG hD K hK;simp only[List.mem_cons,List.not_mem_nil,or_false]at hi;rcases hi with rfl | rfl | rfl | rfl | rfl | rfl
  ·refine wpOp_step (zAY rfl) (fun K' bA=>?_);simp only[qX,Act.put,Nat.reduceAdd,s1,s2,s3];obtain⟨⟨c0,-⟩,⟨c1,-⟩,⟨c2,-⟩,-⟩:=HC.out.zRX hG;go_simp;refine bA _ _ (hK.out _ _ w2 ?_ (aA.out _ (zA hG (Below.refl _ _))) ⟨fun _=>rfl,fun e=>absurd e (by decide),fun e=>absurd e (by decide),fun e=>absurd e (by decide),fun e=>absurd e (by decide),fun e=>absurd e (by decide)⟩ (Below.refl _ _));simp only[qX,Act.put,Nat.reduceAdd,s1,s2,s3]
  ·refine wpOp_step (zAY rfl) (fun K' bA=>?_);simp only[qX,Act.put,Nat.reduceAdd,s1,s2,s3];go_simp;go_at_call 37;refine(pA.out _ hG).mono ?_;rintro e w3 ⟨rfl,jA⟩;refine bA _ _ (hK.out _ _ w3 ?_ (aA.out _ (zA hG jA)) ⟨fun e=>absurd e (by decide),fun _=>rfl,fun e=>absurd e (by decide),fun e=>absurd e (by decide),fun e=>absurd e (by decide),fun e=>absurd e (by decide)⟩ jA);simp only[qX,Act.put,Nat.reduceAdd,s1,s2,s3]
  ·refine wpOp_step (zAY rfl) (fun K' bA=>?_);simp only[qX,Act.put,Nat.reduceAdd,s1,s2,s3];have e9:=(hD 9 (by decide)).2.1 rfl;simp only[e9];go_simp;refine bA _ _ (hK.out _ _ w2 ?_ (aA.out _ (zA hG (Below.refl _ _))) ⟨fun e=>absurd e (by decide),fun e=>absurd e (by decide),fun _=>rfl,fun e=>absurd e (by decide),fun e=>absurd e (by decide),fun e=>absurd e (by decide)⟩ (Below.refl _ _));simp only[qX,Act.put,Nat.reduceAdd,s1,s2,s3,e9]
  ·refine wpOp_step (zAY rfl) (fun K' bA=>?_);simp only[qX,Act.put,Nat.reduceAdd,s1,s2,s3];have e9:=(hD 10 (by decide)).2.2.1 rfl;simp only[e9];go_simp;refine bA _ _ (hK.out _ _ w2 ?_ (aA.out _ (zA hG (Below.refl _ _))) ⟨fun e=>absurd e (by decide),fun e=>absurd e (by decide),fun e=>absurd e (by decide),fun _=>rfl,fun e=>absurd e (by decide),fun e=>absurd e (by decide)⟩ (Below.refl _ _));simp only[qX,Act.put,Nat.reduceAdd,s1,s2,s3,e9]
  ·refine wpOp_step (zAY rfl) (fun K' bA=>?_);simp only[qX,Act.put,Nat.reduceAdd,s1,s2,s3];have e9:=(hD 11 (by decide)).2.2.2.1 rfl;simp only[e9];obtain⟨q3,-⟩:=(kA.out.zRX hG).c3;obtain⟨q4,-⟩:=(kA.out.zRX hG).c4;go_simp;refine bA _ _ (hK.out _ _ w2 ?_ (aA.out _ (zA hG (Below.refl _ _))) ⟨fun e=>absurd e (by decide),fun e=>absurd e (by decide),fun e=>absurd e (by decide),fun e=>absurd e (by decide),fun _=>rfl,fun e=>absurd e (by decide)⟩ (Below.refl _ _));simp only[qX,Act.put,Nat.reduceAdd,s1,s2,s3,e9]
  ·refine wpOp_step (zAY rfl) (fun K' bA=>?_);simp only[qX,Act.put,Nat.reduceAdd,s1,s2,s3];obtain⟨⟨c0,-⟩,⟨c1,-⟩,⟨c2,-⟩,-⟩:=HC.out.zRX hG;go_simp;refine bA _ _ (hK.out _ _ w2 ?_ (aA.out _ (zA hG (Below.refl _ _))) ⟨fun e=>absurd e (by decide),fun e=>absurd e (by decide),fun e=>absurd e (by decide),fun e=>absurd e (by decide),fun e=>absurd e (by decide),fun _=>rfl⟩ (Below.refl _ _));simp only[qX,Act.put,Nat.reduceAdd,s1,s2,s3]
 ·intro x w2 hS hG hF;have f6:=(hF 6 (by decide)).1 rfl;have f12:=(hF 12 (by decide)).2.2.2.2.1 rfl;have ft:=(hF 19 (by decide)).2.2.2.2.2 rfl;simp only[qX,zAz,if_true,Act.put,Nat.reduceAdd,s1,s2,s3,f6,f12,ft];clear hF f6 f12 ft hHeld;refine rd [20] (rc (fun K hK=>?_) .nil);go_simp;go_at_call 36;refine(iB.out w2 hG).mono ?_;rintro e w3 ⟨v0,v1,vo,lo,hi,rfl,gB,kB,mA,rA,-,jA⟩;obtain⟨b0,d0,b1,d1,rfl,rfl⟩:=mA.at.form;obtain⟨b2,d2,rfl,-⟩:=zY rA;have fB:=zB mA;have lB:=zB rA;have dB:=zA hG jA;clear mA rA
  (try go_wp2_with fail)
  refine hK.out _ _ (aA.out _ dB) ?_;clear hK K;intro hHeld
  try simp only[Act.put,s1,s2,s3]
  refine rd [21] (rc (fun K hK=>?_) .nil);go_simp;go_at_call 35;refine(sB.out w2 w3 _ _ _ lo hi hG jA fB.out gB kB lB.out).mono ?_;rintro e w4 ⟨⟨ve,rfl⟩,pB,dA⟩;have aB:=zB dA;have bB:Below C w w4:=(dB.mono (by omega)).trans pB;clear dA
  (try go_wp2_with fail)
  refine hK.out _ _ (eA.out _ bB) ?_;clear hK K;intro hHeld
  try simp only[Act.put,s1,s2,s3]
  refine wpAnyH_done (by kernel_rfl) ?_ _;clear hHeld;go_wp2_with fail;go_end0;refine⟨⟨_,rfl⟩,bB,aB.out.1,?_⟩;rcases aB.out.2 with h | h
  ·exact Or.inl h
  ·exact Or.inr h
theorem zOX{W:zH}{x:ByteArray}(h:zAU W x):∃k,zF5 W x k:=by
 obtain⟨k,hk,hn⟩:=h
 induction k using Nat.strongRecOn with
 | _ k ih=>
  by_cases e:∃j,j<k/\(W.zRg j).name=x
  ·obtain⟨j,hj,hx⟩:=e;exact ih j hj (by omega) hx
  ·exact⟨k,hk,hn,fun j hj hx=>e ⟨j,hj,hx⟩⟩
theorem zId.all{W:zH}{a b:Prop}{m:Nat}{Q:Nat->Prop}{ei:Nat->Nat}(h:zId W a b m Q ei none):∀j,j<m->Q j:=by
 rcases h with⟨_,e⟩ | ⟨_,_,e⟩ | ⟨_,_,_,k,hk,_,_,e⟩ | ⟨_,_,_,h4,_⟩
 ·cases e
 ·cases e
 ·cases e
 ·exact h4
theorem zId.uniq{W:zH}{a b:Prop}{m:Nat}{Q:Nat->Prop}{ei:Nat->Nat}{r r':Option Nat}(h:zId W a b m Q ei r)(h':zId W a b m Q ei r'):r=r':=by
 rcases h with⟨h1,e⟩ | ⟨h1,h2,e⟩ | ⟨h1,h2,h3,i,hi,hn,hl,e⟩ | ⟨h1,h2,h3,h4,e⟩
 ·rcases h' with⟨g1,e'⟩ | ⟨g1,g2,e'⟩ | ⟨g1,g2,g3,j,hj,gn,gl,e'⟩ | ⟨g1,g2,g3,g4,e'⟩
  ·rw[e,e']
  ·exact absurd h1 g1
  ·exact absurd h1 g1
  ·exact absurd h1 g1
 ·rcases h' with⟨g1,e'⟩ | ⟨g1,g2,e'⟩ | ⟨g1,g2,g3,j,hj,gn,gl,e'⟩ | ⟨g1,g2,g3,g4,e'⟩
  ·exact absurd g1 h1
  ·rw[e,e']
  ·rcases h2 with h | h
   ·exact absurd g2 h
   ·exact absurd h g3
  ·rcases h2 with h | h
   ·exact absurd g2 h
   ·exact absurd h g3
 ·rcases h' with⟨g1,e'⟩ | ⟨g1,g2,e'⟩ | ⟨g1,g2,g3,j,hj,gn,gl,e'⟩ | ⟨g1,g2,g3,g4,e'⟩
  ·exact absurd g1 h1
  ·rcases g2 with h | h
   ·exact absurd h2 h
   ·exact absurd h h3
  ·rcases Nat.lt_trichotomy i j with h | h | h
   ·exact absurd (gl i h) hn
   ·rw[e,e',h]
   ·exact absurd (hl j h) gn
  ·exact absurd (g4 i hi) hn
 ·rcases h' with⟨g1,e'⟩ | ⟨g1,g2,e'⟩ | ⟨g1,g2,g3,j,hj,gn,gl,e'⟩ | ⟨g1,g2,g3,g4,e'⟩
  ·exact absurd g1 h1
  ·rcases g2 with h | h
   ·exact absurd h2 h
   ·exact absurd h h3
  ·exact absurd (h4 j hj) gn
  ·rw[e,e']
def zAD(W:zH)(name:ByteArray)(zRj:Int)(data:ByteArray)(w:World)(e:Ending)(w':World):Prop:=∃r o,zId W (∃i,i<2/\8000<((fun i=>match i with | 0=>name | _=>data) i).size) (∃i,i<0/\¬yI ((fun _=>⟨#[]⟩) i)) 1 (fun i=>match i with  | _=>zAU W name) (fun i=>match i with  | _=>2) r/\(r=none->∃k,zF5 W name k/\o=zBB W k (qo W.zRd (W.zRg k).rs (W.zRg k).rb zRj data W.time))/\zB0 (zMe r o) w e w'
theorem zAD.ill{W:zH}{name:ByteArray}{zRj:Int}{data:ByteArray}{w w':World}{e:Ending}{i:Nat}(hr:zId W (∃i,i<2/\8000<((fun i=>match i with | 0=>name | _=>data) i).size) (∃i,i<0/\¬yI ((fun _=>⟨#[]⟩) i)) 1 (fun i=>match i with  | _=>zAU W name) (fun i=>match i with  | _=>2) (some i))(h:zB0 (zBz (zBb i)) w e w'):zAD W name zRj data w e w':=⟨some i,zBz 0,hr,fun e=>(by cases e),h⟩
theorem zGb(p:Nat->Addr)(v0 v1 v2 v3:Value)(lo hi:Nat)(W:zH)(name:ByteArray)(zRj:Int)(data:ByteArray)(w:World)(hE:zE2 w p)(h:zk w lo hi v0 v1 v2 v3 W)(dA:zCS W)(b1:qC W.zRd<=1048576)(b2:W.sn<=1048576)(b3:W.pn<=1048576)(b4:zDj W)(bA:name.size<=maxLen)(aA:(Lit.int .i64 zRj).wf=true)(cA:data.size<=maxLen) :
  Calls Tryz.prog 10 #[zz v0 v1 v2 v3 W,.string name,.int .i64 zRj,.string data] w (zAD W name zRj data w):=by
 by_cases hs:zAU W name
 ·obtain⟨k,hk⟩:=zOX hs;refine(zD9 p v0 v1 v2 v3 lo hi W name zRj data (zBB W k (qo W.zRd (W.zRg k).rs (W.zRg k).rb zRj data W.time)) w hE h dA b1 b2 b3 b4 bA aA cA ?_).mono ?_
  ·intro B0 B1 B2 C w' z0 z1 z2 z3 k0 l0 k1 l1 k2 l2 hI _ _ hq eA hb ho hC;have hS:=(zGh W).1 hI;have hx:=dA (W.pn+k) (by have:=hk.1;unfold zq;omega);rw[yH]at hx;exact zHf p C k B0 B1 B2 z0 z1 z2 z3 W name zRj data w' (hE.zRX hb) hI (zM0 hS.zRo _) hx hk (b4.1 k hk.1) eA k0 l0 k1 l1 k2 l2 ho hC
  ·rintro e w' ⟨r,h1,h2⟩;exact⟨r,_,h1,fun _=>⟨k,hk,rfl⟩,h2⟩
 ·refine(zD9 p v0 v1 v2 v3 lo hi W name zRj data (zBz 0) w hE h dA b1 b2 b3 b4 bA aA cA ?_).mono ?_
  ·intro B0 B1 B2 C w' z0 z1 z2 z3 k0 l0 k1 l1 k2 l2 hI _ _ hq eA hb ho hC;exact absurd (hq 0 (by omega)) hs
  ·rintro e w' ⟨r,h1,h2⟩;exact⟨r,_,h1,fun e=>absurd ((e▸h1).all 0 (by omega)) hs,h2⟩
open Go.Maps
def zE5(s:qD):Nat:=s.name.size+s.dn
def zBI(f:Nat->qD):Nat->Nat
 | 0=>0
 | k+1=>zBI f k+zE5 (f k)
def zEB(s:zl):Nat:=s.name.size+s.set.size+s.dn
def zA0(f:Nat->zl):Nat->Nat
 | 0=>0
 | k+1=>zA0 f k+zEB (f k)
def yY(W:zH):Nat:=qC W.zRd+(W.sn+zBI W.zRg W.sn)+(W.pn+zA0 W.zRe W.pn)
theorem zN0(v:Value)(lo hi:Nat)(s:qD)(left:Int)(w:World)(h1:zU w lo hi v s.dn s.ds s.db)(m1:s.name.size<=maxLen)(fA:0<=left)(iA:left<=1048576) :
  Calls Tryz.prog 66 #[zDZ v s,.int .i64 left] w fun e w'=>zDJ (zE5 s) left e/\Below w.heap.size w w':=by
 unfold zDZ;have H1:=zB h1;obtain⟨-,a,c,rfl,-⟩:=id h1;clear h1;unfold maxLen at m1;have aA:=zC w (.cells #[.string s.name,.int .i64 s.origin,.int .i64 s.zRh,.int .i64 s.rs,.int .i64 s.rb,.slice a s.dn c] 116);go_enter Tryz.func66,Tryz.ntmps66;by_cases h:left - (s.name.size:Int)<0
 ·go_wp2;go_ret;exact⟨⟨-1,rfl,by omega,by omega,by omega⟩,aA⟩
 ·go_wp2_with fail;refine(zFf _ s.dn lo hi _ _ _ _ (H1.out.zRX aA) (by omega) (by omega)).mono ?_;rintro e w1 ⟨⟨r,rfl,dA,gA,eA⟩,bA⟩;have cA:=zA aA bA;have Hr:=zB dA;clear dA bA aA;by_cases h2:r<0
  ·go_wp2;go_ret;exact⟨⟨-1,rfl,by omega,by omega,by omega⟩,cA⟩
  ·go_wp2;go_ret;refine⟨⟨_,rfl,fun _=>?_,by omega,by omega⟩,cA⟩;have:=Hr.out (by omega);unfold zE5;omega
theorem zNA(v:Value)(lo hi:Nat)(s:zl)(left:Int)(w:World)(h1:zU w lo hi v s.dn s.ds s.db)(m1:s.name.size<=maxLen)(m2:s.set.size<=maxLen)(fA:0<=left)(iA:left<=1048576) :
  Calls Tryz.prog 67 #[ye v s,.int .i64 left] w fun e w'=>zDJ (zEB s) left e/\Below w.heap.size w w':=by
 unfold ye;have H1:=zB h1;obtain⟨-,a,c,rfl,-⟩:=id h1;clear h1;unfold maxLen at m1 m2;have aA:=zC w (.cells #[.int .i64 s.id,.string s.name,.string s.set,.int .i64 s.zRh,.int .i64 s.time,.int .i64 s.rs,.int .i64 s.rb,.slice a s.dn c] 119);go_enter Tryz.func67,Tryz.ntmps67;by_cases h:left - (s.name.size:Int)<0
 ·go_wp2;go_ret;exact⟨⟨-1,rfl,by omega,by omega,by omega⟩,aA⟩
 ·by_cases h':left - (s.name.size:Int) - (s.set.size:Int)<0
  ·go_wp2;go_ret;exact⟨⟨-1,rfl,by omega,by omega,by omega⟩,aA⟩
  ·go_wp2_with fail;refine(zFf _ s.dn lo hi _ _ _ _ (H1.out.zRX aA) (by omega) (by omega)).mono ?_;rintro e w1 ⟨⟨r,rfl,dA,gA,eA⟩,bA⟩;have cA:=zA aA bA;have Hr:=zB dA;clear dA bA aA;by_cases h2:r<0
   ·go_wp2;go_ret;exact⟨⟨-1,rfl,by omega,by omega,by omega⟩,cA⟩
   ·go_wp2;go_ret;refine⟨⟨_,rfl,fun _=>?_,by omega,by omega⟩,cA⟩;have:=Hr.out (by omega);unfold zEB;omega
structure yu (bs o n:Nat) (w w':World):Prop where
 zRf:zF (fun b=>b=bs) w w'
 kept:∀x v,(x<o\/o+n<=x)->zW w bs x v->zW w' bs x v
theorem yu.refl(bs o n:Nat)(w:World):yu bs o n w w:=⟨zF.refl _ _,fun _ _ _ h=>h⟩
theorem yu.set{bs o n:Nat}{w w':World}(h:yu bs o n w w')(x:Nat)(u:Value)(h1:o<=x)(h2:x<o+n):yu bs o n w (w'.setCell ⟨bs,x,none⟩ u):=
 ⟨h.zRf.setCell (p:=⟨bs,x,none⟩) rfl u,fun y v hy hc=>(h.kept y v hy hc).zRY u (Or.inr (by omega))⟩
theorem yu.zRX{bs o n:Nat}{w w' w2:World}(h:yu bs o n w w')(t:Below w'.heap.size w' w2):yu bs o n w w2:=
 ⟨h.zRf.trans (zF.zRa t),fun y v hy hc=>(h.kept y v hy hc).zRX t⟩
theorem zPl{w w1 w2:World}{bs off n k:Nat}{kb:Nat->Nat}{kv:Nat->Value}{f:Nat->qD}{s:qD}(h:∀j,j<n->zAG w bs (off+j*6) (kb j) (kv j) (f j))(cA:zBN kb n f)(hk:k<n)
  (r:yu bs (off+k*6) 6 w w1) (t:zF (fun b=>0<(f k).dn/\b=kb k) w1 w2) (c0:zW w1 bs (off+k*6) (.string s.name)) (c1:zW w1 bs ((off+k*6)+1) (.int .i64 s.origin)) (c2:zW w1 bs ((off+k*6)+2) (.int .i64 s.zRh)) (c3:zW w1 bs ((off+k*6)+3) (.int .i64 s.rs)) (c4:zW w1 bs ((off+k*6)+4) (.int .i64 s.rb)) (c5:zW w1 bs (off+k*6+5) (kv k)) (bA:s.dn=(f k).dn) (hp:zm w2 (kb k) (kv k) s.dn s.ds s.db) (hs:s.name.size<=maxLen) :
  ∀j,j<n->zAG w2 bs (off+j*6) (kb j) (kv j) (if j=k then s else f j):=by
 intro j hj;have nb:¬(0<(f k).dn/\bs=kb k):=fun hx=>(h k hk).zRk hx.1 hx.2.symm
 by_cases e:j=k
 ·subst e;rw[if_pos rfl];exact⟨c0.zRf t nb,c1.zRf t nb,c2.zRf t nb,c3.zRf t nb,c4.zRf t nb,c5.zRf t nb,hp,hs,by rw[bA];exact(h j hj).zRk⟩
 ·rw[if_neg e];have aA:=h j hj;refine⟨(r.kept _ _ (by omega) aA.c0).zRf t nb,(r.kept _ _ (by omega) aA.c1).zRf t nb,(r.kept _ _ (by omega) aA.c2).zRf t nb,(r.kept _ _ (by omega) aA.c3).zRf t nb,(r.kept _ _ (by omega) aA.c4).zRf t nb,(r.kept _ _ (by omega) aA.c5).zRf t nb,?_,aA.zRn,aA.zRk⟩;exact(aA.zRl.zRf r.zRf (fun h0 hx=>aA.zRk h0 hx)).zRf t (fun h0 hx=>cA j k hj hk e h0 hx.1 hx.2)
theorem zOI{w w1 w2:World}{bs off n k:Nat}{kb:Nat->Nat}{kv:Nat->Value}{f:Nat->zl}{s:zl}(h:∀j,j<n->zAJ w bs (off+j*8) (kb j) (kv j) (f j))(cA:zA7 kb n f)(hk:k<n)
  (r:yu bs (off+k*8) 8 w w1) (t:zF (fun b=>0<(f k).dn/\b=kb k) w1 w2) (c0:zW w1 bs (off+k*8) (.int .i64 s.id)) (c1:zW w1 bs ((off+k*8)+1) (.string s.name)) (c2:zW w1 bs ((off+k*8)+2) (.string s.set)) (c3:zW w1 bs ((off+k*8)+3) (.int .i64 s.zRh)) (c4:zW w1 bs ((off+k*8)+4) (.int .i64 s.time)) (c5:zW w1 bs ((off+k*8)+5) (.int .i64 s.rs)) (c6:zW w1 bs ((off+k*8)+6) (.int .i64 s.rb)) (c7:zW w1 bs (off+k*8+7) (kv k)) (bA:s.dn=(f k).dn) (hp:zm w2 (kb k) (kv k) s.dn s.ds s.db) (hs:s.name.size<=maxLen/\s.set.size<=maxLen) :
  ∀j,j<n->zAJ w2 bs (off+j*8) (kb j) (kv j) (if j=k then s else f j):=by
 intro j hj;have nb:¬(0<(f k).dn/\bs=kb k):=fun hx=>(h k hk).zRk hx.1 hx.2.symm
 by_cases e:j=k
 ·subst e;rw[if_pos rfl];exact⟨c0.zRf t nb,c1.zRf t nb,c2.zRf t nb,c3.zRf t nb,c4.zRf t nb,c5.zRf t nb,c6.zRf t nb,c7.zRf t nb,hp,hs,by rw[bA];exact(h j hj).zRk⟩
 ·rw[if_neg e];have aA:=h j hj;refine⟨(r.kept _ _ (by omega) aA.c0).zRf t nb,(r.kept _ _ (by omega) aA.c1).zRf t nb,(r.kept _ _ (by omega) aA.c2).zRf t nb,(r.kept _ _ (by omega) aA.c3).zRf t nb,(r.kept _ _ (by omega) aA.c4).zRf t nb,(r.kept _ _ (by omega) aA.c5).zRf t nb,(r.kept _ _ (by omega) aA.c6).zRf t nb,(r.kept _ _ (by omega) aA.c7).zRf t nb,?_,aA.zRn,aA.zRk⟩;exact(aA.zRl.zRf r.zRf (fun h0 hx=>aA.zRk h0 hx)).zRf t (fun h0 hx=>cA j k hj hk e h0 hx.1 hx.2)
end Go.Proofs.YtmgeglgboadfiaaGreatDoor
