/- A part of the proof. -/
import Derived.Test.YtmgeglgboadfiaaGreatDoorV3
import Derived.WideKeyPair
import Derived.DeepKeys4
set_option linter.unusedVariables false
set_option maxRecDepth 20000
set_option maxHeartbeats 4000000
namespace Go.Proofs.YtmgeglgboadfiaaGreatDoor
open Go.RowKit Go.Maps
theorem zKM(v0 v1 v2 v3:Value)(lo hi:Nat)(W:zH)(w:World)(h:zk w lo hi v0 v1 v2 v3 W)(hT:zBJ W)(hP:zCi W)(hs:W.sn<=8)(hp:W.pn<=20) :
  Calls Tryz.prog 77 #[zz v0 v1 v2 v3 W] w fun e w'=>zG (zGY W) e/\Below w.heap.size w w':=by
 have Hp:=zB h;have HT:=zB hT;have HP:=zB hP;obtain⟨m1,a,c,rfl,mc,-⟩:=id h.zRe;obtain⟨m2,a',c',rfl,rE,-⟩:=id h.zRg;obtain⟨m0,a0,c0,rfl,nE,-⟩:=id h.zRd.1;unfold maxLen at m0 m1 m2;have pE:W.zRd.n<=200:=hT.right.1;clear h hT hP;have oE:=zEL W.zRd.n (by omega);have ha:=zC w (.cells #[.slice a0 W.zRd.n c0,v1,.int .i64 W.time,.int .i64 W.next,.slice a' W.sn c',.slice a W.pn c] 37);have mD:(w.alloc (.cells #[.slice a0 W.zRd.n c0,v1,.int .i64 W.time,.int .i64 W.next,.slice a' W.sn c',.slice a W.pn c] 37)).heap.size=w.heap.size+1:=World.size_alloc _ _;have bE:∀W1:World,W1=w.alloc (.cells #[.slice a0 W.zRd.n c0,v1,.int .i64 W.time,.int .i64 W.next,.slice a' W.sn c',.slice a W.pn c] 37)->zi (W1.alloc (.cells (madeCells #[.bool false] W.zRd.n) 4)) w.heap.size (.slice a0 W.zRd.n c0) v1 (.int .i64 W.time) (.int .i64 W.next) (.slice a' W.sn c') (.slice a W.pn c)/\yV (W1.alloc (.cells (madeCells #[.bool false] W.zRd.n) 4)) (w.heap.size+1) W.zRd.n (fun _=>false)/\Below w.heap.size w (W1.alloc (.cells (madeCells #[.bool false] W.zRd.n) 4))/\w.heap.size+2<=(W1.alloc (.cells (madeCells #[.bool false] W.zRd.n) 4)).heap.size:=by
  rintro W1 rfl;have hB:=zi.zRZ w (.slice a0 W.zRd.n c0) v1 (.int .i64 W.time) (.int .i64 W.next) (.slice a' W.sn c') (.slice a W.pn c) 37;have hR:=yV.zRZ (w.alloc (.cells #[.slice a0 W.zRd.n c0,v1,.int .i64 W.time,.int .i64 W.next,.slice a' W.sn c',.slice a W.pn c] 37)) W.zRd.n 4;rw[mD]at hR;generalize w.alloc (.cells #[.slice a0 W.zRd.n c0,v1,.int .i64 W.time,.int .i64 W.next,.slice a' W.sn c',.slice a W.pn c] 37)=W1 at *;have b2:=zC W1 (.cells (madeCells #[.bool false] W.zRd.n) 4);exact⟨hB.zRX b2,hR,zA ha b2,by rw[World.size_alloc,mD];omega⟩
 have dE:=zB (bE _ rfl);clear bE;go_enter Tryz.func77,Tryz.ntmps77;obtain⟨⟨x0,x1⟩,⟨x2,x3⟩,⟨x4,x5⟩,⟨x6,x7⟩,⟨x8,x9⟩,⟨nA,mA⟩⟩:=zi.zRZ w (.slice a0 W.zRd.n c0) v1 (.int .i64 W.time) (.int .i64 W.next) (.slice a' W.sn c') (.slice a W.pn c) 37;go_wp2;clear x0 x1 x2 x3 x4 x5 x6 x7 x8 x9 nA mA ha
 go_loopw [4] (fun i wr=>∃k:Nat,∃f,k<=W.pn+W.sn/\i = .int .i64 k/\zi wr w.heap.size (.slice a0 W.zRd.n c0) v1 (.int .i64 W.time) (.int .i64 W.next) (.slice a' W.sn c') (.slice a W.pn c)/\yV wr (w.heap.size+1) W.zRd.n f/\zBm W k [] [] 0 f/\zKA W k/\Below w.heap.size w wr/\w.heap.size+2<=wr.heap.size) (fun i _=>W.pn+W.sn - (intOf i).toNat)
 case atStart=>
  obtain⟨s1,s2,s3,s4⟩:=dE.out;exact⟨0,fun _=>false,Nat.zero_le _,rfl,s1,s2,fun s=>⟨fun h=>absurd h (by simp),fun h=>by rcases h with⟨i,hi,_⟩ | ⟨q,hq,_⟩<;>omega⟩,fun i hi=>absurd hi (Nat.not_lt_zero _),s3,s4⟩
 case round=>
  clear dE mD;obtain⟨k,f,hk,rfl,hX,hR,hS,hA,hb,hz⟩:=hrel;have HX:=zB hX;have eA:=zB hR;have HS:=zB hS;have HA:=zB hA;clear hX hR hS hA;obtain⟨⟨x0,x1⟩,⟨x2,x3⟩,⟨x4,x5⟩,⟨x6,x7⟩,⟨x8,x9⟩,⟨nA,mA⟩⟩:=HX.out;by_cases mE:k<W.pn+W.sn
  ·have jE:(k:Int)<(W.pn+W.sn:Int):=(by omega);by_cases cE:k<W.pn
   ·have tD:(k:Int)<(W.pn:Int):=(by omega);obtain⟨b,off,vd,rfl,dB⟩:=(Hp.out.zRe.zRX hb).cells cE;have q3:=dB.c3;have q5:=dB.c5;have q6:=dB.c6;have Hm:=zB (show(zO W k).zRh=(W.zRe k).zRh/\(zO W k).rs=(W.zRe k).rs/\(zO W k).rb=(W.zRe k).rb from by rw[qQ cE];exact⟨rfl,rfl,rfl⟩);clear dB;have bA:=zC wr (.cells #[.int .i64 0,.int .i64 0] 61);have oC:=zB (HX.out.zRX bA);have cD:=zB (zc.zRZ wr (.int .i64 0) (.int .i64 0) 61);have vD:=zB (eA.out.zRX bA);have r3:=(bA.cell (zD q3)).trans q3;have r5:=(bA.cell (zD q5)).trans q5;have r6:=(bA.cell (zD q6)).trans q6;have iD:=zA hb bA;have fD:(wr.alloc (.cells #[.int .i64 0,.int .i64 0] 61)).heap.size=wr.heap.size+1:=World.size_alloc _ _;have nD:b<wr.heap.size:=zD q3;have iC:w.heap.size≠wr.heap.size:=(by omega);have sB:b≠wr.heap.size:=(by omega);obtain⟨⟨y0,y1⟩,⟨y2,y3⟩,⟨y4,y5⟩,⟨y6,y7⟩,⟨y8,y9⟩,⟨sD,pD⟩⟩:=oC.out;obtain⟨⟨p0,p1⟩,⟨p2,p3⟩⟩:=cD.out;generalize bD:(W.zRe k).zRh=x at *;generalize oA:(W.zRe k).rs=rs at *;generalize bB:(W.zRe k).rb=rb at *;have jD:=zB (And.intro bD (And.intro oA bB));clear bD oA bB;have fB:=zC wr (.cells #[.int .i64 rs,.int .i64 rb] 61);have cB:=zB (HX.out.zRX fB);have pB:=zB (zc.zRZ wr (.int .i64 rs) (.int .i64 rb) 61);have dC:=zB (eA.out.zRX fB);have iB:=zA hb fB;obtain⟨⟨z0,z1⟩,⟨z2,z3⟩,⟨z4,z5⟩,⟨z6,z7⟩,⟨z8,z9⟩,⟨lD,kD⟩⟩:=cB.out;go_wp2_with fail;clear x0 x1 x2 x3 x4 x5 x6 x7 x8 x9 nA mA y0 y1 y2 y3 y4 y5 y6 y7 y8 y9 sD pD z0 z1 z2 z3 z4 z5 z6 z7 z8 z9 lD kD p0 p1 p2 p3 r3 r5 r6 q3 q5 q6 oC cD vD iD bA fD iC sB nD fB;have kC:w.heap.size+2<=(wr.alloc (.cells #[.int .i64 rs,.int .i64 rb] 61)).heap.size:=(by rw[World.size_alloc];omega);generalize wr.alloc (.cells #[.int .i64 rs,.int .i64 rb] 61)=W3 at cB pB dC iB kC ⊢;refine(zAr _ v1 _ _ lo hi W x W3 (Hp.out.zRX iB)).mono ?_;rintro e w1 ⟨s,bb,t,rfl,hF,gA⟩;have hq:=zF6 HP.out hF;have tC:=zB (show qG W.zRd s bb by rw[hq.1,hq.2.1];exact HT.out.old x);have cC:=zB (show qG W.zRd rs rb by have:=HT.out.tree k (by unfold zq;omega);rw[Hm.out.2.1,Hm.out.2.2]at this;exact this);have HE:=zB (show zR W.zRd rs rb=yT W (zO W k)/\zR W.zRd s bb=zC5 W (zO W k)by unfold yT zC5;rw[Hm.out.1,Hm.out.2.1,Hm.out.2.2,hq.1,hq.2.1];exact⟨rfl,rfl⟩);have kA:=zC w1 (.cells #[.int .i64 s,.int .i64 bb] 61);have kB:=zB ((cB.out.zRX gA).zRX kA);have aC:=zB ((pB.out.zRX gA).zRX kA);have mB:=zB ((dC.out.zRX gA).zRX kA);have vB:=zB (zc.zRZ w1 (.int .i64 s) (.int .i64 bb) 61);have eB:=zA (zA iB gA) kA;have bC:w.heap.size+2<=(w1.alloc (.cells #[.int .i64 s,.int .i64 bb] 61)).heap.size:=(by have h1:=gA.size;have h2:=kA.size;omega);clear hq hF gA kA cB pB dC iB kC jD Hm;obtain⟨⟨x0,x1⟩,⟨x2,x3⟩,⟨x4,x5⟩,⟨x6,x7⟩,⟨x8,x9⟩,⟨nA,mA⟩⟩:=kB.out;obtain⟨⟨p0,p1⟩,⟨p2,p3⟩⟩:=vB.out;clear x4 x5 x6 x7 x8 x9 nA mA x1 x3 p1 p3;go_wp2_with fail;clear x0 x2 p0 p2;generalize w1.alloc (.cells #[.int .i64 s,.int .i64 bb] 61)=w4 at kB aC mB vB eB bC ⊢;refine(yZ _ v1 lo hi W.zRd s bb w4 (Hp.out.zRd.zRX eB) HT.out.right tC.out).mono ?_;rintro e w5 ⟨vo,rfl,sA,fA⟩;have eC:=zB (kB.out.zRX fA);have lC:=zB (aC.out.zRX fA);have sC:=zB (mB.out.zRX fA);have lA:=zB (sA.mono bC);have nB:=zA eB fA;have mC:w.heap.size+2<=w5.heap.size:=(by have h1:=fA.size;omega);clear sA fA kB aC mB vB eB bC tC;obtain⟨⟨x0,x1⟩,⟨x2,x3⟩,⟨x4,x5⟩,⟨x6,x7⟩,⟨x8,x9⟩,⟨nA,mA⟩⟩:=eC.out;obtain⟨⟨p0,p1⟩,⟨p2,p3⟩⟩:=lC.out;clear x4 x5 x6 x7 x8 x9 nA mA x1 x3 p1 p3;go_wp2_with fail;clear x0 x2 p0 p2;refine(yZ _ v1 lo hi W.zRd rs rb w5 (Hp.out.zRd.zRX nB) HT.out.right cC.out).mono ?_;rintro e w6 ⟨vn,rfl,pA,jA⟩;have pC:=zB (eC.out.zRX jA);have dD:=zB (sC.out.zRX jA);have rA:=zB (lA.out.zRX jA);have dA:=zB (pA.mono mC);have aD:=zA nB jA;have rC:w.heap.size+2<=w6.heap.size:=(by have h1:=jA.size;omega);have gD:=zB (fun j (hj:j<(zR W.zRd rs rb).length)=>zHq HT.out.right cC.out hj);have iE:=qN W.zRd rs rb;have fE:=qN W.zRd s bb;clear pA jA eC lC sC lA nB mC cC;obtain⟨an,cn,rfl,lE⟩:=zY dA.out;generalize zR W.zRd rs rb=now at *;generalize zR W.zRd s bb=old at *;go_wp2
    go_loopw [11] (fun i iA=>∃j:Nat,∃f,j<=now.length/\i = .int .i64 j/\zw iA (w.heap.size+2) vo old/\zw iA (w.heap.size+2) (.slice an now.length cn) now/\zi iA w.heap.size (.slice a0 W.zRd.n c0) v1 (.int .i64 W.time) (.int .i64 W.next) (.slice a' W.sn c') (.slice (some ⟨b,off,none⟩) W.pn c)/\yV iA (w.heap.size+1) W.zRd.n f/\zBm W k now old j f/\zCk W k now old j/\Below w.heap.size w iA/\w.heap.size+2<=iA.heap.size) (fun i _=>now.length - (intOf i).toNat)
    case atStart=>exact⟨0,f,Nat.zero_le _,rfl,rA.out,dA.out,pC.out,dD.out,zII HS.out _ _,fun q hq=>absurd hq (Nat.not_lt_zero _),aD,rC⟩
    case round=>
     clear pC dD rA dA aD rC HS HX eA hb hz;obtain⟨j,f,hj,rfl,sA,pA,hX,hR,hS,nC,hb,hz⟩:=hrel;have lA:=zB sA;have lB:=zB pA;have HX:=zB hX;have eA:=zB hR;have HS:=zB hS;have tB:=zB nC;clear sA pA hX hR hS nC;by_cases fC:j<now.length
     ·have oD:(j:Int)<(now.length:Int):=(by omega);obtain⟨b2,rB,rfl,q0,q1⟩:=(lB.out.atW (by omega)).zRb fC;obtain⟨sl,vC,rD⟩:=gD.out j fC;have gE:(sl:Int)<(W.zRd.n:Int):=(by omega);have jB:=zB vC;clear vC;go_wp2_with fail;refine(zDV _ old.length 0 _ (zf old) (zh old) (zf now j) (zh now j) _ (lA.out.atW (by omega))).mono ?_;rintro e w7 ⟨⟨t7,rfl,jC⟩,aA⟩;have gB:=zB (jC.trans zBd);have z0:=(aA.cell (p:=⟨b2,rB+j*2,none⟩) (zD q0)).trans q0;have tA:=zB (lA.out.zRX aA);have vA:=zB (lB.out.zRX aA);have eD:=zB (HX.out.zRX aA);have gC:=zB (eA.out.zRX aA);have cA:=zA hb aA;have aB:w.heap.size+2<=w7.heap.size:=(by have h1:=aA.size;omega);clear jC aA q0 q1 lA lB HX eA hb hz;cases t7
      ·have Hn:=zB (show(zf now j,zh now j)∉old from fun h=>absurd (gB.out.2 h) (by simp));clear gB;rw[jB.out]at z0;obtain⟨y0,y1⟩:=gC.out sl rD;cases hfs:f sl
       ·have oB:=zB hfs;rw[hfs]at y0;clear hfs;go_wp2;go_roundw
        case rel=>exact⟨j+1,_,by omega,by go_num,tA.out.put (by omega) _,vA.out.put (by omega) _,eD.out.zRf (zF.put _ (w.heap.size+1) sl _) (by omega),gC.out.put true,zJd HS.out jB.out Hn.out,zLM tB.out HS.out jB.out oB.out,cA.setCell (show w.heap.size<=w.heap.size+1 by omega) _,by rw[World.size_setCell];exact aB⟩
        case measure=>simp[intOf];omega
       ·have oB:=zB hfs;rw[hfs]at y0;clear hfs;go_wp2;go_ret;exact⟨zG.no (zIP HT.out (by unfold zq;omega) HE.out.1 HE.out.2 HS.out fC jB.out Hn.out oB.out),cA⟩
      ·have Hn:=zB (gB.out.1 rfl);clear gB;go_wp2;go_roundw
       case rel=>exact⟨j+1,f,by omega,by go_num,tA.out,vA.out,eD.out,gC.out,zJL HS.out Hn.out,zLU tB.out Hn.out,cA,aB⟩
       case measure=>simp[intOf];omega
     ·obtain rfl:j=now.length:=(by omega);go_wp2;go_roundw
      case rel=>exact⟨k+1,f,by omega,by go_num,HX.out,eA.out,zJU HS.out HE.out.1 HE.out.2,zIj HA.out HE.out.1 HE.out.2 tB.out,hb,hz⟩
      case measure=>simp[intOf];omega
   ·have tD:¬(k:Int)<(W.pn:Int):=(by omega);have aE:k - W.pn<W.sn:=(by omega);have kE:(k:Int) - (W.pn:Int)=((k - W.pn:Nat):Int):=(Int.ofNat_sub (by omega)).symm;have eE:((k - W.pn:Nat):Int)<(W.sn:Int):=Int.ofNat_lt.2 aE;obtain⟨b,off,vd,rfl,dB⟩:=(Hp.out.zRg.zRX hb).cells aE;have q3:=dB.c2;have q5:=dB.c3;have q6:=dB.c4;have Hm:=zB (show(zO W k).zRh=(W.zRg (k - W.pn)).zRh/\(zO W k).rs=(W.zRg (k - W.pn)).rs/\(zO W k).rb=(W.zRg (k - W.pn)).rb from by have e:=yH W (k - W.pn);rw[show W.pn+(k - W.pn)=k by omega]at e;rw[e];exact⟨rfl,rfl,rfl⟩);clear dB;have bA:=zC wr (.cells #[.int .i64 0,.int .i64 0] 61);have oC:=zB (HX.out.zRX bA);have cD:=zB (zc.zRZ wr (.int .i64 0) (.int .i64 0) 61);have vD:=zB (eA.out.zRX bA);have r3:=(bA.cell (zD q3)).trans q3;have r5:=(bA.cell (zD q5)).trans q5;have r6:=(bA.cell (zD q6)).trans q6;have iD:=zA hb bA;have fD:(wr.alloc (.cells #[.int .i64 0,.int .i64 0] 61)).heap.size=wr.heap.size+1:=World.size_alloc _ _;have nD:b<wr.heap.size:=zD q3;have iC:w.heap.size≠wr.heap.size:=(by omega);have sB:b≠wr.heap.size:=(by omega);obtain⟨⟨y0,y1⟩,⟨y2,y3⟩,⟨y4,y5⟩,⟨y6,y7⟩,⟨y8,y9⟩,⟨sD,pD⟩⟩:=oC.out;obtain⟨⟨p0,p1⟩,⟨p2,p3⟩⟩:=cD.out;generalize bD:(W.zRg (k - W.pn)).zRh=x at *;generalize oA:(W.zRg (k - W.pn)).rs=rs at *;generalize bB:(W.zRg (k - W.pn)).rb=rb at *;have jD:=zB (And.intro bD (And.intro oA bB));clear bD oA bB;have fB:=zC wr (.cells #[.int .i64 rs,.int .i64 rb] 61);have cB:=zB (HX.out.zRX fB);have pB:=zB (zc.zRZ wr (.int .i64 rs) (.int .i64 rb) 61);have dC:=zB (eA.out.zRX fB);have iB:=zA hb fB;obtain⟨⟨z0,z1⟩,⟨z2,z3⟩,⟨z4,z5⟩,⟨z6,z7⟩,⟨z8,z9⟩,⟨lD,kD⟩⟩:=cB.out;go_wp2_with fail;clear x0 x1 x2 x3 x4 x5 x6 x7 x8 x9 nA mA y0 y1 y2 y3 y4 y5 y6 y7 y8 y9 sD pD z0 z1 z2 z3 z4 z5 z6 z7 z8 z9 lD kD p0 p1 p2 p3 r3 r5 r6 q3 q5 q6 oC cD vD iD bA fD iC sB nD fB;have kC:w.heap.size+2<=(wr.alloc (.cells #[.int .i64 rs,.int .i64 rb] 61)).heap.size:=(by rw[World.size_alloc];omega);generalize wr.alloc (.cells #[.int .i64 rs,.int .i64 rb] 61)=W3 at cB pB dC iB kC ⊢;refine(zAr _ v1 _ _ lo hi W x W3 (Hp.out.zRX iB)).mono ?_;rintro e w1 ⟨s,bb,t,rfl,hF,gA⟩;have hq:=zF6 HP.out hF;have tC:=zB (show qG W.zRd s bb by rw[hq.1,hq.2.1];exact HT.out.old x);have cC:=zB (show qG W.zRd rs rb by have:=HT.out.tree k (by unfold zq;omega);rw[Hm.out.2.1,Hm.out.2.2]at this;exact this);have HE:=zB (show zR W.zRd rs rb=yT W (zO W k)/\zR W.zRd s bb=zC5 W (zO W k)by unfold yT zC5;rw[Hm.out.1,Hm.out.2.1,Hm.out.2.2,hq.1,hq.2.1];exact⟨rfl,rfl⟩);have kA:=zC w1 (.cells #[.int .i64 s,.int .i64 bb] 61);have kB:=zB ((cB.out.zRX gA).zRX kA);have aC:=zB ((pB.out.zRX gA).zRX kA);have mB:=zB ((dC.out.zRX gA).zRX kA);have vB:=zB (zc.zRZ w1 (.int .i64 s) (.int .i64 bb) 61);have eB:=zA (zA iB gA) kA;have bC:w.heap.size+2<=(w1.alloc (.cells #[.int .i64 s,.int .i64 bb] 61)).heap.size:=(by have h1:=gA.size;have h2:=kA.size;omega);clear hq hF gA kA cB pB dC iB kC jD Hm;obtain⟨⟨x0,x1⟩,⟨x2,x3⟩,⟨x4,x5⟩,⟨x6,x7⟩,⟨x8,x9⟩,⟨nA,mA⟩⟩:=kB.out;obtain⟨⟨p0,p1⟩,⟨p2,p3⟩⟩:=vB.out;clear x4 x5 x6 x7 x8 x9 nA mA x1 x3 p1 p3;go_wp2_with fail;clear x0 x2 p0 p2;generalize w1.alloc (.cells #[.int .i64 s,.int .i64 bb] 61)=w4 at kB aC mB vB eB bC ⊢;refine(yZ _ v1 lo hi W.zRd s bb w4 (Hp.out.zRd.zRX eB) HT.out.right tC.out).mono ?_;rintro e w5 ⟨vo,rfl,sA,fA⟩;have eC:=zB (kB.out.zRX fA);have lC:=zB (aC.out.zRX fA);have sC:=zB (mB.out.zRX fA);have lA:=zB (sA.mono bC);have nB:=zA eB fA;have mC:w.heap.size+2<=w5.heap.size:=(by have h1:=fA.size;omega);clear sA fA kB aC mB vB eB bC tC;obtain⟨⟨x0,x1⟩,⟨x2,x3⟩,⟨x4,x5⟩,⟨x6,x7⟩,⟨x8,x9⟩,⟨nA,mA⟩⟩:=eC.out;obtain⟨⟨p0,p1⟩,⟨p2,p3⟩⟩:=lC.out;clear x4 x5 x6 x7 x8 x9 nA mA x1 x3 p1 p3;go_wp2_with fail;clear x0 x2 p0 p2;refine(yZ _ v1 lo hi W.zRd rs rb w5 (Hp.out.zRd.zRX nB) HT.out.right cC.out).mono ?_;rintro e w6 ⟨vn,rfl,pA,jA⟩;have pC:=zB (eC.out.zRX jA);have dD:=zB (sC.out.zRX jA);have rA:=zB (lA.out.zRX jA);have dA:=zB (pA.mono mC);have aD:=zA nB jA;have rC:w.heap.size+2<=w6.heap.size:=(by have h1:=jA.size;omega);have gD:=zB (fun j (hj:j<(zR W.zRd rs rb).length)=>zHq HT.out.right cC.out hj);have iE:=qN W.zRd rs rb;have fE:=qN W.zRd s bb;clear pA jA eC lC sC lA nB mC cC;obtain⟨an,cn,rfl,lE⟩:=zY dA.out;generalize zR W.zRd rs rb=now at *;generalize zR W.zRd s bb=old at *;go_wp2
    go_loopw [11] (fun i iA=>∃j:Nat,∃f,j<=now.length/\i = .int .i64 j/\zw iA (w.heap.size+2) vo old/\zw iA (w.heap.size+2) (.slice an now.length cn) now/\zi iA w.heap.size (.slice a0 W.zRd.n c0) v1 (.int .i64 W.time) (.int .i64 W.next) (.slice (some ⟨b,off,none⟩) W.sn c') (.slice a W.pn c)/\yV iA (w.heap.size+1) W.zRd.n f/\zBm W k now old j f/\zCk W k now old j/\Below w.heap.size w iA/\w.heap.size+2<=iA.heap.size) (fun i _=>now.length - (intOf i).toNat)
    case atStart=>exact⟨0,f,Nat.zero_le _,rfl,rA.out,dA.out,pC.out,dD.out,zII HS.out _ _,fun q hq=>absurd hq (Nat.not_lt_zero _),aD,rC⟩
    case round=>
     clear pC dD rA dA aD rC HS HX eA hb hz;obtain⟨j,f,hj,rfl,sA,pA,hX,hR,hS,nC,hb,hz⟩:=hrel;have lA:=zB sA;have lB:=zB pA;have HX:=zB hX;have eA:=zB hR;have HS:=zB hS;have tB:=zB nC;clear sA pA hX hR hS nC;by_cases fC:j<now.length
     ·have oD:(j:Int)<(now.length:Int):=(by omega);obtain⟨b2,rB,rfl,q0,q1⟩:=(lB.out.atW (by omega)).zRb fC;obtain⟨sl,vC,rD⟩:=gD.out j fC;have gE:(sl:Int)<(W.zRd.n:Int):=(by omega);have jB:=zB vC;clear vC;go_wp2_with fail;refine(zDV _ old.length 0 _ (zf old) (zh old) (zf now j) (zh now j) _ (lA.out.atW (by omega))).mono ?_;rintro e w7 ⟨⟨t7,rfl,jC⟩,aA⟩;have gB:=zB (jC.trans zBd);have z0:=(aA.cell (p:=⟨b2,rB+j*2,none⟩) (zD q0)).trans q0;have tA:=zB (lA.out.zRX aA);have vA:=zB (lB.out.zRX aA);have eD:=zB (HX.out.zRX aA);have gC:=zB (eA.out.zRX aA);have cA:=zA hb aA;have aB:w.heap.size+2<=w7.heap.size:=(by have h1:=aA.size;omega);clear jC aA q0 q1 lA lB HX eA hb hz;cases t7
      ·have Hn:=zB (show(zf now j,zh now j)∉old from fun h=>absurd (gB.out.2 h) (by simp));clear gB;rw[jB.out]at z0;obtain⟨y0,y1⟩:=gC.out sl rD;cases hfs:f sl
       ·have oB:=zB hfs;rw[hfs]at y0;clear hfs;go_wp2;go_roundw
        case rel=>exact⟨j+1,_,by omega,by go_num,tA.out.put (by omega) _,vA.out.put (by omega) _,eD.out.zRf (zF.put _ (w.heap.size+1) sl _) (by omega),gC.out.put true,zJd HS.out jB.out Hn.out,zLM tB.out HS.out jB.out oB.out,cA.setCell (show w.heap.size<=w.heap.size+1 by omega) _,by rw[World.size_setCell];exact aB⟩
        case measure=>simp[intOf];omega
       ·have oB:=zB hfs;rw[hfs]at y0;clear hfs;go_wp2;go_ret;exact⟨zG.no (zIP HT.out (by unfold zq;omega) HE.out.1 HE.out.2 HS.out fC jB.out Hn.out oB.out),cA⟩
      ·have Hn:=zB (gB.out.1 rfl);clear gB;go_wp2;go_roundw
       case rel=>exact⟨j+1,f,by omega,by go_num,tA.out,vA.out,eD.out,gC.out,zJL HS.out Hn.out,zLU tB.out Hn.out,cA,aB⟩
       case measure=>simp[intOf];omega
     ·obtain rfl:j=now.length:=(by omega);go_wp2;go_roundw
      case rel=>exact⟨k+1,f,by omega,by go_num,HX.out,eA.out,zJU HS.out HE.out.1 HE.out.2,zIj HA.out HE.out.1 HE.out.2 tB.out,hb,hz⟩
      case measure=>simp[intOf];omega
  ·obtain rfl:k=W.pn+W.sn:=(by omega);go_wp2;go_ret;exact⟨zG.yes HA.out,hb⟩
def ql(W:zH)(x:Int):Prop:=∃k,k<W.pn/\(W.zRe k).id=x
def zAU(W:zH)(x:ByteArray):Prop:=∃k,k<W.sn/\(W.zRg k).name=x
def zFF(W:zH)(i:Nat):Prop:=yI (W.zRg i).name/\(0<i->zDS (W.zRg (i - 1)).name (W.zRg i).name)/\((W.zRg i).zRh≠0->ql W (W.zRg i).zRh)/\((W.zRg i).origin≠0->ql W (W.zRg i).origin)
def zG1(W:zH)(i:Nat):Prop:=1<=(W.zRe i).id/\(W.zRe i).id<W.next/\1<=(W.zRe i).time/\(W.zRe i).time<W.time/\yI (W.zRe i).name/\zAU W (W.zRe i).set
def zGF(W:zH)(i:Nat):Prop:=(0<i->(W.zRe (i - 1)).id<(W.zRe i).id/\(W.zRe (i - 1)).time<(W.zRe i).time)/\((W.zRe i).zRh≠0->(W.zRe i).zRh<(W.zRe i).id/\ql W (W.zRe i).zRh)
def zPR(W:zH)(i j:Nat):Prop:=∀k,k<j->¬((W.zRe k).set=(W.zRe i).set/\(W.zRe k).name=(W.zRe i).name)
def zPh(W:zH)(i:Nat):Prop:=zG1 W i/\zGF W i/\zPR W i i
def zBM(W:zH):Prop:=zB2 W.time 1 900000/\zB2 W.next 1 900000/\W.sn<=8/\W.pn<=20/\(∀i,i<W.sn->zFF W i)/\∀i,i<W.pn->zPh W i
theorem qe{W:zH}{x r:Int}(h:zF9 W.pn (fun k=>(W.zRe k).id=x) r):(ql W x/\0<=r/\r<W.pn/\(W.zRe r.toNat).id=x)\/(¬ql W x/\r = -1):=by
 rcases h with⟨k,hk,e,_,rfl⟩ | ⟨hn,rfl⟩
 ·exact Or.inl ⟨⟨k,hk,e⟩,by omega,by omega,by simpa using e⟩
 ·exact Or.inr ⟨fun ⟨k,hk,e⟩=>hn k hk e,rfl⟩
theorem zOd{W:zH}{x:ByteArray}{r:Int}(h:zF9 W.sn (fun k=>(W.zRg k).name=x) r):(zAU W x/\0<=r)\/(¬zAU W x/\r = -1):=by
 rcases h with⟨k,hk,e,_,rfl⟩ | ⟨hn,rfl⟩
 ·exact Or.inl ⟨⟨k,hk,e⟩,by omega⟩
 ·exact Or.inr ⟨fun ⟨k,hk,e⟩=>hn k hk e,rfl⟩
def zCP(w:World)(b:Nat)(v0 v1 v2 v3 v4 v5 v6 v7:Value):Prop:=(zW w b 0 v0/\zW w b 1 v1/\zW w b 2 v2/\zW w b 3 v3)/\(zW w b 4 v4/\zW w b 5 v5/\zW w b 6 v6/\zW w b 7 v7)
theorem zCP.zRX{w w':World}{b:Nat}{v0 v1 v2 v3 v4 v5 v6 v7:Value}(h:zCP w b v0 v1 v2 v3 v4 v5 v6 v7)(t:Below w.heap.size w w'):zCP w' b v0 v1 v2 v3 v4 v5 v6 v7:=
 ⟨⟨h.1.1.zRX t,h.1.2.1.zRX t,h.1.2.2.1.zRX t,h.1.2.2.2.zRX t⟩,h.2.1.zRX t,h.2.2.1.zRX t,h.2.2.2.1.zRX t,h.2.2.2.2.zRX t⟩
theorem zCP.zRZ(w:World)(v0 v1 v2 v3 v4 v5 v6 v7:Value)(t:TypeId):zCP (w.alloc (.cells #[v0,v1,v2,v3,v4,v5,v6,v7] t)) w.heap.size v0 v1 v2 v3 v4 v5 v6 v7:=by
 have hb:(w.alloc (.cells #[v0,v1,v2,v3,v4,v5,v6,v7] t)).heap[w.heap.size]?=some (.cells #[v0,v1,v2,v3,v4,v5,v6,v7] t):=heap_alloc_new _ _;exact⟨⟨zJ hb rfl,zJ hb rfl,zJ hb rfl,zJ hb rfl⟩,zJ hb rfl,zJ hb rfl,zJ hb rfl,zJ hb rfl⟩
open Classical in
noncomputable def yr(W:zH)(name:ByteArray):Nat->Nat
 | 0=>0
 | k+1=>yr W name k+(if (W.zRe k).set=name then 1 else 0)
theorem zHg{W:zH}{name:ByteArray}{k:Nat}(h:(W.zRe k).set=name):yr W name (k+1)=yr W name k+1:=by simp[yr,h]
theorem zKw{W:zH}{name:ByteArray}{k:Nat}(h:¬(W.zRe k).set=name):yr W name (k+1)=yr W name k:=by simp[yr,h]
theorem zHc(W:zH)(name:ByteArray):∀k,yr W name k<=k
 | 0=>Nat.le_refl _
 | k+1=>by
  have:=zHc W name k;by_cases h:(W.zRe k).set=name
  ·rw[zHg h];omega
  ·rw[zKw h];omega
inductive Steps (W:zH) (name:ByteArray) (start:Int):Nat->Int->Prop
 | zero:Steps W name start 0 start
 | next {n:Nat} {x:Int} {k:Nat}:Steps W name start n x->qs W x k->(W.zRe k).set=name->Steps W name start (n+1) (W.zRe k).zRh
def zF2(W:zH)(name:ByteArray)(x:Int):Prop:=∃k,qs W x k/\(W.zRe k).set=name
def zBh(W:zH)(name:ByteArray)(start origin:Int):Prop:=∃n e,Steps W name start n e/\¬zF2 W name e/\n=yr W name W.pn/\e=origin
theorem Steps.det{W:zH}{name:ByteArray}{start:Int}:∀{n:Nat} {x y:Int},Steps W name start n x->Steps W name start n y->x=y
 | 0,_,_,.zero,.zero=>rfl
 | n+1,_,_,.next h hk _,.next h' hk' _=>by
  have e:=Steps.det h h';subst e;rw[qs.uniq hk hk']
theorem Steps.less{W:zH}{name:ByteArray}{start:Int}:∀{n m:Nat} {x:Int},Steps W name start m x->n<m->∃y,Steps W name start n y/\zF2 W name y
 | n,0,_,_,h=>absurd h (Nat.not_lt_zero _)
 | n,m+1,_,.next (x:=x) h hk hs,hl=>by
  by_cases e:n=m
  ·subst e;exact⟨x,h,_,hk,hs⟩
  ·exact Steps.less h (by omega)
theorem Steps.end{W:zH}{name:ByteArray}{start:Int}{n m:Nat}{x y:Int}(h:Steps W name start n x)(hx:¬zF2 W name x)(h':Steps W name start m y)(hy:¬zF2 W name y):n=m/\x=y:=by
 have e:n=m:=by
  rcases Nat.lt_trichotomy n m with hl | hl | hl
  ·obtain⟨z,hz,ho⟩:=h'.less hl;rw[h.det hz]at hx;exact absurd ho hx
  ·exact hl
  ·obtain⟨z,hz,ho⟩:=h.less hl;rw[h'.det hz]at hy;exact absurd ho hy
 subst e;exact⟨rfl,h.det h'⟩
theorem zCn{W:zH}{name:ByteArray}{start origin:Int}{n:Nat}{x:Int}(h:Steps W name start n x)(hx:¬zF2 W name x):zBh W name start origin↔n=yr W name W.pn/\x=origin:=by
 constructor
 ·rintro⟨m,y,hs,hy,h1,h2⟩;obtain⟨rfl,rfl⟩:=h.end hx hs hy;exact⟨h1,h2⟩
 ·rintro⟨h1,h2⟩;exact⟨n,x,h,hx,h1,h2⟩
theorem zIR{W:zH}{x r:Int}{k:Nat}(hk:qs W x k)(h:zF9 W.pn (fun k=>(W.zRe k).id=x) r):r=(k:Int):=by
 rcases h with⟨j,hj,e,hm,rfl⟩ | ⟨hn,_⟩
 ·rw[qs.uniq hk ⟨hj,e,hm⟩]
 ·exact absurd hk.2.1 (hn k hk.1)
theorem ql.no{W:zH}{x:Int}(h:ql W x):∃k,qs W x k:=zGg (Nat.le_refl _) h
structure zCJ (W:zH):Prop where
 ids:∀k,k<W.pn->1<=(W.zRe k).id/\(W.zRe k).id<900000
 zRh:∀k,k<W.pn->(W.zRe k).zRh=0\/ql W (W.zRe k).zRh
 less:∀k,k<W.pn->(W.zRe k).zRh<(W.zRe k).id
 zRg:∀k,k<W.sn->(W.zRg k).zRh=0\/ql W (W.zRg k).zRh
 zRo:∀k,k<W.sn->(W.zRg k).name.toList.isEmpty=false
theorem zCJ.pos{W:zH}(h:zCJ W):zCi W:=fun k hk=>(h.ids k hk).1
theorem ql.range{W:zH}(h:zCJ W){x:Int}(hx:ql W x):1<=x/\x<900000:=by
 obtain⟨k,hk,rfl⟩:=hx;exact h.ids k hk
theorem zDM{s:ByteArray}(h:yI s):s.toList.isEmpty=false:=by
 have:=h.1;rw[Go.ByteArray.toList_eq];cases s with
 | mk d=>
  cases hd:d.toList with
  | nil=>
   have h0:d.size=0:=(by rw[<-Array.length_toList,hd];rfl);have h1:1<=d.size:=this;omega
  | cons a l=>simp
theorem zBM.prevOk{W:zH}(h:zBM W):zCJ W where
 ids:=fun k hk=>⟨(h.2.2.2.2.2 k hk).1.1,by have:=(h.2.2.2.2.2 k hk).1.2.1;have:=h.2.1.2;omega⟩
 zRh:=fun k hk=>by
  by_cases e:(W.zRe k).zRh=0
  ·exact Or.inl e
  ·exact Or.inr ((h.2.2.2.2.2 k hk).2.1.2 e).2
 less:=fun k hk=>by
  by_cases e:(W.zRe k).zRh=0
  ·have:=(h.2.2.2.2.2 k hk).1.1;omega
  ·exact((h.2.2.2.2.2 k hk).2.1.2 e).1
 zRg:=fun k hk=>by
  by_cases e:(W.zRg k).zRh=0
  ·exact Or.inl e
  ·exact Or.inr ((h.2.2.2.2.1 k hk).2.2.1 e)
 zRo:=fun k hk=>zDM (h.2.2.2.2.1 k hk).1
structure zCo (W:zH) (name:ByteArray) (start:Int) (n:Nat) (x:Int):Prop where
 steps:Steps W name start n x
 there:x=0\/ql W x
 least:0<=x
 sum:(n:Int)+x<=900000
theorem zCo.start{W:zH}(h:zCJ W)(name:ByteArray){x:Int}(hx:x=0\/ql W x):zCo W name x 0 x where
 steps:=.zero
 there:=hx
 least:=by rcases hx with rfl | hx;exact Int.le_refl _;have:=hx.range h;omega
 sum:=by rcases hx with rfl | hx;decide;have:=hx.range h;omega
theorem zCo.next{W:zH}(h:zCJ W){name:ByteArray}{start:Int}{n:Nat}{x:Int}(hw:zCo W name start n x){k:Nat}(hk:qs W x k)(hs:(W.zRe k).set=name):zCo W name start (n+1) (W.zRe k).zRh where
 steps:=hw.steps.next hk hs
 there:=h.zRh k hk.1
 least:=by rcases h.zRh k hk.1 with e | e;omega;have:=e.range h;omega
 sum:=by have h1:=h.less k hk.1;have h2:=hw.sum;have h3:=hk.2.1;omega
theorem zKW{W:zH}(h:zCJ W)(name:ByteArray):¬zF2 W name 0:=fun ⟨k,hk,_⟩=>by
 have:=(h.ids k hk.1).1;have:=hk.2.1;omega
theorem zMT{W:zH}{name:ByteArray}{x:Int}{k:Nat}(hk:qs W x k)(hs:¬(W.zRe k).set=name):¬zF2 W name x:=fun ⟨j,hj,e⟩=>hs (by rw[qs.uniq hk hj];exact e)
theorem zIv(v0 v1 v2 v3:Value)(lo hi:Nat)(W:zH)(w:World)(h:zk w lo hi v0 v1 v2 v3 W)(hP:zCJ W)(hs:W.sn<=8)(hp:W.pn<=20) :
  Calls Tryz.prog 70 #[zz v0 v1 v2 v3 W] w fun e w'=>zG (∀i,i<W.sn->zBh W (W.zRg i).name (W.zRg i).zRh (W.zRg i).origin) e/\Below w.heap.size w w':=by
 have Hp:=zB h;have HP:=zB hP;obtain⟨m1,a,c,rfl,mc,-⟩:=id h.zRe;obtain⟨m2,a',c',rfl,aC,-⟩:=id h.zRg;unfold maxLen at m1 m2;clear h hP;have ha:=zC w (.cells #[v0,v1,.int .i64 W.time,.int .i64 W.next,.slice a' W.sn c',.slice a W.pn c] 37);have HB:=zB (zi.zRZ w v0 v1 (.int .i64 W.time) (.int .i64 W.next) (.slice a' W.sn c') (.slice a W.pn c) 37);go_enter Tryz.func70,Tryz.ntmps70;go_wp2
 go_loopw [3] (fun i wr=>∃k:Nat,k<=W.sn/\i = .int .i64 k/\(∀j,j<k->zBh W (W.zRg j).name (W.zRg j).zRh (W.zRg j).origin)/\zi wr w.heap.size v0 v1 (.int .i64 W.time) (.int .i64 W.next) (.slice a' W.sn c') (.slice a W.pn c)/\Below w.heap.size w wr) (fun i _=>W.sn - (intOf i).toNat)
 case atStart=>exact⟨0,Nat.zero_le _,rfl,fun j hj=>absurd hj (Nat.not_lt_zero _),HB.out,ha⟩
 case round=>
  obtain⟨k,hk,rfl,nA,hX,hb⟩:=hrel;have jA:=zB nA;have HX:=zB hX;clear nA hX ha HB;obtain⟨⟨x0,-⟩,⟨x2,-⟩,⟨x4,-⟩,⟨x6,-⟩,⟨x8,-⟩,⟨gA,-⟩⟩:=HX.out;by_cases cA:k<W.sn;rotate_left
  ·obtain rfl:k=W.sn:=(by omega);go_wp2;go_ret;exact⟨zG.yes jA.out,hb⟩
  have kB:(k:Int)<(W.sn:Int):=(by omega);obtain⟨b,off,vd,rfl,-⟩:=(Hp.out.zRg.zRX hb).cells cA;go_wp2;clear x0 x2 x4 x6 x8 gA
  go_loopw [5,6] (fun o i wr=>∃j:Nat,j<=W.pn/\i = .int .i64 j/\o = .int .i64 (yr W (W.zRg k).name j)/\zi wr w.heap.size v0 v1 (.int .i64 W.time) (.int .i64 W.next) (.slice (some ⟨b,off,none⟩) W.sn c') (.slice a W.pn c)/\Below w.heap.size w wr) (fun _ i _=>W.pn - (intOf i).toNat)
  case atStart=>exact⟨0,Nat.zero_le _,rfl,rfl,HX.out,hb⟩
  case round=>
   clear HX hb;obtain⟨j,hj,rfl,rfl,hX,hb⟩:=hrel;have HX:=zB hX;clear hX;obtain⟨⟨x0,-⟩,⟨x2,-⟩,⟨x4,-⟩,⟨x6,-⟩,⟨x8,-⟩,⟨gA,-⟩⟩:=HX.out;obtain⟨b',vA,pB,e',eA⟩:=(Hp.out.zRg.zRX hb).cells cA;cases e';have n0:=eA.c0;have n1:=eA.c1;have n2:=eA.c2;clear eA;have sB:=zHc W (W.zRg k).name j;by_cases gB:j<W.pn
   ·have lB:(j:Int)<(W.pn:Int):=(by omega);obtain⟨b2,aA,oB,rfl,kA⟩:=(Hp.out.zRe.zRX hb).cells gB;have q2:=kA.c2;clear kA;have bC:((yr W (W.zRg k).name j:Nat):Int)<1000:=(by omega);by_cases he:(W.zRe j).set=(W.zRg k).name
    ·have f1:=zCv he;have H1:=zB (zHg he);clear he;go_wp2
     go_quiet (fail)
     go_wp2;go_roundw
     case rel=>exact⟨j+1,by omega,by go_num,by rw[H1.out];go_num,HX.out.zRX (zg (Below.refl _ _) _),zg hb _⟩
     case measure=>simp[intOf];omega
    ·have f1:=zEm he;have H1:=zB (zKw he);clear he;go_wp2
     go_quiet (fail)
     go_wp2;go_roundw
     case rel=>exact⟨j+1,by omega,by go_num,by rw[H1.out],HX.out.zRX (zg (Below.refl _ _) _),zg hb _⟩
     case measure=>simp[intOf];omega
   ·obtain rfl:j=W.pn:=(by omega);go_wp2;clear x0 x2 x4 x6 x8 gA n0 n1 n2
    go_loopw [4,7] (fun i x wr=>∃(n:Nat) (y:Int),i = .int .i64 n/\x = .int .i64 y/\zCo W (W.zRg k).name (W.zRg k).zRh n y/\zi wr w.heap.size v0 v1 (.int .i64 W.time) (.int .i64 W.next) (.slice (some ⟨b,off,none⟩) W.sn c') (.slice a W.pn c)/\Below w.heap.size w wr) (fun _ x _=>(intOf x).toNat)
    case atStart=>exact⟨0,_,rfl,rfl,zCo.start HP.out _ (HP.out.zRg k cA),HX.out,hb⟩
    case round=>
     clear HX hb;obtain⟨n,y,rfl,rfl,hw,hX,hb⟩:=hrel;have HX:=zB hX;have Hw:=zB hw;have jB:=hw.sum;have tB:=hw.least;clear hX hw;obtain⟨⟨x0,-⟩,⟨x2,-⟩,⟨x4,-⟩,⟨x6,-⟩,⟨x8,-⟩,⟨gA,-⟩⟩:=HX.out;obtain⟨b',vA,pB,e',eA⟩:=(Hp.out.zRg.zRX hb).cells cA;cases e';have n0:=eA.c0;have n1:=eA.c1;clear eA;by_cases hz:y=0
     ·have iA:=zB (show ¬zF2 W (W.zRg k).name y by rw[hz];exact zKW HP.out _);have rA:(y == 0)=true:=(by simp[hz]);have pA:decide (y=0)=true:=(by simp[hz]);have tA:(y != 0)=false:=(by simp[hz]);clear hz;go_wp2_with fail
      go_quiet (fail)
      clear rA pA tA;have dA:=zB HX.out;clear x0 x2 x4 x6 x8 gA;obtain⟨⟨e0,-⟩,⟨e2,-⟩,⟨e4,-⟩,⟨e6,-⟩,⟨e8,-⟩,⟨dB,-⟩⟩:=dA.out;by_cases h1:n=yr W (W.zRg k).name W.pn
      ·by_cases h2:y=(W.zRg k).origin
       ·have Hl:=zB ((zCn (origin:=(W.zRg k).origin) Hw.out.steps iA.out).2 ⟨h1,h2⟩);have g1:((n:Int) == (yr W (W.zRg k).name W.pn:Int))=true:=(by simp[h1]);have g2:((n:Int) != (yr W (W.zRg k).name W.pn:Int))=false:=(by simp[h1]);have g3:decide ((n:Int)=(yr W (W.zRg k).name W.pn:Int))=true:=(by simp[h1]);have g4:(y == (W.zRg k).origin)=true:=(by simp[h2]);have g5:(y != (W.zRg k).origin)=false:=(by simp[h2]);have g6:decide (y=(W.zRg k).origin)=true:=(by simp[h2]);clear h1 h2;go_wp2;go_roundw
        case rel=>exact⟨k+1,by omega,by go_num,zo cA jA.out Hl.out,HX.out.zRX (zg (Below.refl _ _) _),zg hb _⟩
        case measure=>simp[intOf];omega
       ·have Hl:=zB (show ¬zBh W (W.zRg k).name (W.zRg k).zRh (W.zRg k).origin from fun h=>h2 ((zCn Hw.out.steps iA.out).1 h).2);have g1:((n:Int) == (yr W (W.zRg k).name W.pn:Int))=true:=(by simp[h1]);have g2:((n:Int) != (yr W (W.zRg k).name W.pn:Int))=false:=(by simp[h1]);have g3:decide ((n:Int)=(yr W (W.zRg k).name W.pn:Int))=true:=(by simp[h1]);have g4:(y == (W.zRg k).origin)=false:=(by simp[h2]);have g5:(y != (W.zRg k).origin)=true:=(by simp[h2]);have g6:decide (y=(W.zRg k).origin)=false:=(by simp[h2]);clear h1 h2;go_wp2;go_ret;exact⟨zG.no fun hA=>Hl.out (hA k cA),zg hb _⟩
      ·have Hl:=zB (show ¬zBh W (W.zRg k).name (W.zRg k).zRh (W.zRg k).origin from fun h=>h1 ((zCn Hw.out.steps iA.out).1 h).1);have h3:¬(n:Int)=(yr W (W.zRg k).name W.pn:Int):=(by omega);have g1:((n:Int) == (yr W (W.zRg k).name W.pn:Int))=false:=(by simp[h3]);have g2:((n:Int) != (yr W (W.zRg k).name W.pn:Int))=true:=(by simp[h3]);have g3:decide ((n:Int)=(yr W (W.zRg k).name W.pn:Int))=false:=(by simp[h3]);clear h1 h3;go_wp2;go_ret;exact⟨zG.no fun hA=>Hl.out (hA k cA),zg hb _⟩
     ·obtain⟨kk,sA⟩:=(Hw.out.there.resolve_left hz).no;have oA:=zB sA;have cB:kk<W.pn:=sA.1;have iB:(kk:Int)<(W.pn:Int):=(by omega);have bB:=(HP.out.ids kk cB).1;have aB:=sA.2.1;have vB:1<=y:=(by omega);have mA:=HP.out.less kk cB;have fB:=zB (show(W.zRe kk).zRh<y by omega);clear sA bB aB mA;have rA:(y == 0)=false:=(by simp[hz]);have pA:decide (y=0)=false:=(by simp[hz]);have tA:(y != 0)=true:=(by simp[hz]);clear hz;obtain⟨b2,aA,oB,rfl,kA⟩:=(Hp.out.zRe.zRX hb).cells cB;have q2:=kA.c2;have q3:=kA.c3;clear kA;by_cases he:(W.zRe kk).set=(W.zRg k).name
      ·have eB:=zB (Hw.out.next HP.out oA.out he);rw[he]at q2;clear he;go_wp2_with fail;go_region_held3 (fun w'=>w'.cell? ⟨w.heap.size,0,none⟩=some v0/\w'.cell? ⟨w.heap.size,1,none⟩=some v1/\w'.cell? ⟨w.heap.size,2,none⟩=some (.int .i64 W.time)/\w'.cell? ⟨w.heap.size,3,none⟩=some (.int .i64 W.next)/\w'.cell? ⟨w.heap.size,4,none⟩=some (.slice (some ⟨b,off,none⟩) W.sn c')/\w'.cell? ⟨w.heap.size,5,none⟩=some (.slice (some ⟨b2,aA,none⟩) W.pn c)/\w'.cell? ⟨b2,aA+kk*8+2,none⟩=some (.string (W.zRg k).name)/\w'.cell? ⟨b,off+k*6,none⟩=some (.string (W.zRg k).name)) (go_keep)
        (first | (go_at_call 49;refine(qI v0 v1 _ _ lo hi W y _ ?_).mono ?_;(exact(Hp.out.zRX hb).zRX (Below.refl _ _).drew);rintro e w6 ⟨r,rfl,hF,bA⟩;obtain rfl:=zIR oA.out hF;obtain⟨⟨y0,_⟩,⟨y1,_⟩,⟨y2,_⟩,⟨y3,_⟩,⟨y4,_⟩,⟨y5,_⟩⟩:=HX.out.zRX (zK bA);have z2:=(bA.cell (p:=⟨b2,aA+kk*8+2,none⟩) (zD q2)).trans q2;have z0:=(bA.cell (p:=⟨b,off+k*6,none⟩) (zD n0)).trans n0))
       have dA:=zB (HX.out.zRX (zK bA));have fA:=qd hb bA;have z3:=(bA.cell (p:=⟨b2,aA+kk*8+3,none⟩) (zD q3)).trans q3;have z1:=(bA.cell (p:=⟨b,off+k*6+1,none⟩) (zD n1)).trans n1;clear bA HX hb hF y0 y1 y2 y3 y4 y5 x0 x2 x4 x6 x8 gA q2 q3 n0 n1 rA pA tA;have rB:(n:Int)<1000000:=(by omega);obtain⟨⟨e0,-⟩,⟨e2,-⟩,⟨e4,-⟩,⟨e6,-⟩,⟨e8,-⟩,⟨dB,-⟩⟩:=dA.out;go_wp2_with fail;go_region_held3 (fun w'=>w'.cell? ⟨w.heap.size,0,none⟩=some v0/\w'.cell? ⟨w.heap.size,1,none⟩=some v1/\w'.cell? ⟨w.heap.size,2,none⟩=some (.int .i64 W.time)/\w'.cell? ⟨w.heap.size,3,none⟩=some (.int .i64 W.next)/\w'.cell? ⟨w.heap.size,4,none⟩=some (.slice (some ⟨b,off,none⟩) W.sn c')/\w'.cell? ⟨w.heap.size,5,none⟩=some (.slice (some ⟨b2,aA,none⟩) W.pn c)/\w'.cell? ⟨b2,aA+kk*8+3,none⟩=some (.int .i64 (W.zRe kk).zRh)) (go_keep)
        (first | (go_at_call 49;refine(qI v0 v1 _ _ lo hi W y _ ?_).mono ?_;(exact(Hp.out.zRX fA).zRX (Below.refl _ _).drew);rintro e w7 ⟨r,rfl,hF,lA⟩;obtain rfl:=zIR oA.out hF;obtain⟨⟨y0,_⟩,⟨y1,_⟩,⟨y2,_⟩,⟨y3,_⟩,⟨y4,_⟩,⟨y5,_⟩⟩:=dA.out.zRX (zK lA);have z4:=(lA.cell (p:=⟨b2,aA+kk*8+3,none⟩) (zD z3)).trans z3))
       have mB:=zB (dA.out.zRX (zK lA));have nB:=qd fA lA;clear lA dA fA hF y0 y1 y2 y3 y4 y5 e0 e2 e4 e6 e8 dB;go_wp2;go_roundw
       case rel=>exact⟨n+1,_,by go_num,rfl,eB.out,mB.out,nB⟩
       case measure=>simp[intOf];have:=fB.out;have:=eB.out.least;omega
      have iA:=zB (zMT oA.out he);have f1:=zEm he;clear he;go_wp2_with fail;go_region_held3 (fun w'=>w'.cell? ⟨w.heap.size,0,none⟩=some v0/\w'.cell? ⟨w.heap.size,1,none⟩=some v1/\w'.cell? ⟨w.heap.size,2,none⟩=some (.int .i64 W.time)/\w'.cell? ⟨w.heap.size,3,none⟩=some (.int .i64 W.next)/\w'.cell? ⟨w.heap.size,4,none⟩=some (.slice (some ⟨b,off,none⟩) W.sn c')/\w'.cell? ⟨w.heap.size,5,none⟩=some (.slice (some ⟨b2,aA,none⟩) W.pn c)/\w'.cell? ⟨b2,aA+kk*8+2,none⟩=some (.string (W.zRe kk).set)/\w'.cell? ⟨b,off+k*6,none⟩=some (.string (W.zRg k).name)) (go_keep)
       (first | (go_at_call 49;refine(qI v0 v1 _ _ lo hi W y _ ?_).mono ?_;(exact(Hp.out.zRX hb).zRX (Below.refl _ _).drew);rintro e w6 ⟨r,rfl,hF,bA⟩;obtain rfl:=zIR oA.out hF;obtain⟨⟨y0,_⟩,⟨y1,_⟩,⟨y2,_⟩,⟨y3,_⟩,⟨y4,_⟩,⟨y5,_⟩⟩:=HX.out.zRX (zK bA);have z2:=(bA.cell (p:=⟨b2,aA+kk*8+2,none⟩) (zD q2)).trans q2;have z0:=(bA.cell (p:=⟨b,off+k*6,none⟩) (zD n0)).trans n0))
      have dA:=zB (HX.out.zRX (zK bA));have fA:=qd hb bA;have z3:=(bA.cell (p:=⟨b2,aA+kk*8+3,none⟩) (zD q3)).trans q3;have z1:=(bA.cell (p:=⟨b,off+k*6+1,none⟩) (zD n1)).trans n1;clear bA HX hb hF y0 y1 y2 y3 y4 y5 x0 x2 x4 x6 x8 gA q2 q3 n0 n1 rA pA tA;clear f1;obtain⟨⟨e0,-⟩,⟨e2,-⟩,⟨e4,-⟩,⟨e6,-⟩,⟨e8,-⟩,⟨dB,-⟩⟩:=dA.out;by_cases h1:n=yr W (W.zRg k).name W.pn
      ·by_cases h2:y=(W.zRg k).origin
       ·have Hl:=zB ((zCn (origin:=(W.zRg k).origin) Hw.out.steps iA.out).2 ⟨h1,h2⟩);have g1:((n:Int) == (yr W (W.zRg k).name W.pn:Int))=true:=(by simp[h1]);have g2:((n:Int) != (yr W (W.zRg k).name W.pn:Int))=false:=(by simp[h1]);have g3:decide ((n:Int)=(yr W (W.zRg k).name W.pn:Int))=true:=(by simp[h1]);have g4:(y == (W.zRg k).origin)=true:=(by simp[h2]);have g5:(y != (W.zRg k).origin)=false:=(by simp[h2]);have g6:decide (y=(W.zRg k).origin)=true:=(by simp[h2]);clear h1 h2;go_wp2;go_roundw
        case rel=>exact⟨k+1,by omega,by go_num,zo cA jA.out Hl.out,dA.out,fA⟩
        case measure=>simp[intOf];omega
       ·have Hl:=zB (show ¬zBh W (W.zRg k).name (W.zRg k).zRh (W.zRg k).origin from fun h=>h2 ((zCn Hw.out.steps iA.out).1 h).2);have g1:((n:Int) == (yr W (W.zRg k).name W.pn:Int))=true:=(by simp[h1]);have g2:((n:Int) != (yr W (W.zRg k).name W.pn:Int))=false:=(by simp[h1]);have g3:decide ((n:Int)=(yr W (W.zRg k).name W.pn:Int))=true:=(by simp[h1]);have g4:(y == (W.zRg k).origin)=false:=(by simp[h2]);have g5:(y != (W.zRg k).origin)=true:=(by simp[h2]);have g6:decide (y=(W.zRg k).origin)=false:=(by simp[h2]);clear h1 h2;go_wp2;go_ret;exact⟨zG.no fun hA=>Hl.out (hA k cA),fA⟩
      ·have Hl:=zB (show ¬zBh W (W.zRg k).name (W.zRg k).zRh (W.zRg k).origin from fun h=>h1 ((zCn Hw.out.steps iA.out).1 h).1);have h3:¬(n:Int)=(yr W (W.zRg k).name W.pn:Int):=(by omega);have g1:((n:Int) == (yr W (W.zRg k).name W.pn:Int))=false:=(by simp[h3]);have g2:((n:Int) != (yr W (W.zRg k).name W.pn:Int))=true:=(by simp[h3]);have g3:decide ((n:Int)=(yr W (W.zRg k).name W.pn:Int))=false:=(by simp[h3]);clear h1 h3;go_wp2;go_ret;exact⟨zG.no fun hA=>Hl.out (hA k cA),fA⟩
def zDF(W:zH)(i:Nat):Prop:=zDn (zO W i).dn (zO W i).ds (zO W i).db (zAQ (zC5 W (zO W i)) (yT W (zO W i)))
structure zNZ (W:zH):Prop where
 right:zx W.zRd
 zRo:zBM W
 lines:∀i,i<W.sn->zBh W (W.zRg i).name (W.zRg i).zRh (W.zRg i).origin
 zRe:∀i,i<W.pn->qG W.zRd (W.zRe i).rs (W.zRe i).rb
 zRg:∀i,i<W.sn->qG W.zRd (W.zRg i).rs (W.zRg i).rb/\zDF W (W.pn+i)
 zRl:∀i,i<W.pn->zDF W i
 reach:zEu W
 born:∀i,i<zq W->zC2 W i
 zRk:zGY W
theorem zPI{W:zH}(h:∀k,k<W.pn->qG W.zRd (W.zRe k).rs (W.zRe k).rb)(x:Int):qG W.zRd (zN W x).rs (zN W x).rb:=by
 by_cases hx:∃k,qs W x k
 ·obtain⟨k,hk⟩:=hx;rw[qu hk];exact h k hk.1
 ·have:zN W x=yL:=by
   unfold zN;rw[dif_neg hx]
  rw[this];exact Or.inl ⟨rfl,rfl⟩
theorem zHp{W:zH}(hR:zx W.zRd)(hN:zBM W)(h1:∀i,i<W.pn->qG W.zRd (W.zRe i).rs (W.zRe i).rb)(h2:∀i,i<W.sn->qG W.zRd (W.zRg i).rs (W.zRg i).rb):zBJ W where
 right:=hR
 ids:=hN.prevOk.less
 tree:=fun i hi=>by
  by_cases hp:i<W.pn
  ·rw[qQ hp];exact h1 i hp
  ·have e:=yH W (i - W.pn);rw[show W.pn+(i - W.pn)=i by omega]at e;rw[e];unfold zq at hi;exact h2 _ (by omega)
 time:=fun i hi=>by
  by_cases hp:i<W.pn
  ·rw[qQ hp];have:1<=(W.zRe i).time:=(hN.2.2.2.2.2 i hp).1.2.2.1;show 0<=(W.zRe i).time;omega
  ·have e:=yH W (i - W.pn);rw[show W.pn+(i - W.pn)=i by omega]at e;rw[e];have:1<=W.time:=hN.1.1;show 0<=W.time;omega
theorem zN6{v0 v1 v2 v3 vd:Value}{lo hi:Nat}{W:zH}{w:World}(h:zk w lo hi v0 v1 v2 v3 W)(hR:zx W.zRd)(hO:∀k,k<W.pn->qG W.zRd (W.zRe k).rs (W.zRe k).rb)(hP:zCi W){k:Nat}(hk:k<W.pn)(hD:zU w lo hi vd (W.zRe k).dn (W.zRe k).ds (W.zRe k).db)(w':World)(hb:Below w.heap.size w w') :
  Calls Tryz.prog 72 #[zz v0 v1 v2 v3 W,.int .i64 (W.zRe k).zRh,.agg #[.int .i64 (W.zRe k).rs,.int .i64 (W.zRe k).rb],vd] w' fun e aA=>zG (zDF W k) e/\Below w'.heap.size w' aA:=by
 unfold zDF;rw[qQ hk];exact zG2 v0 v1 v2 v3 vd lo hi lo hi _ _ _ W _ _ _ _ _ w' (h.zRX hb) (hD.zRX hb) hR (hO k hk) (zPI hO _) hP rfl rfl
theorem zP5{v0 v1 v2 v3 vd:Value}{lo hi:Nat}{W:zH}{w:World}(h:zk w lo hi v0 v1 v2 v3 W)(hR:zx W.zRd)(hO:∀k,k<W.pn->qG W.zRd (W.zRe k).rs (W.zRe k).rb)(hP:zCi W){k:Nat}(hT:qG W.zRd (W.zRg k).rs (W.zRg k).rb)(hD:zU w lo hi vd (W.zRg k).dn (W.zRg k).ds (W.zRg k).db)(w':World)(hb:Below w.heap.size w w') :
  Calls Tryz.prog 72 #[zz v0 v1 v2 v3 W,.int .i64 (W.zRg k).zRh,.agg #[.int .i64 (W.zRg k).rs,.int .i64 (W.zRg k).rb],vd] w' fun e aA=>zG (zDF W (W.pn+k)) e/\Below w'.heap.size w' aA:=by
 unfold zDF;rw[yH];exact zG2 v0 v1 v2 v3 vd lo hi lo hi _ _ _ W _ _ _ _ _ w' (h.zRX hb) (hD.zRX hb) hR hT (zPI hO _) hP rfl rfl
def zCV(v:Value):Option (DataW Value×List MemPlace):=some (.held v,[])
theorem zEK{v:Value}{d:DataW Value}{ps:List MemPlace}(h:zCV v=some (d,ps)):d = .held v:=by
 unfold zCV at h;simp only[Option.some.injEq,Prod.mk.injEq]at h;exact h.1.symm
theorem zB1(v:Value):zCV v=some (.held v,[]):=rfl
theorem zFm{P:Program}(w:World){eA:Array Oper}{aA:List Oper}{o:Oper}{a:Act}{Q:Exit->Act->World->Prop}
  (hg:o.guard=none) (m x:Operand) (t:TypeId) (hop:o.op=Op.lookup t m x false)
  (k e:TypeId) (K:Keyed P k) (ht:P.underlying t=some (.map k e)) {z:Value} (hz:(zeroValue e).run P w = .ok z w) (b n:Nat) (D:DataW Value)
  (hm:a.eval m = .map (some b)) (bA:w.ownsMap P k zCV b n D) (key:Value) (kl:Lit) (hx:a.eval x=key) (dA:keyOf P k key=some kl)
  (v:Value) (gA:D.atKey kl (.held z) = .held v) (hK:wpList P eA Q aA (a.put o.dst v) w) :
  wpList P eA Q (o :: aA) a w:=by
 refine wpList_plain hg fun K' fA=>?_
 obtain⟨v',ps,cA,hv⟩:=bA.lookup K ht hz (zB1 z) dA;have e1:=zEK hv;rw[gA]at e1;injection e1 with e1;subst e1;unfold Oper.wp;simp[execOp,hop,hm,hx,cA,Result.andThen];exact fA _ _ hK
theorem zAE{P:Program}(w:World){dA:Array Oper}{aA:List Oper}{o:Oper}{a:Act}{Q:Exit->Act->World->Prop}
  (hg:o.guard=none) (m x:Operand) (t:TypeId) (hop:o.op=Op.lookup t m x true)
  (k e:TypeId) (K:Keyed P k) (ht:P.underlying t=some (.map k e)) {z:Value} (hz:(zeroValue e).run P w = .ok z w) (b n:Nat) (D:DataW Value)
  (hm:a.eval m = .map (some b)) (bA:w.ownsMap P k zCV b n D) (key:Value) (kl:Lit) (hx:a.eval x=key) (cA:keyOf P k key=some kl)
  (v:Value) (eA:D.atKey kl (.held z) = .held v) (c:Bool) (hc:Maps.has D kl=c) (hK:wpList P dA Q aA (a.put o.dst (.tuple #[v,.bool c])) w) :
  wpList P dA Q (o :: aA) a w:=by
 refine wpList_lookup_own_ok w hg m x t hop k e K ht zCV hz (.held z) [] (zB1 z) b n D hm bA key kl hx cA (fun v' ps hv=>?_);have e1:=zEK hv;rw[eA]at e1;injection e1 with e1;subst e1;rw[hc];exact hK
def putD(key:Nat->Lit)(val:Nat->Value):Nat->DataW Value
 | 0=>.map []
 | k+1=>(putD key val k).put (key k) (.held (val k))
def zDh(key:Nat->Lit):Prop:=∀i,WideAt.IsKeyLit (key i)
theorem zCc{key:Nat->Lit}(hk:zDh key)(val:Nat->Value):∀k,Tidy (putD key val k)
 | 0=>tidy_empty
 | k+1=>(zCc hk val k).put (hk k) _
theorem zEU{key:Nat->Lit}(hk:zDh key)(val:Nat->Value)(l:Lit):∀k,Maps.has (putD key val k) l=true↔∃i,i<k/\key i=l
 | 0=>by
  constructor
  ·intro h;exact absurd h (by simp[putD,Maps.has])
  ·rintro⟨i,hi,_⟩;omega
 | k+1=>by
  by_cases hx:key k=l
  ·subst hx;exact⟨fun _=>⟨k,by omega,rfl⟩,fun _=>has_put_same (zCc hk val k).isMap (hk k) _⟩
  ·rw[show Maps.has (putD key val (k+1)) l=Maps.has (putD key val k) l from has_put_other (Ne.symm hx) _,zEU hk val l k];constructor
   ·rintro⟨i,hi,e⟩;exact⟨i,by omega,e⟩
   ·rintro⟨i,hi,e⟩;by_cases h:i=k
    ·subst h;exact absurd e hx
    ·exact⟨i,by omega,e⟩
theorem zGt{key:Nat->Lit}(hk:zDh key)(val:Nat->Value){l:Lit}{k:Nat}(h:∀i,i<k->key i≠l)(z:DataW Value):(putD key val k).atKey l z=z:=by
 refine atKey_of_not_has ?_ _;rw[Bool.eq_false_iff];intro hh;obtain⟨i,hi,e⟩:=(zEU hk val l k).1 hh;exact h i hi e
theorem zK1{key:Nat->Lit}(hk:zDh key)(val:Nat->Value)(z:DataW Value):∀k i,i<k->(∀j,i<j->j<k->key j≠key i)->(putD key val k).atKey (key i) z = .held (val i)
 | 0,i,hi,_=>absurd hi (Nat.not_lt_zero _)
 | k+1,i,hi,hd=>by
  by_cases e:i=k
  ·subst e;exact atKey_put_same (zCc hk val i).isMap (hk i) _ _
  ·exact(atKey_put_other (Ne.symm (hd k (by omega) (by omega))) _ _).trans (zK1 hk val z k i (by omega) (fun j h1 h2=>hd j h1 (by omega)))
def zGM(n:Nat)(key:Nat->Lit):Prop:=∀i,i<n->∀k,k<i->key k≠key i
theorem zFW{k:Nat}{f:Nat->Lit}:zGM (k+1) f↔zGM k f/\∀i,i<k->f i≠f k:=by
 constructor
 ·exact fun h=>⟨fun i hi=>h i (by omega),fun i hi=>h k (by omega) i hi⟩
 ·rintro⟨h1,h2⟩ i hi j hj;by_cases e:i=k
  ·subst e;exact h2 j hj
  ·exact h1 i (by omega) j hj
theorem zGp{key:Nat->Lit}(hk:zDh key)(val:Nat->Value):∀k,Maps.size (putD key val k)<=k/\(Maps.size (putD key val k)=k↔zGM k key)
 | 0=>⟨Nat.le_refl _,fun _ i hi=>by omega,fun _=>rfl⟩
 | k+1=>by
  obtain⟨h1,h2⟩:=zGp hk val k;have e:Maps.size (putD key val (k+1))=if Maps.has (putD key val k) (key k)then Maps.size (putD key val k)else Maps.size (putD key val k)+1:=size_put (zCc hk val k) _
  by_cases hh:Maps.has (putD key val k) (key k)=true
  ·rw[if_pos hh]at e;rw[e,zFW];refine⟨by omega,fun h=>by omega,fun h=>?_⟩;obtain⟨i,hi,he⟩:=(zEU hk val (key k) k).1 hh;exact absurd he (h.2 i hi)
  ·rw[if_neg hh]at e;rw[e,zFW,<-h2];refine⟨by omega,fun h=>⟨by omega,fun i hi he=>hh ((zEU hk val (key k) k).2 ⟨i,hi,he⟩)⟩,fun h=>by omega⟩
theorem zEk(n:Int)(w:World):Calls Tryz.prog 202 #[.int .i64 n] w fun e w'=>zG (zB2 n 1 900000) e/\w'=w:=by
 by_cases h1:1<=n
 ·by_cases h2:n<=900000
  ·go_enter Tryz.func202,Tryz.ntmps202;go_wp2;go_ret;exact⟨zG.yes ⟨h1,h2⟩,rfl⟩
  ·go_enter Tryz.func202,Tryz.ntmps202;go_wp2;go_ret;exact⟨zG.no fun h=>by have:=h.2;omega,rfl⟩
 ·go_enter Tryz.func202,Tryz.ntmps202;go_wp2;go_ret;exact⟨zG.no fun h=>by have:=h.1;omega,rfl⟩
def Mid(a x b:Int):Prop:=a<x/\x<b
theorem zG7(a x b:Int)(w:World):Calls Tryz.prog 222 #[.int .i64 a,.int .i64 x,.int .i64 b] w fun e w'=>zG (Mid a x b) e/\w'=w:=by
 by_cases h1:a<x
 ·by_cases h2:x<b
  ·go_enter Tryz.func222,Tryz.ntmps222;go_wp2;go_ret;exact⟨zG.yes ⟨h1,h2⟩,rfl⟩
  ·go_enter Tryz.func222,Tryz.ntmps222;go_wp2;go_ret;exact⟨zG.no fun h=>by have:=h.2;omega,rfl⟩
 ·go_enter Tryz.func222,Tryz.ntmps222;go_wp2;go_ret;exact⟨zG.no fun h=>by have:=h.1;omega,rfl⟩
def zET(f:Nat->qD):Nat->ByteArray
 | 0=>⟨#[]⟩
 | k+1=>(f k).name
def zQh(n:Nat)(f:Nat->qD):Prop:=n<=8/\∀i,i<n->yI (f i).name/\zDS (zET f i) (f i).name
theorem zI2(v:Value)(n lo hi:Nat)(f:Nat->qD)(w:World)(h:yW w lo hi v n f) :
  Calls Tryz.prog 203 #[v] w fun e w'=>zG (zQh n f) e/\Below w.heap.size w w':=by
 have Hp:=zB h;obtain⟨m1,a,c,rfl,mc,-⟩:=id h;unfold maxLen at m1;clear h;by_cases hn:n<=8;rotate_left
 ·have jA:(8:Int)<(n:Int):=(by omega);go_enter Tryz.func203,Tryz.ntmps203;go_wp2;go_ret;exact⟨zG.no fun h=>hn h.1,Below.refl _ _⟩
 have jA:¬(8:Int)<(n:Int):=by omega
 go_enter Tryz.func203,Tryz.ntmps203;go_wp2
 go_loopw [3,11] (fun l i wr=>∃k:Nat,k<=n/\i = .int .i64 k/\l = .string (zET f k)/\(∀j,j<k->yI (f j).name/\zDS (zET f j) (f j).name)/\Below w.heap.size w wr) (fun _ i _=>n - (intOf i).toNat)
 case atStart=>exact⟨0,Nat.zero_le _,rfl,rfl,fun j hj=>absurd hj (Nat.not_lt_zero _),Below.refl _ _⟩
 case round=>
  obtain⟨k,hk,rfl,rfl,bA,hb⟩:=hrel;have cA:=zB bA;clear bA;by_cases dA:k<n;rotate_left
  ·obtain rfl:k=n:=(by omega);go_wp2;go_ret;exact⟨zG.yes ⟨hn,cA.out⟩,hb⟩
  have iA:(k:Int)<(n:Int):=(by omega);obtain⟨b,off,vd,rfl,aA⟩:=(Hp.out.zRX hb).cells dA;obtain⟨-,ad,cd,rfl,-,-⟩:=id aA.zRl;have gA:=zC wr (.cells #[.string (f k).name,.int .i64 (f k).origin,.int .i64 (f k).zRh,.int .i64 (f k).rs,.int .i64 (f k).rb,.slice ad (f k).dn cd] 67);have kA:=zB (zi.zRZ wr (.string (f k).name) (.int .i64 (f k).origin) (.int .i64 (f k).zRh) (.int .i64 (f k).rs) (.int .i64 (f k).rb) (.slice ad (f k).dn cd) 67);have fA:=zA hb gA;have q0:=aA.c0;have q1:=aA.c1;have q2:=aA.c2;have q3:=aA.c3;have q4:=aA.c4;have q5:=aA.c5;have lA:=aA.zRn;obtain⟨⟨y0,y1⟩,-⟩:=kA.out;clear aA gA;go_wp2_with fail;clear q0 q1 q2 q3 q4 q5;refine(zDf (f k).name _ lA).mono ?_;rintro e wn ⟨⟨tn,rfl,eA⟩,rfl⟩;by_cases hA:yI (f k).name;rotate_left
  ·have Hn:=zB hA;obtain rfl:tn=false:=zQ eA hA;clear eA hA;go_wp2;go_ret;exact⟨zG.no fun h=>Hn.out (h.2 k dA).1,fA⟩
  have HA:=zB hA;obtain rfl:tn=true:=eA.2 hA;clear eA hA;by_cases hR:zDS (zET f k) (f k).name
  ·have f1:=(zNo (f k).name (zET f k)).2 hR;have HR:=zB hR;clear hR;go_wp2;go_roundw
   case rel=>exact⟨k+1,by omega,by go_num,rfl,zo dA cA.out ⟨HA.out,HR.out⟩,fA⟩
   case measure=>simp[intOf];omega
  ·have f1:(Op.bytesLess (f k).name.toList (zET f k).toList || (f k).name.toList == (zET f k).toList)=true:=by
    cases hc:(Op.bytesLess (f k).name.toList (zET f k).toList || (f k).name.toList == (zET f k).toList)
    ·exact absurd ((zNo _ _).1 hc) hR
    ·rfl
   have HR:=zB hR;clear hR;go_wp2;go_ret;exact⟨zG.no fun h=>HR.out (h.2 k dA).2,fA⟩
theorem zPk:laidOutB Tryz.prog=true:=by kernel_rfl
theorem zQe:300<=Tryz.prog.types.size+300 - 1/\1<=Tryz.prog.types.size:=by
 have h:decide (1<=Tryz.prog.types.size)=true:=by kernel_rfl
 have:=of_decide_eq_true h;omega
theorem zO4{k:Nat}(h:decide (k<Tryz.prog.types.size)=true):k<Tryz.prog.types.size:=of_decide_eq_true h
theorem zRU:Tryz.prog.underlying 9=some .string:=by kernel_rfl
theorem zRQ:Tryz.prog.underlying 2=some (.int .i64):=by kernel_rfl
theorem zOu:Keyed Tryz.prog 9:=string_keyed zRU
theorem zRC:Keyed Tryz.prog 2:=int_keyed zRQ
def zC3(s:ByteArray):Lit:=.string s.data.toList
theorem zKY{s:ByteArray}(h:s.size<=maxLen):keyOf Tryz.prog 9 (.string s)=some (zC3 s):=by simp[keyOf,mapKey,zC3,h]
theorem zPq{s t:ByteArray}(h:zC3 s=zC3 t):s=t:=by
 unfold zC3 at h;injection h with h;cases s;cases t;simp only[ByteArray.mk.injEq];exact Array.toList_inj.1 h
theorem zMM(s:ByteArray):WideAt.IsKeyLit (zC3 s):=trivial
def zKF(x:Int):Lit:=.int .i64 x
theorem zNX{x:Int}(h:(Lit.int .i64 x).wf=true):keyOf Tryz.prog 2 (.int .i64 x)=some (zKF x):=keyOf_int_mk zRQ h
theorem zLn{x y:Int}(h:zKF x=zKF y):x=y:=by unfold zKF at h;injection h
theorem zO9(x:Int):WideAt.IsKeyLit (zKF x):=trivial
theorem zRL:Tryz.prog.underlying 266=some (.array 2 9):=by kernel_rfl
theorem zQ3:Keyed Tryz.prog 266:=Keyed.of_law (deep_law_laid zPk (m:=5) (by decide) (zO4 (by kernel_rfl)) (by kernel_rfl) (by kernel_rfl))
theorem zQT{s t:ByteArray}(hs:s.size<=maxLen)(ht:t.size<=maxLen):∃l,keyOf Tryz.prog 266 (.agg #[.string s,.string t])=some l:=by
 obtain⟨m,hm⟩:∃m,Tryz.prog.types.size+1=m+2:=⟨Tryz.prog.types.size - 1,by have:=zQe;omega⟩;have hk:Tryz.prog.keyType 266=true:=by kernel_rfl
 have hc:Tryz.prog.cellsOf 266=2:=by kernel_rfl
 have h1:Tryz.prog.cellsOf 9=1:=by kernel_rfl
 unfold keyOf;simp only[zRL];rw[if_pos (by simp[hk,Value.formed,hc]),hm];unfold Program.keyLits;simp only[zRL,Value.cells];rw[if_pos (by rw[hc];rfl),show List.range 2 = [0,1] from rfl,List.mapM_cons,List.mapM_cons,List.mapM_nil];simp[h1,Program.keyLits,hs,ht]
theorem zRB:Tryz.prog.underlying 61=some (.struct #[⟨"Slot",2,0,false, "", "",0⟩,⟨"Birth",2,1,false, "", "",8⟩]):=by kernel_rfl
theorem zQu:Keyed Tryz.prog 61:=Keyed.of_law (deep_law_laid zPk (m:=5) (by decide) (zO4 (by kernel_rfl)) (by kernel_rfl) (by kernel_rfl))
theorem zQF{x y:Int}(hx:(Lit.int .i64 x).wf=true)(hy:(Lit.int .i64 y).wf=true):∃l,keyOf Tryz.prog 61 (.agg #[.int .i64 x,.int .i64 y])=some l:=by
 obtain⟨m,hm⟩:∃m,Tryz.prog.types.size+1=m+2:=⟨Tryz.prog.types.size - 1,by have:=zQe;omega⟩;have hk:Tryz.prog.keyType 61=true:=by kernel_rfl
 have hc:Tryz.prog.cellsOf 61=2:=by kernel_rfl
 have h1:Tryz.prog.cellsOf 2=1:=by kernel_rfl
 unfold keyOf;simp only[zRB];rw[if_pos (by simp[hk,Value.formed,hc]),hm];unfold Program.keyLits;simp only[zRB,Value.cells];rw[if_pos ⟨by rw[hc];rfl,by kernel_rfl⟩];simp[h1,Program.keyLits,hx,hy]
def zDZ(vd:Value)(s:qD):Value:=.agg #[.string s.name,.int .i64 s.origin,.int .i64 s.zRh,.int .i64 s.rs,.int .i64 s.rb,vd]
def ye(vd:Value)(s:zl):Value:=.agg #[.int .i64 s.id,.string s.name,.string s.set,.int .i64 s.zRh,.int .i64 s.time,.int .i64 s.rs,.int .i64 s.rb,vd]
def zMO(w:World)(lo hi n:Nat)(f:Nat->qD)(vd:Nat->Value):Prop:=∀i,i<n->zU w lo hi (vd i) (f i).dn (f i).ds (f i).db
def zEv(w:World)(lo hi n:Nat)(f:Nat->zl)(vd:Nat->Value):Prop:=∀i,i<n->zU w lo hi (vd i) (f i).dn (f i).ds (f i).db
open Classical in
theorem yW.vals{w:World}{lo hi:Nat}{a:Option Addr}{n c:Nat}{f:Nat->qD}(h:yW w lo hi (.slice a n c) n f):∃vd:Nat->Value,zMO w lo hi n f vd/\∀i,i<n->∃b off,a=some ⟨b,off,none⟩/\zBe w b (off+i*6) lo hi (vd i) (f i):=by
 have hx:∀i,∃v,i<n->∃b off,a=some ⟨b,off,none⟩/\zBe w b (off+i*6) lo hi v (f i):=fun i=>by
  by_cases hi':i<n
  ·obtain⟨b,off,vd,ha,hs⟩:=h.cells hi';exact⟨vd,fun _=>⟨b,off,ha,hs⟩⟩
  ·exact⟨undef,fun h=>absurd h hi'⟩
 refine⟨fun i=>(hx i).choose,fun i hi'=>?_,fun i hi'=>(hx i).choose_spec hi'⟩;obtain⟨b,off,_,hs⟩:=(hx i).choose_spec hi';exact hs.zRl
open Classical in
theorem qw.vals{w:World}{lo hi:Nat}{a:Option Addr}{n c:Nat}{f:Nat->zl}(h:qw w lo hi (.slice a n c) n f):∃vd:Nat->Value,zEv w lo hi n f vd/\∀i,i<n->∃b off,a=some ⟨b,off,none⟩/\zAo w b (off+i*8) lo hi (vd i) (f i):=by
 have hx:∀i,∃v,i<n->∃b off,a=some ⟨b,off,none⟩/\zAo w b (off+i*8) lo hi v (f i):=fun i=>by
  by_cases hi':i<n
  ·obtain⟨b,off,vd,ha,hs⟩:=h.cells hi';exact⟨vd,fun _=>⟨b,off,ha,hs⟩⟩
  ·exact⟨undef,fun h=>absurd h hi'⟩
 refine⟨fun i=>(hx i).choose,fun i hi'=>?_,fun i hi'=>(hx i).choose_spec hi'⟩;obtain⟨b,off,_,hs⟩:=(hx i).choose_spec hi';exact hs.zRl
theorem zL9:Tryz.prog.underlying 177=some (.map 9 67):=by kernel_rfl
theorem zPP:Tryz.prog.underlying 218=some (.map 2 99):=by kernel_rfl
theorem zPH:Tryz.prog.underlying 265=some (.map 266 2):=by kernel_rfl
def zB5(w:World)(W:zH)(M n:Nat)(vd:Nat->Value):Prop:=w.ownsMap Tryz.prog 9 zCV M n (putD (fun i=>zC3 (W.zRg i).name) (fun i=>zDZ (vd i) (W.zRg i)) n)
def zCg(w:World)(W:zH)(M n:Nat)(vd:Nat->Value):Prop:=w.ownsMap Tryz.prog 2 zCV M n (putD (fun i=>zKF (W.zRe i).id) (fun i=>ye (vd i) (W.zRe i)) n)
theorem zB5.zRX{w w':World}{W:zH}{M n:Nat}{vd:Nat->Value}(h:zB5 w W M n vd)(t:Below w.heap.size w w'):zB5 w' W M n vd:=h.kept (yt t none) (by simp)
theorem zCg.zRX{w w':World}{W:zH}{M n:Nat}{vd:Nat->Value}(h:zCg w W M n vd)(t:Below w.heap.size w w'):zCg w' W M n vd:=h.kept (yt t none) (by simp)
theorem zEE(v0 v1 v2 v3:Value)(lo hi:Nat)(W:zH)(w:World)(h:zk w lo hi v0 v1 v2 v3 W)(hn:W.sn<=8) :
  Calls Tryz.prog 129 #[zz v0 v1 v2 v3 W] w fun e w'=>∃vd,e = .returned (.map (some (w.heap.size+1)))/\zB5 w' W (w.heap.size+1) W.sn vd/\zMO w lo hi W.sn W.zRg vd/\Below w.heap.size w w':=by
 have Hp:=zB h;obtain⟨m1,a,c,rfl,mc,-⟩:=id h.zRg;unfold maxLen at m1;obtain⟨vd,rA,pA⟩:=h.zRg.vals;have tA:=zB rA;have bB:=zB pA;clear h rA pA;have ha:=zC w (.cells #[v0,v1,.int .i64 W.time,.int .i64 W.next,.slice a W.sn c,v3] 37);have HB:=zB (zi.zRZ w v0 v1 (.int .i64 W.time) (.int .i64 W.next) (.slice a W.sn c) v3 37);have iA:(w.alloc (.cells #[v0,v1,.int .i64 W.time,.int .i64 W.next,.slice a W.sn c,v3] 37)).heap.size=w.heap.size+1:=World.size_alloc _ _;have hm:=World.ownsMap_made (w.alloc (.cells #[v0,v1,.int .i64 W.time,.int .i64 W.next,.slice a W.sn c,v3] 37)) Tryz.prog 9 zCV;rw[iA]at hm;have HM:=zB hm;have mA:=zB (HB.out.zRX (zC _ (.map #[] 0)));have oA:=zB (zA ha (zC _ (.map #[] 0)));have iB:=@run_makeMap Tryz.prog;obtain⟨⟨x0,-⟩,⟨x2,-⟩,⟨x4,-⟩,⟨x6,-⟩,⟨x8,-⟩,⟨vA,-⟩⟩:=mA.out;clear hm;go_enter Tryz.func129,Tryz.ntmps129;go_wp2;clear x0 x2 x4 x6 x8 vA ha
 go_loopw [10] (fun i wr=>∃k:Nat,k<=W.sn/\i = .int .i64 k/\zB5 wr W (w.heap.size+1) k vd/\Below w.heap.size w wr/\w.heap.size+2<=wr.heap.size) (fun i _=>W.sn - (intOf i).toNat)
 case atStart=>exact⟨0,Nat.zero_le _,rfl,HM.out,oA.out,by rw[World.size_alloc,iA];omega⟩
 case round=>
  clear HM mA oA HB iA;obtain⟨k,hk,rfl,eA,hb,hz⟩:=hrel;have dA:=zB eA;clear eA;by_cases cB:k<W.sn
  ·have aB:(k:Int)<(W.sn:Int):=(by omega);obtain⟨b,off,rfl,nA⟩:=bB.out k cB;have bA:=nA.zRX hb;obtain⟨-,ad,cd,jA,-,-⟩:=id bA.zRl;have dB:=zB jA;rw[jA]at bA;clear jA nA;have gA:=zC wr (.cells #[.string (W.zRg k).name,.int .i64 (W.zRg k).origin,.int .i64 (W.zRg k).zRh,.int .i64 (W.zRg k).rs,.int .i64 (W.zRg k).rb,.slice ad (W.zRg k).dn cd] 67);have sA:=zB (zi.zRZ wr (.string (W.zRg k).name) (.int .i64 (W.zRg k).origin) (.int .i64 (W.zRg k).zRh) (.int .i64 (W.zRg k).rs) (.int .i64 (W.zRg k).rb) (.slice ad (W.zRg k).dn cd) 67);have lA:=zA hb gA;have q0:=bA.c0;have q1:=bA.c1;have q2:=bA.c2;have q3:=bA.c3;have q4:=bA.c4;have q5:=bA.c5;have kA:=zB (zKY bA.zRn);obtain⟨⟨y0,y1⟩,⟨y2,y3⟩,⟨y4,y5⟩,⟨y6,y7⟩,⟨y8,y9⟩,⟨eB,gB⟩⟩:=sA.out;have cA:=zB (dA.out.zRX gA);have fB:=gA.size;clear bA gA;go_wp2_with (first
    | (at_mapUpdate;refine wpList_mapUpdate_own _ rfl _ _ _ 177 rfl 9 67 zOu zL9 zCV (w.heap.size+1) k _ rfl cA.out (by unfold maxLen;omega) _ _ _ rfl rfl kA.out _ [] (zB1 _) ?_;intro w1 fA aA)
    | go_in)
   go_roundw
   case rel=>
    refine⟨k+1,by omega,by go_num,?_,lA.grown aA lA.size (fun j hj=>by cases hj;omega),by have:=aA.size;omega⟩;unfold zB5 putD zDZ;rw[dB.out];exact fA
   case measure=>simp[intOf];omega
  ·obtain rfl:k=W.sn:=(by omega);go_wp2;go_ret;exact⟨vd,rfl,dA.out,tA.out,hb⟩
def zNp(n:Nat)(f:Nat->zl):Prop:=∀i,i<n->(Lit.int .i64 (f i).id).wf=true
theorem zI1(v0 v1 v2 v3:Value)(lo hi:Nat)(W:zH)(w:World)(h:zk w lo hi v0 v1 v2 v3 W)(hn:W.pn<=20)(lA:zNp W.pn W.zRe) :
  Calls Tryz.prog 179 #[zz v0 v1 v2 v3 W] w fun e w'=>∃vd,e = .returned (.map (some (w.heap.size+1)))/\zCg w' W (w.heap.size+1) W.pn vd/\zEv w lo hi W.pn W.zRe vd/\Below w.heap.size w w':=by
 have Hp:=zB h;have cB:=zB lA;obtain⟨m1,a,c,rfl,mc,-⟩:=id h.zRe;unfold maxLen at m1;obtain⟨vd,tA,rA⟩:=h.zRe.vals;have aB:=zB tA;have eB:=zB rA;clear h tA rA lA;have ha:=zC w (.cells #[v0,v1,.int .i64 W.time,.int .i64 W.next,v2,.slice a W.pn c] 37);have HB:=zB (zi.zRZ w v0 v1 (.int .i64 W.time) (.int .i64 W.next) v2 (.slice a W.pn c) 37);have iA:(w.alloc (.cells #[v0,v1,.int .i64 W.time,.int .i64 W.next,v2,.slice a W.pn c] 37)).heap.size=w.heap.size+1:=World.size_alloc _ _;have hm:=World.ownsMap_made (w.alloc (.cells #[v0,v1,.int .i64 W.time,.int .i64 W.next,v2,.slice a W.pn c] 37)) Tryz.prog 2 zCV;rw[iA]at hm;have HM:=zB hm;have nA:=zB (HB.out.zRX (zC _ (.map #[] 0)));have pA:=zB (zA ha (zC _ (.map #[] 0)));have iB:=@run_makeMap Tryz.prog;obtain⟨⟨x0,-⟩,⟨x2,-⟩,⟨x4,-⟩,⟨x6,-⟩,⟨x8,-⟩,⟨bB,-⟩⟩:=nA.out;clear hm;go_enter Tryz.func179,Tryz.ntmps179;go_wp2;clear x0 x2 x4 x6 x8 bB ha
 go_loopw [10] (fun i wr=>∃k:Nat,k<=W.pn/\i = .int .i64 k/\zCg wr W (w.heap.size+1) k vd/\Below w.heap.size w wr/\w.heap.size+2<=wr.heap.size) (fun i _=>W.pn - (intOf i).toNat)
 case atStart=>exact⟨0,Nat.zero_le _,rfl,HM.out,pA.out,by rw[World.size_alloc,iA];omega⟩
 case round=>
  clear HM nA pA HB iA;obtain⟨k,hk,rfl,eA,hb,hz⟩:=hrel;have dA:=zB eA;clear eA;by_cases sA:k<W.pn
  ·have dB:(k:Int)<(W.pn:Int):=(by omega);obtain⟨b,off,rfl,oA⟩:=eB.out k sA;have aA:=oA.zRX hb;obtain⟨-,ad,cd,jA,-,-⟩:=id aA.zRl;have fB:=zB jA;rw[jA]at aA;clear jA oA;have gA:=zC wr (.cells #[.int .i64 (W.zRe k).id,.string (W.zRe k).name,.string (W.zRe k).set,.int .i64 (W.zRe k).zRh,.int .i64 (W.zRe k).time,.int .i64 (W.zRe k).rs,.int .i64 (W.zRe k).rb,.slice ad (W.zRe k).dn cd] 99);have vA:=zB (zCP.zRZ wr (.int .i64 (W.zRe k).id) (.string (W.zRe k).name) (.string (W.zRe k).set) (.int .i64 (W.zRe k).zRh) (.int .i64 (W.zRe k).time) (.int .i64 (W.zRe k).rs) (.int .i64 (W.zRe k).rb) (.slice ad (W.zRe k).dn cd) 99);have mA:=zA hb gA;have q0:=aA.c0;have q1:=aA.c1;have q2:=aA.c2;have q3:=aA.c3;have q4:=aA.c4;have q5:=aA.c5;have q6:=aA.c6;have q7:=aA.c7;have kA:=zB (zNX (cB.out k sA));obtain⟨⟨⟨y0,-⟩,⟨y1,-⟩,⟨y2,-⟩,⟨y3,-⟩⟩,⟨y4,-⟩,⟨y5,-⟩,⟨y6,-⟩,⟨y7,-⟩⟩:=vA.out;have cA:=zB (dA.out.zRX gA);have gB:=gA.size;clear aA gA;go_wp2_with (first
    | (at_mapUpdate;refine wpList_mapUpdate_own _ rfl _ _ _ 218 rfl 2 99 zRC zPP zCV (w.heap.size+1) k _ rfl cA.out (by unfold maxLen;omega) _ _ _ rfl rfl kA.out _ [] (zB1 _) ?_;intro w1 fA bA)
    | go_in)
   go_roundw
   case rel=>
    refine⟨k+1,by omega,by go_num,?_,mA.grown bA mA.size (fun j hj=>by cases hj;omega),by have:=bA.size;omega⟩;unfold zCg putD ye;rw[fB.out];exact fA
   case measure=>simp[intOf];omega
  ·obtain rfl:k=W.pn:=(by omega);go_wp2;go_ret;exact⟨vd,rfl,dA.out,aB.out,hb⟩
def zCp(n:Nat)(f:Nat->zl):Prop:=∀i,i<n->∀k,k<i->¬((f k).set=(f i).set/\(f k).name=(f i).name)
theorem zCp.iff{n:Nat}{f:Nat->zl}{key:Nat->Lit}(hk:∀i,i<n->keyOf Tryz.prog 266 (.agg #[.string (f i).set,.string (f i).name])=some (key i)):zGM n key↔zCp n f:=by
 constructor
 ·intro h i hi k aA e;refine h i hi k aA ?_;have h1:=hk i hi;have h2:=hk k (by omega);rw[e.1,e.2,h1]at h2;exact(Option.some.inj h2).symm
 ·intro h i hi k aA e;have h1:=hk i hi;have h2:=hk k (by omega);rw[e]at h2;have:=zQ3.inj h2 h1;simp only[Value.agg.injEq,Array.mk.injEq,List.cons.injEq,Value.string.injEq,and_true]at this;exact h i hi k aA this
theorem zHe(v:Value)(n lo hi:Nat)(f:Nat->zl)(w:World)(h:qw w lo hi v n f)(hn:n<=20) :
  Calls Tryz.prog 223 #[v] w fun e w'=>zG (zCp n f) e/\Below w.heap.size w w':=by
 have Hp:=zB h;obtain⟨m1,a,c,rfl,mc,-⟩:=id h;unfold maxLen at m1;have gA:∀i,∃l,WideAt.IsKeyLit l/\(i<n->keyOf Tryz.prog 266 (.agg #[.string (f i).set,.string (f i).name])=some l):=fun i=>by
  by_cases hi':i<n
  ·obtain⟨b,off,vd,_,hs⟩:=h.cells hi';obtain⟨l,hl⟩:=zQT hs.zRn.2 hs.zRn.1;exact⟨l,zQ3.key hl,fun _=>hl⟩
  ·exact⟨.string [],trivial,fun h=>absurd h hi'⟩
 obtain⟨key,mA,nA⟩:∃key:Nat->Lit,zDh key/\∀i,i<n->keyOf Tryz.prog 266 (.agg #[.string (f i).set,.string (f i).name])=some (key i):=⟨fun i=>(gA i).choose,fun i=>(gA i).choose_spec.1,fun i=>(gA i).choose_spec.2⟩;have sA:=zB mA;have lA:=zB nA;clear h gA mA nA;have HM:=zB (World.ownsMap_made w Tryz.prog 266 zCV);have aB:=@run_makeMap Tryz.prog;go_enter Tryz.func223,Tryz.ntmps223;go_wp2
 go_loopw [9] (fun i wr=>∃k:Nat,k<=n/\i = .int .i64 k/\wr.ownsMap Tryz.prog 266 zCV w.heap.size k (putD key (fun i=>.int .i64 (f i).id) k)/\Below w.heap.size w wr/\w.heap.size+1<=wr.heap.size) (fun i _=>n - (intOf i).toNat)
 case atStart=>exact⟨0,Nat.zero_le _,rfl,HM.out,zC _ _,by rw[World.size_alloc];omega⟩
 case round=>
  clear HM;obtain⟨k,hk,rfl,eA,hb,hz⟩:=hrel;have dA:=zB eA;clear eA;by_cases oA:k<n
  ·have rA:(k:Int)<(n:Int):=(by omega);obtain⟨b,off,vd,rfl,bA⟩:=(Hp.out.zRX hb).cells oA;obtain⟨-,ad,cd,rfl,-,-⟩:=id bA.zRl;have iA:=zC wr (.cells #[.int .i64 (f k).id,.string (f k).name,.string (f k).set,.int .i64 (f k).zRh,.int .i64 (f k).time,.int .i64 (f k).rs,.int .i64 (f k).rb,.slice ad (f k).dn cd] 99);have pA:=zB (zCP.zRZ wr (.int .i64 (f k).id) (.string (f k).name) (.string (f k).set) (.int .i64 (f k).zRh) (.int .i64 (f k).time) (.int .i64 (f k).rs) (.int .i64 (f k).rb) (.slice ad (f k).dn cd) 99);have kA:=zA hb iA;have q0:=bA.c0;have q1:=bA.c1;have q2:=bA.c2;have q3:=bA.c3;have q4:=bA.c4;have q5:=bA.c5;have q6:=bA.c6;have q7:=bA.c7;have jA:=zB (lA.out k oA);obtain⟨⟨⟨y0,-⟩,⟨y1,-⟩,⟨y2,-⟩,⟨y3,-⟩⟩,⟨y4,-⟩,⟨y5,-⟩,⟨y6,-⟩,⟨y7,-⟩⟩:=pA.out;have cA:=zB (dA.out.kept (yt iA none) (by simp));have vA:=iA.size;clear bA iA;go_wp2_with (first
    | (at_mapUpdate;refine wpList_mapUpdate_own _ rfl _ _ _ 265 rfl 266 2 zQ3 zPH zCV w.heap.size k _ rfl cA.out (by unfold maxLen;omega) _ _ _ rfl rfl jA.out _ [] (zB1 _) ?_;intro w1 fA aA)
    | go_in)
   go_roundw
   case rel=>exact⟨k+1,by omega,by go_num,fA,kA.grown aA kA.size (fun j hj=>by cases hj;omega),by have:=aA.size;omega⟩
   case measure=>simp[intOf];omega
  ·obtain rfl:k=n:=(by omega);have tA:=zB (zGp sA.out (fun i=>.int .i64 (f i).id) k);have HN:=zB (zCp.iff (f:=f) lA.out);go_wp2_with (first
    | (at_len;refine wpList_len_own _ rfl _ 265 rfl 266 2 zPH zCV w.heap.size k _ rfl dA.out ?_)
    | go_in)
   go_ret;refine⟨⟨_,rfl,?_⟩,hb⟩;have h1:=tA.out.2;have h2:=HN.out;simp only[beq_iff_eq,Int.natCast_inj];exact h1.trans h2
def zEj(f:Nat->zl):Nat->zl
 | 0=>yL
 | k+1=>f k
def zH6(W:zH)(i:Nat):Prop:=zAU W (W.zRe i).set/\yI (W.zRe i).name/\(W.zRe i).zRh<(W.zRe i).id/\Mid (zEj W.zRe i).id (W.zRe i).id W.next/\Mid (zEj W.zRe i).time (W.zRe i).time W.time
def zPU(W:zH):Prop:=W.pn<=20/\(∀i,i<W.pn->zH6 W i)/\zCp W.pn W.zRe
theorem zF8(w:World):(zeroValue 67).run Tryz.prog w = .ok (.agg #[.string ⟨#[]⟩,.int .i64 0,.int .i64 0,.int .i64 0,.int .i64 0,.slice none 0 0]) w:=by kernel_rfl
theorem zJr{W:zH}{vd:Nat->Value}(hd:∀i,i<W.sn->∃a n c,vd i = .slice a n c)(x:ByteArray):∃(s0:ByteArray) (i1 i2 i3 i4:Int) (a:Option Addr) (n c:Nat),(putD (fun i=>zC3 (W.zRg i).name) (fun i=>zDZ (vd i) (W.zRg i)) W.sn).atKey (zC3 x) (.held (.agg #[.string ⟨#[]⟩,.int .i64 0,.int .i64 0,.int .i64 0,.int .i64 0,.slice none 0 0])) = .held (.agg #[.string s0,.int .i64 i1,.int .i64 i2,.int .i64 i3,.int .i64 i4,.slice a n c]):=by
 have hk:zDh (fun i=>zC3 (W.zRg i).name):=fun i=>zMM _
 have:∀k,k<=W.sn->∃(s0:ByteArray) (i1 i2 i3 i4:Int) (a:Option Addr) (n c:Nat),(putD (fun i=>zC3 (W.zRg i).name) (fun i=>zDZ (vd i) (W.zRg i)) k).atKey (zC3 x) (.held (.agg #[.string ⟨#[]⟩,.int .i64 0,.int .i64 0,.int .i64 0,.int .i64 0,.slice none 0 0])) = .held (.agg #[.string s0,.int .i64 i1,.int .i64 i2,.int .i64 i3,.int .i64 i4,.slice a n c]):=by
  intro k
  induction k with
  | zero=>exact fun _=>⟨⟨#[]⟩,0,0,0,0,none,0,0,zGt hk _ (fun i hi=>absurd hi (Nat.not_lt_zero _)) _⟩
  | succ k ih=>
   intro aA;by_cases e:zC3 (W.zRg k).name=zC3 x
   ·obtain⟨a,n,c,hv⟩:=hd k (by omega);refine⟨(W.zRg k).name,(W.zRg k).origin,(W.zRg k).zRh,(W.zRg k).rs,(W.zRg k).rb,a,n,c,?_⟩;rw[<-e];refine(atKey_put_same (zCc hk _ k).isMap (hk k) _ _).trans ?_;show DataW.held (zDZ (vd k) (W.zRg k))=_;rw[hv];rfl
   ·obtain⟨s0,i1,i2,i3,i4,a,n,c,h⟩:=ih (by omega);exact⟨s0,i1,i2,i3,i4,a,n,c,(atKey_put_other (Ne.symm e) _ _).trans h⟩
 exact this W.sn (Nat.le_refl _)
theorem zMN{W:zH}{vd:Nat->Value}(x:ByteArray):Maps.has (putD (fun i=>zC3 (W.zRg i).name) (fun i=>zDZ (vd i) (W.zRg i)) W.sn) (zC3 x)=true↔zAU W x:=by
 rw[zEU (fun i=>zMM _)];constructor
 ·rintro⟨i,hi,e⟩;exact⟨i,hi,zPq e⟩
 ·rintro⟨i,hi,e⟩;exact⟨i,hi,by rw[e]⟩
abbrev put8(w:World)(b:Nat)(u0 u1 u2 u3 u4 u5 u6 u7:Value):World:=(((((((w.setCell ⟨b,0,none⟩ u0).setCell ⟨b,1,none⟩ u1).setCell ⟨b,2,none⟩ u2).setCell ⟨b,3,none⟩ u3).setCell ⟨b,4,none⟩ u4).setCell ⟨b,5,none⟩ u5).setCell ⟨b,6,none⟩ u6).setCell ⟨b,7,none⟩ u7
theorem zCP.put{w:World}{b:Nat}{v0 v1 v2 v3 v4 v5 v6 v7:Value}(h:zCP w b v0 v1 v2 v3 v4 v5 v6 v7)(u0 u1 u2 u3 u4 u5 u6 u7:Value):zCP (put8 w b u0 u1 u2 u3 u4 u5 u6 u7) b u0 u1 u2 u3 u4 u5 u6 u7:=by
 obtain⟨⟨h0,h1,h2,h3⟩,h4,h5,h6,h7⟩:=h;refine⟨⟨?_,?_,?_,?_⟩,?_,?_,?_,?_⟩
 ·exact(((((((h0.set _).zRY _ (Or.inr (by omega))).zRY _ (Or.inr (by omega))).zRY _ (Or.inr (by omega))).zRY _ (Or.inr (by omega))).zRY _ (Or.inr (by omega))).zRY _ (Or.inr (by omega))).zRY _ (Or.inr (by omega))
 ·exact(((((((h1.zRY _ (Or.inr (by omega))).set _).zRY _ (Or.inr (by omega))).zRY _ (Or.inr (by omega))).zRY _ (Or.inr (by omega))).zRY _ (Or.inr (by omega))).zRY _ (Or.inr (by omega))).zRY _ (Or.inr (by omega))
 ·exact(((((((h2.zRY _ (Or.inr (by omega))).zRY _ (Or.inr (by omega))).set _).zRY _ (Or.inr (by omega))).zRY _ (Or.inr (by omega))).zRY _ (Or.inr (by omega))).zRY _ (Or.inr (by omega))).zRY _ (Or.inr (by omega))
 ·exact(((((((h3.zRY _ (Or.inr (by omega))).zRY _ (Or.inr (by omega))).zRY _ (Or.inr (by omega))).set _).zRY _ (Or.inr (by omega))).zRY _ (Or.inr (by omega))).zRY _ (Or.inr (by omega))).zRY _ (Or.inr (by omega))
 ·exact(((((((h4.zRY _ (Or.inr (by omega))).zRY _ (Or.inr (by omega))).zRY _ (Or.inr (by omega))).zRY _ (Or.inr (by omega))).set _).zRY _ (Or.inr (by omega))).zRY _ (Or.inr (by omega))).zRY _ (Or.inr (by omega))
 ·exact(((((((h5.zRY _ (Or.inr (by omega))).zRY _ (Or.inr (by omega))).zRY _ (Or.inr (by omega))).zRY _ (Or.inr (by omega))).zRY _ (Or.inr (by omega))).set _).zRY _ (Or.inr (by omega))).zRY _ (Or.inr (by omega))
 ·exact(((((((h6.zRY _ (Or.inr (by omega))).zRY _ (Or.inr (by omega))).zRY _ (Or.inr (by omega))).zRY _ (Or.inr (by omega))).zRY _ (Or.inr (by omega))).zRY _ (Or.inr (by omega))).set _).zRY _ (Or.inr (by omega))
 ·exact(((((((h7.zRY _ (Or.inr (by omega))).zRY _ (Or.inr (by omega))).zRY _ (Or.inr (by omega))).zRY _ (Or.inr (by omega))).zRY _ (Or.inr (by omega))).zRY _ (Or.inr (by omega))).zRY _ (Or.inr (by omega))).set _
theorem zF.put8(w:World)(b:Nat)(u0 u1 u2 u3 u4 u5 u6 u7:Value):zF (fun k=>k=b) w (put8 w b u0 u1 u2 u3 u4 u5 u6 u7):=
 (((((((zF.put w b 0 u0).trans (zF.put _ b 1 u1)).trans (zF.put _ b 2 u2)).trans (zF.put _ b 3 u3)).trans (zF.put _ b 4 u4)).trans (zF.put _ b 5 u5)).trans (zF.put _ b 6 u6)).trans (zF.put _ b 7 u7)
theorem zB5.put8{w:World}{W:zH}{M n b:Nat}{vd:Nat->Value}(h:zB5 w W M n vd)(hb:M≠b)(u0 u1 u2 u3 u4 u5 u6 u7:Value):zB5 (Go.Proofs.YtmgeglgboadfiaaGreatDoor.put8 w b u0 u1 u2 u3 u4 u5 u6 u7) W M n vd:=
 (((((((World.ownsMap.setCell h hb u0).setCell hb u1).setCell hb u2).setCell hb u3).setCell hb u4).setCell hb u5).setCell hb u6).setCell hb u7
theorem zMt{B:Nat}{w w':World}(h:Below B w w'){b:Nat}(hb:B<=b)(u0 u1 u2 u3 u4 u5 u6 u7:Value):Below B w (put8 w' b u0 u1 u2 u3 u4 u5 u6 u7):=
 (((((((h.setCell hb u0).setCell hb u1).setCell hb u2).setCell hb u3).setCell hb u4).setCell hb u5).setCell hb u6).setCell hb u7
theorem zIh(v0 v1 v2 v3:Value)(lo hi:Nat)(W:zH)(w:World)(h:zk w lo hi v0 v1 v2 v3 W)(hs:W.sn<=8) :
  Calls Tryz.prog 204 #[zz v0 v1 v2 v3 W] w fun e w'=>zG (zPU W) e/\Below w.heap.size w w':=by
 have Hp:=zB h;obtain⟨m1,a,c,rfl,mc,-⟩:=id h.zRe;unfold maxLen at m1;clear h;have ha:=zC w (.cells #[v0,v1,.int .i64 W.time,.int .i64 W.next,v2,.slice a W.pn c] 37);have HB:=zB (zi.zRZ w v0 v1 (.int .i64 W.time) (.int .i64 W.next) v2 (.slice a W.pn c) 37);obtain⟨⟨x0,-⟩,⟨x2,-⟩,⟨x4,-⟩,⟨x6,-⟩,⟨x8,-⟩,⟨eA,-⟩⟩:=HB.out;by_cases hn:W.pn<=20;rotate_left
 ·have aC:(20:Int)<(W.pn:Int):=(by omega);go_enter Tryz.func204,Tryz.ntmps204;go_wp2;go_ret;exact⟨zG.no fun h=>hn h.1,ha⟩
 have aC:¬(20:Int)<(W.pn:Int):=by omega
 go_enter Tryz.func204,Tryz.ntmps204;go_wp2_with fail;clear x0 x2 x4 x6 x8 eA;generalize w.alloc (.cells #[v0,v1,.int .i64 W.time,.int .i64 W.next,v2,.slice a W.pn c] 37)=W0 at ha HB ⊢;refine(zEE v0 v1 v2 _ lo hi W W0 (Hp.out.zRX ha) hs).mono ?_;rintro e w1 ⟨vd,rfl,iA,rB,gB⟩;have pB:∀i,i<W.sn->∃a n c,vd i = .slice a n c:=fun i hi'=>by
  obtain⟨_,aa,cc,hv,_⟩:=rB i hi';exact⟨aa,_,cc,hv⟩
 have lA:=zB (zJr pB);have mA:=zB (zMN (W:=W) (vd:=vd));have rA:=zC w1 (.cells #[.int .i64 0,.string ⟨#[]⟩,.string ⟨#[]⟩,.int .i64 0,.int .i64 0,.int .i64 0,.int .i64 0,.slice none 0 0] 99);have sA:=zB ((HB.out.zRX gB).zRX rA);have tA:=zB (zCP.zRZ w1 (.int .i64 0) (.string ⟨#[]⟩) (.string ⟨#[]⟩) (.int .i64 0) (.int .i64 0) (.int .i64 0) (.int .i64 0) (.slice none 0 0) 99);have cB:=zB (iA.zRX rA);have mB:=zB (zA (zA ha gB) rA);have jB:W0.heap.size+1<w1.heap.size:=iA.lt;have kB:=zB (show w.heap.size<W0.heap.size+1 by have:=HB.out.1.lt;omega);clear iA rB pB gB rA ha HB;obtain⟨⟨x0,-⟩,⟨x2,-⟩,⟨x4,-⟩,⟨x6,-⟩,⟨x8,-⟩,⟨eA,-⟩⟩:=sA.out;go_wp2;clear x0 x2 x4 x6 x8 eA;obtain⟨L,hL⟩:∃L,L=w1.heap.size:=⟨_,rfl⟩;rw[<-hL]at tA jB ⊢;obtain⟨M,hM⟩:∃M,M=W0.heap.size+1:=⟨_,rfl⟩;rw[<-hM]at cB jB kB ⊢;have dC:w.heap.size<L:=by have:=kB.out;omega
 go_loopw [18] (fun i wr=>∃(k:Nat) (al:Option Addr) (nl cl:Nat),k<=W.pn/\i = .int .i64 k/\(∀j,j<k->zH6 W j)/\zCP wr L (.int .i64 (zEj W.zRe k).id) (.string (zEj W.zRe k).name) (.string (zEj W.zRe k).set) (.int .i64 (zEj W.zRe k).zRh) (.int .i64 (zEj W.zRe k).time) (.int .i64 (zEj W.zRe k).rs) (.int .i64 (zEj W.zRe k).rb) (.slice al nl cl)/\zi wr w.heap.size v0 v1 (.int .i64 W.time) (.int .i64 W.next) v2 (.slice a W.pn c)/\zB5 wr W M W.sn vd/\Below w.heap.size w wr) (fun i _=>W.pn - (intOf i).toNat)
 case atStart=>exact⟨0,none,0,0,Nat.zero_le _,rfl,fun j hj=>absurd hj (Nat.not_lt_zero _),tA.out,sA.out,cB.out,mB.out⟩
 case round=>
  clear tA sA cB mB hL hM;obtain⟨k,al,nl,cl,hk,rfl,nA,hV,hX,hM,hb⟩:=hrel;have oA:=zB nA;have HV:=zB hV;have HX:=zB hX;have HM:=zB hM;clear nA hV hX hM;obtain⟨⟨x0,-⟩,⟨x2,-⟩,⟨x4,-⟩,⟨x6,-⟩,⟨x8,-⟩,⟨eA,-⟩⟩:=HX.out;by_cases gA:k<W.pn
  ·have vB:(k:Int)<(W.pn:Int):=(by omega);obtain⟨b,off,eC,rfl,cA⟩:=(Hp.out.zRe.zRX hb).cells gA;obtain⟨-,ad,cd,rfl,-,-⟩:=id cA.zRl;obtain⟨s0,i1,i2,i3,i4,sa,sn,sc,oB⟩:=lA.out (W.zRe k).set;have iB:=zB oB;have fA:=zB (zKY cA.zRn.2);have bC:=cA.zRn.1;clear oB;have cC:wr.heap.size≠L:=(by have:=HV.out.1.1.lt;omega);have kA:=zC wr (.cells #[.int .i64 (W.zRe k).id,.string (W.zRe k).name,.string (W.zRe k).set,.int .i64 (W.zRe k).zRh,.int .i64 (W.zRe k).time,.int .i64 (W.zRe k).rs,.int .i64 (W.zRe k).rb,.slice ad (W.zRe k).dn cd] 99);have jA:=zC (wr.alloc (.cells #[.int .i64 (W.zRe k).id,.string (W.zRe k).name,.string (W.zRe k).set,.int .i64 (W.zRe k).zRh,.int .i64 (W.zRe k).time,.int .i64 (W.zRe k).rs,.int .i64 (W.zRe k).rb,.slice ad (W.zRe k).dn cd] 99)) (.cells #[.string s0,.int .i64 i1,.int .i64 i2,.int .i64 i3,.int .i64 i4,.slice sa sn sc] 67);have vA:=zB (zCP.zRZ wr (.int .i64 (W.zRe k).id) (.string (W.zRe k).name) (.string (W.zRe k).set) (.int .i64 (W.zRe k).zRh) (.int .i64 (W.zRe k).time) (.int .i64 (W.zRe k).rs) (.int .i64 (W.zRe k).rb) (.slice ad (W.zRe k).dn cd) 99);have bB:=zB (HM.out.zRX kA);have pA:=zB (vA.out.zRX jA);have fB:=zB ((HV.out.zRX kA).zRX jA);have aB:=zB ((HX.out.zRX kA).zRX jA);have lB:=zB ((HM.out.zRX kA).zRX jA);have dA:=zA (zA hb kA) jA;have eB:((wr.alloc (.cells #[.int .i64 (W.zRe k).id,.string (W.zRe k).name,.string (W.zRe k).set,.int .i64 (W.zRe k).zRh,.int .i64 (W.zRe k).time,.int .i64 (W.zRe k).rs,.int .i64 (W.zRe k).rb,.slice ad (W.zRe k).dn cd] 99)).alloc (.cells #[.string s0,.int .i64 i1,.int .i64 i2,.int .i64 i3,.int .i64 i4,.slice sa sn sc] 67)).heap.size=wr.heap.size+2:=(by rw[World.size_alloc,World.size_alloc]);have q0:=cA.c0;have q1:=cA.c1;have q2:=cA.c2;have q3:=cA.c3;have q4:=cA.c4;have q5:=cA.c5;have q6:=cA.c6;have q7:=cA.c7;obtain⟨⟨⟨y0,-⟩,⟨y1,-⟩,⟨y2,-⟩,⟨y3,-⟩⟩,⟨y4,-⟩,⟨y5,-⟩,⟨y6,-⟩,⟨y7,-⟩⟩:=vA.out;obtain⟨⟨⟨z0,-⟩,⟨z1,-⟩,⟨z2,-⟩,⟨z3,-⟩⟩,⟨z4,-⟩,⟨z5,-⟩,⟨z6,-⟩,⟨z7,-⟩⟩:=pA.out;clear cA;by_cases bA:zAU W (W.zRe k).set;rotate_left
   ·have Hc:=zB (show Maps.has (putD (fun i=>zC3 (W.zRg i).name) (fun i=>zDZ (vd i) (W.zRg i)) W.sn) (zC3 (W.zRe k).set)=false by rw[Bool.eq_false_iff];exact fun h=>bA ((mA.out _).1 h));have Hn:=zB (show ¬zH6 W k from fun h=>bA h.1);clear bA;go_wp2_with (first
     | (at_lookup;refine zAE _ rfl _ _ 177 rfl 9 67 zOu zL9 (zF8 _) M W.sn _ rfl bB.out _ _ rfl fA.out _ iB.out false Hc.out ?_)
     | go_in)
    go_ret;exact⟨zG.no fun h=>Hn.out (h.2.1 k gA),dA⟩
   have dB:=zB bA;have Hc:=zB ((mA.out _).2 bA);clear bA;go_wp2_with (first
    | (at_lookup;refine zAE _ rfl _ _ 177 rfl 9 67 zOu zL9 (zF8 _) M W.sn _ rfl bB.out _ _ rfl fA.out _ iB.out true Hc.out ?_)
    | fail)
   clear x0 x2 x4 x6 x8 eA y0 y1 y2 y3 y4 y5 y6 y7 z0 z1 z2 z3 z4 z5 z6 z7 q0 q1 q2 q3 q4 q5 q6 q7 vA bB HV HX HM hb kA jA fA iB Hc;generalize (wr.alloc (.cells #[.int .i64 (W.zRe k).id,.string (W.zRe k).name,.string (W.zRe k).set,.int .i64 (W.zRe k).zRh,.int .i64 (W.zRe k).time,.int .i64 (W.zRe k).rs,.int .i64 (W.zRe k).rb,.slice ad (W.zRe k).dn cd] 99)).alloc (.cells #[.string s0,.int .i64 i1,.int .i64 i2,.int .i64 i3,.int .i64 i4,.slice sa sn sc] 67)=W2 at pA fB aB lB dA eB ⊢;generalize wr.heap.size=V8 at pA cC ⊢;obtain⟨⟨x0,-⟩,⟨x2,-⟩,⟨x4,-⟩,⟨x6,-⟩,⟨x8,-⟩,⟨eA,-⟩⟩:=aB.out;obtain⟨⟨⟨z0,-⟩,⟨z1,-⟩,⟨z2,-⟩,⟨z3,-⟩⟩,⟨z4,-⟩,⟨z5,-⟩,⟨z6,-⟩,⟨z7,-⟩⟩:=pA.out;obtain⟨⟨⟨l0,m0⟩,⟨l1,n1⟩,⟨l2,n2⟩,⟨l3,n3⟩⟩,⟨l4,n4⟩,⟨l5,n5⟩,⟨l6,n6⟩,⟨l7,n7⟩⟩:=fB.out;refine(zDf (W.zRe k).name _ bC).mono ?_;rintro e wn ⟨⟨tn,rfl,aA⟩,rfl⟩;by_cases hA:yI (W.zRe k).name;rotate_left
   ·have Hn:=zB (show ¬zH6 W k from fun h=>hA h.2.1);obtain rfl:tn=false:=zQ aA hA;clear aA hA;go_wp2;go_ret;exact⟨zG.no fun h=>Hn.out (h.2.1 k gA),dA⟩
   have HA:=zB hA;obtain rfl:tn=true:=aA.2 hA;clear aA hA;by_cases hg:(W.zRe k).id<=(W.zRe k).zRh
   ·have Hn:=zB (show ¬zH6 W k from fun h=>by have:=h.2.2.1;omega);go_wp2;go_ret;exact⟨zG.no fun h=>Hn.out (h.2.1 k gA),dA⟩
   have Hg:=zB (show(W.zRe k).zRh<(W.zRe k).id by omega);go_wp2_with fail;clear hg;refine(zG7 _ _ _ _).mono ?_;rintro e wn ⟨⟨tn,rfl,aA⟩,rfl⟩;by_cases hB:Mid (zEj W.zRe k).id (W.zRe k).id W.next;rotate_left
   ·have Hn:=zB (show ¬zH6 W k from fun h=>hB h.2.2.2.1);obtain rfl:tn=false:=zQ aA hB;clear aA hB;go_wp2;go_ret;exact⟨zG.no fun h=>Hn.out (h.2.1 k gA),dA⟩
   have HB:=zB hB;obtain rfl:tn=true:=aA.2 hB;clear aA hB;go_wp2_with fail;refine(zG7 _ _ _ _).mono ?_;rintro e wn ⟨⟨tn,rfl,aA⟩,rfl⟩;by_cases hB:Mid (zEj W.zRe k).time (W.zRe k).time W.time;rotate_left
   ·have Hn:=zB (show ¬zH6 W k from fun h=>hB h.2.2.2.2);obtain rfl:tn=false:=zQ aA hB;clear aA hB;go_wp2;go_ret;exact⟨zG.no fun h=>Hn.out (h.2.1 k gA),dA⟩
   have sB:=zB hB;obtain rfl:tn=true:=aA.2 hB;clear aA hB;go_wp2;go_roundw
   case rel=>exact⟨k+1,_,_,_,by omega,by go_num,zo gA oA.out ⟨dB.out,HA.out,Hg.out,HB.out,sB.out⟩,fB.out.put _ _ _ _ _ _ _ _,aB.out.zRf (zF.put8 _ L _ _ _ _ _ _ _ _) (by omega),lB.out.put8 (by omega) _ _ _ _ _ _ _ _,zMt dA (by omega) _ _ _ _ _ _ _ _⟩
   case measure=>simp[intOf];omega
  ·obtain rfl:k=W.pn:=(by omega);go_wp2_with fail;clear x0 x2 x4 x6 x8 eA;refine(zHe _ W.pn lo hi W.zRe _ (Hp.out.zRe.zRX hb) hn).mono ?_;rintro e w6 ⟨⟨t6,rfl,nB⟩,tB⟩;have Ht:=zB nB;clear nB;go_wp2;go_ret;exact⟨⟨t6,rfl,Ht.out.trans ⟨fun hA=>⟨hn,oA.out,hA⟩,fun hA=>hA.2.2⟩⟩,zA hb tB⟩
def zCT(W:zH):Prop:=∀i,i<W.pn->∀j,j<i->(W.zRe j).id≠(W.zRe i).id
def zBZ(w:World)(lo hi:Nat)(W:zH)(A:Nat):Prop:=∃M vd,zW w A 0 (.map (some M))/\zCg w W M W.pn vd/\zEv w lo hi W.pn W.zRe vd
abbrev zGl(A:Nat):Value:=.func (.func 190) #[] #[.pointer (some ⟨A,0,none⟩)]
theorem zBZ.zRX{w w':World}{lo hi:Nat}{W:zH}{A:Nat}(h:zBZ w lo hi W A)(t:Below w.heap.size w w'):zBZ w' lo hi W A:=by
 obtain⟨M,vd,h1,h2,h3⟩:=h;exact⟨M,vd,h1.zRX t,h2.zRX t,fun i hi'=>(h3 i hi').zRX t⟩
theorem zNx(w:World):(zeroValue 99).run Tryz.prog w = .ok (.agg #[.int .i64 0,.string ⟨#[]⟩,.string ⟨#[]⟩,.int .i64 0,.int .i64 0,.int .i64 0,.int .i64 0,.slice none 0 0]) w:=by kernel_rfl
theorem zMY{W:zH}{w:World}{lo hi:Nat}{vd:Nat->Value}(hD:zCT W)(hd:zEv w lo hi W.pn W.zRe vd)(x:Int):∃a c,(putD (fun i=>zKF (W.zRe i).id) (fun i=>ye (vd i) (W.zRe i)) W.pn).atKey (zKF x) (.held (.agg #[.int .i64 0,.string ⟨#[]⟩,.string ⟨#[]⟩,.int .i64 0,.int .i64 0,.int .i64 0,.int .i64 0,.slice none 0 0])) = .held (ye (.slice a (zN W x).dn c) (zN W x))/\zU w lo hi (.slice a (zN W x).dn c) (zN W x).dn (zN W x).ds (zN W x).db:=by
 have hk:zDh (fun i=>zKF (W.zRe i).id):=fun i=>zO9 _
 by_cases hx:∃k,qs W x k
 ·obtain⟨k,aA⟩:=hx;rw[qu aA];have hp:=hd k aA.1;obtain⟨_,a,c,hv,_⟩:=id hp;refine⟨a,c,?_,by rw[<-hv];exact hp⟩;have:=zK1 hk (fun i=>ye (vd i) (W.zRe i)) (.held (.agg #[.int .i64 0,.string ⟨#[]⟩,.string ⟨#[]⟩,.int .i64 0,.int .i64 0,.int .i64 0,.int .i64 0,.slice none 0 0])) W.pn k aA.1 (fun j h1 h2 e=>hD j h2 k h1 (zLn e).symm);rw[aA.2.1]at this;rw[this,hv]
 ·have e:zN W x=yL:=(by unfold zN;rw[dif_neg hx]);rw[e];refine⟨none,0,?_,⟨Nat.zero_le _,none,0,rfl,Nat.le_refl _,fun h=>absurd h (by simp[yL])⟩⟩;refine zGt hk _ (fun i hi' e2=>?_) _;exact hx (zGg (Nat.le_refl _) ⟨i,hi',zLn e2⟩)
theorem zBp(lo hi:Nat)(W:zH)(A:Nat)(x:Int)(w:World)(h:zBZ w lo hi W A)(hD:zCT W)(hx:(Lit.int .i64 x).wf=true)(hn:W.pn<=20) :
  Calls Tryz.prog 190 #[.int .i64 x,.pointer (some ⟨A,0,none⟩)] w fun e w'=>∃a c,e = .returned (ye (.slice a (zN W x).dn c) (zN W x))/\zU w lo hi (.slice a (zN W x).dn c) (zN W x).dn (zN W x).ds (zN W x).db/\Below w.heap.size w w':=by
 obtain⟨M,vd,hc,hm,hd⟩:=h;obtain⟨a,c,dA,hp⟩:=zMY hD hd x;have eA:=zB dA;have fA:=zB hp;have bA:=zB (zNX hx);clear dA hp hd hx;unfold ye at eA ⊢;generalize zN W x=S at *;have aA:=zC w (.cells #[.int .i64 0,.string ⟨#[]⟩,.string ⟨#[]⟩,.int .i64 0,.int .i64 0,.int .i64 0,.int .i64 0,.slice none 0 0] 99);have HM:=zB (hm.zRX aA);obtain⟨x0,-⟩:=hc.zRX aA;have cA:=zC w (.cells #[.int .i64 S.id,.string S.name,.string S.set,.int .i64 S.zRh,.int .i64 S.time,.int .i64 S.rs,.int .i64 S.rb,.slice a S.dn c] 99);obtain⟨⟨⟨y0,-⟩,⟨y1,-⟩,⟨y2,-⟩,⟨y3,-⟩⟩,⟨y4,-⟩,⟨y5,-⟩,⟨y6,-⟩,⟨y7,-⟩⟩:=zCP.zRZ w (.int .i64 S.id) (.string S.name) (.string S.set) (.int .i64 S.zRh) (.int .i64 S.time) (.int .i64 S.rs) (.int .i64 S.rb) (.slice a S.dn c) 99;clear hm hc aA;go_enter Tryz.func190,Tryz.ntmps190;go_wp2_with (first
  | (at_lookup;refine zFm _ rfl _ _ 218 rfl 2 99 zRC zPP (zNx _) M W.pn _ rfl HM.out _ _ rfl bA.out _ eA.out ?_)
  | go_in)
 refine bodyPost_ret (v:=.agg #[.int .i64 S.id,.string S.name,.string S.set,.int .i64 S.zRh,.int .i64 S.time,.int .i64 S.rs,.int .i64 S.rb,.slice a S.dn c]) (by simp[results,Tryz.results190,go_sem,y0,y1,y2,y3,y4,y5,y6,y7]) rfl ⟨a,c,rfl,fA.out,cA⟩
theorem zGx(v0 v1 v2 v3:Value)(lo hi:Nat)(W:zH)(w:World)(h:zk w lo hi v0 v1 v2 v3 W)(hn:W.pn<=20)(eA:zNp W.pn W.zRe) :
  Calls Tryz.prog 152 #[zz v0 v1 v2 v3 W] w fun e w'=>∃A,e = .returned (zGl A)/\zBZ w' lo hi W A/\Below w.heap.size w w':=by
 have Hp:=zB h;clear h;have gA:∀(fn:Fn) (first cA:Array Value) (w:World),(Instr.makeFunc fn first cA).run Tryz.prog w = .ok (.func fn first cA) w:=fun _ _ _ _=>rfl
 have ha:=zC w (.cells #[v0,v1,.int .i64 W.time,.int .i64 W.next,v2,v3] 37);obtain⟨⟨x0,-⟩,⟨x2,-⟩,⟨x4,-⟩,⟨x6,-⟩,⟨x8,-⟩,⟨dA,-⟩⟩:=zi.zRZ w v0 v1 (.int .i64 W.time) (.int .i64 W.next) v2 v3 37;go_enter Tryz.func152,Tryz.ntmps152;go_wp2_with fail;clear x0 x2 x4 x6 x8 dA;generalize w.alloc (.cells #[v0,v1,.int .i64 W.time,.int .i64 W.next,v2,v3] 37)=W0 at ha ⊢;refine(zI1 v0 v1 v2 v3 lo hi W W0 (Hp.out.zRX ha) hn eA).mono ?_;rintro e w1 ⟨vd,rfl,hm,hd,bA⟩;have aA:=zC w1 (.cells #[.map (some (W0.heap.size+1))] 218);have hc:zW (w1.alloc (.cells #[.map (some (W0.heap.size+1))] 218)) w1.heap.size 0 (.map (some (W0.heap.size+1))):=zJ (heap_alloc_new _ _) rfl;have HA:=zB (show zBZ (w1.alloc (.cells #[.map (some (W0.heap.size+1))] 218)) lo hi W w1.heap.size from⟨_,vd,hc,hm.zRX aA,fun i hi'=>((hd i hi').zRX bA).zRX aA⟩);have fA:=zA (zA ha bA) aA;clear hm hd bA aA hc;go_wp2;go_ret;exact⟨_,rfl,HA.out,fA⟩
def zNj(vd:Value)(m:zE8):List Value:=[.int .i64 m.zRh,.int .i64 m.time,.int .i64 m.rs,.int .i64 m.rb,vd]
def mrow(W:zH)(vd:Nat->Value):Nat->List Value
 | 0=>[]
 | k+1=>mrow W vd k ++ zNj (vd k) (zO W k)
theorem zFv(W:zH)(vd:Nat->Value):∀n,(mrow W vd n).length=n*5
 | 0=>rfl
 | n+1=>by simp[mrow,zFv W vd n,zNj];omega
theorem zDa{W:zH}{vd:Nat->Value}:∀{n i j:Nat},i<n->j<5->(mrow W vd n)[i*5+j]?=(zNj (vd i) (zO W i))[j]?
 | 0,i,j,hi,_=>absurd hi (Nat.not_lt_zero _)
 | n+1,i,j,hi,hj=>by
  unfold mrow;by_cases e:i=n
  ·subst e;rw[List.getElem?_append_right (by rw[zFv];omega),zFv,show i*5+j - i*5=j by omega]
  ·rw[List.getElem?_append_left (by rw[zFv];omega),zDa (by omega) hj]
def zIU(w:World)(lo hi:Nat)(W:zH)(vd:Nat->Value):Prop:=∀i,i<zq W->zU w lo hi (vd i) (zO W i).dn (zO W i).ds (zO W i).db
def zFa(w:World)(base:Nat)(v:Value)(W:zH)(vd:Nat->Value)(n:Nat):Prop:=w.ownsRow base 224 5 v n (mrow W vd n)
theorem zFa.zRX{w w1:World}{base:Nat}{v:Value}{W:zH}{vd:Nat->Value}{n:Nat}(h:zFa w base v W vd n)(hb:Below w.heap.size w w1):zFa w1 base v W vd n:=
 h.kept (yt hb none) (by cases v.ownBlock<;>simp)
theorem zFa.lt{w:World}{base:Nat}{v:Value}{W:zH}{vd:Nat->Value}{n:Nat}(h:zFa w base v W vd n){q:Nat}(hq:v.ownBlock=some q):base<=q/\q<w.heap.size:=by
 rcases h.2 with⟨rfl,_⟩ | ⟨g,aA,bA,rfl,hb,hg,_⟩
 ·simp[Value.ownBlock]at hq
 ·simp only[Value.ownBlock,Option.some.injEq]at hq;subst hq;exact⟨hb,(Array.getElem?_eq_some_iff.1 hg).1⟩
theorem zFa.next{w2:World}{base g aA:Nat}{W:zH}{vd:Nat->Value}{n:Nat}(h:w2.ownsRow base 224 5 (.slice (some ⟨g,0,none⟩) (n+1) aA) (n+1) (mrow W vd n ++ zNj (vd n) (zO W n))):zFa w2 base (.slice (some ⟨g,0,none⟩) (n+1) aA) W vd (n+1):=h
structure zFg (w:World) (lo hi:Nat) (v:Value) (W:zH) (vd:Nat->Value):Prop where
 form:∃a c,v = .slice a (zq W) c/\zq W<=c
 cells:∀i,i<zq W->∃g c,v = .slice (some ⟨g,0,none⟩) (zq W) c/\w.cell? ⟨g,i*5,none⟩=some (.int .i64 (zO W i).zRh)/\w.cell? ⟨g,i*5+1,none⟩=some (.int .i64 (zO W i).time)/\w.cell? ⟨g,i*5+2,none⟩=some (.int .i64 (zO W i).rs)/\w.cell? ⟨g,i*5+3,none⟩=some (.int .i64 (zO W i).rb)/\w.cell? ⟨g,i*5+4,none⟩=some (vd i)
 zRl:zIU w lo hi W vd
theorem zFg.zRX{w w1:World}{lo hi:Nat}{v:Value}{W:zH}{vd:Nat->Value}(h:zFg w lo hi v W vd)(t:Below w.heap.size w w1):zFg w1 lo hi v W vd where
 form:=h.form
 cells:=fun i hi'=>by
  obtain⟨g,c,e,h0,h1,h2,h3,h4⟩:=h.cells i hi';exact⟨g,c,e,(t.cell (zD h0)).trans h0,(t.cell (zD h1)).trans h1,(t.cell (zD h2)).trans h2,(t.cell (zD h3)).trans h3,(t.cell (zD h4)).trans h4⟩
 zRl:=fun i hi'=>(h.zRl i hi').zRX t
theorem zFa.at{w:World}{base lo hi:Nat}{v:Value}{W:zH}{vd:Nat->Value}(h:zFa w base v W vd (zq W))(hd:zIU w lo hi W vd):zFg w lo hi v W vd where
 form:=zY h
 cells:=fun i hi'=>by
  obtain⟨g,bA,e,dA,hb,cA,aA⟩:=qZ h (by omega);refine⟨g,bA,e,?_,?_,?_,?_,?_⟩
  ·exact(aA (i*5) _ (by have:=zDa (W:=W) (vd:=vd) hi' (show 0<5 by omega);rw[Nat.add_zero]at this;rw[this];rfl)).1
  ·exact(aA (i*5+1) _ (by rw[zDa hi' (by omega)];rfl)).1
  ·exact(aA (i*5+2) _ (by rw[zDa hi' (by omega)];rfl)).1
  ·exact(aA (i*5+3) _ (by rw[zDa hi' (by omega)];rfl)).1
  ·exact(aA (i*5+4) _ (by rw[zDa hi' (by omega)];rfl)).1
 zRl:=hd
theorem zQQ:(Tryz.prog.info? 224).map (fun i=>(i.zero,i.size,i.bytes))=some (some (.agg #[.int .i64 0,.int .i64 0,.int .i64 0,.int .i64 0,.slice none 0 0]),5,56):=by kernel_rfl
theorem zDL(v0 v1 v2 v3:Value)(lo hi:Nat)(W:zH)(w:World)(h:zk w lo hi v0 v1 v2 v3 W)(hs:W.sn<=8)(hp:W.pn<=20) :
  Calls Tryz.prog 181 #[zz v0 v1 v2 v3 W] w fun e w'=>∃v vd,e = .returned v/\zFg w' lo hi v W vd/\Below w.heap.size w w':=by
 have Hp:=zB h;obtain⟨m1,a,c,rfl,mc,-⟩:=id h.zRe;obtain⟨m2,a',c',rfl,eC,-⟩:=id h.zRg;unfold maxLen at m1 m2;obtain⟨vs,fB,mB⟩:=h.zRe.vals;obtain⟨vt,kB,nB⟩:=h.zRg.vals;have cC:∃vd:Nat->Value,(∀i,i<W.pn->vd i=vs i)/\(∀i,i<W.sn->vd (W.pn+i)=vt i)/\zIU w lo hi W vd:=by
  refine⟨fun i=>if i<W.pn then vs i else vt (i - W.pn),fun i hi'=>if_pos hi',fun i hi'=>?_,fun i hi'=>?_⟩
  ·show(if W.pn+i<W.pn then vs (W.pn+i)else vt (W.pn+i - W.pn))=vt i;rw[if_neg (by omega),show W.pn+i - W.pn=i by omega]
  ·show zU w lo hi (if i<W.pn then vs i else vt (i - W.pn)) _ _ _;by_cases oA:i<W.pn
   ·rw[if_pos oA,qQ oA];exact fB i oA
   ·have e:=yH W (i - W.pn);rw[show W.pn+(i - W.pn)=i by omega]at e;rw[if_neg oA,e];unfold zq at hi';exact kB _ (by omega)
 obtain⟨vd,iB,gB,jB⟩:=cC;have tB:=zB mB;have aC:=zB nB;have pB:=zB iB;have oB:=zB gB;have vB:=zB jB;clear h fB mB kB nB iB gB jB;obtain⟨i0,lB,cB⟩:=Option.map_eq_some_iff.1 zQQ;simp only[Prod.mk.injEq]at cB;have HI:=zB (And.intro lB cB);clear lB cB;have ha:=zC w (.cells #[v0,v1,.int .i64 W.time,.int .i64 W.next,.slice a' W.sn c',.slice a W.pn c] 37);have HB:=zB (zi.zRZ w v0 v1 (.int .i64 W.time) (.int .i64 W.next) (.slice a' W.sn c') (.slice a W.pn c) 37);obtain⟨⟨x0,-⟩,⟨x2,-⟩,⟨x4,-⟩,⟨x6,-⟩,⟨x8,-⟩,⟨vA,-⟩⟩:=HB.out;go_enter Tryz.func181,Tryz.ntmps181;go_wp2;clear x0 x2 x4 x6 x8 vA
 go_loopw [3,11] (fun v i wr=>∃k:Nat,k<=W.pn/\i = .int .i64 k/\zFa wr (w.heap.size+1) v W vd k/\zi wr w.heap.size v0 v1 (.int .i64 W.time) (.int .i64 W.next) (.slice a' W.sn c') (.slice a W.pn c)/\Below w.heap.size w wr) (fun _ i _=>W.pn - (intOf i).toNat)
 case atStart=>exact⟨0,Nat.zero_le _,rfl,World.ownsRow_nil _ _ _ _,HB.out,ha⟩
 case round=>
  clear HB ha;obtain⟨k,hk,rfl,gA,hX,hb⟩:=hrel;have cA:=zB gA;have HX:=zB hX;clear gA hX;by_cases kA:k<W.pn
  ·have aB:(k:Int)<(W.pn:Int):=(by omega);obtain⟨b,off,rfl,nA⟩:=tB.out k kA;have aA:=nA.zRX hb;rw[<-pB.out k kA]at aA;obtain⟨-,ad,cd,jA,-,-⟩:=id aA.zRl;have dB:=zB jA;rw[jA]at aA;clear jA nA;have iA:=zC wr (.cells #[.int .i64 (W.zRe k).id,.string (W.zRe k).name,.string (W.zRe k).set,.int .i64 (W.zRe k).zRh,.int .i64 (W.zRe k).time,.int .i64 (W.zRe k).rs,.int .i64 (W.zRe k).rb,.slice ad (W.zRe k).dn cd] 99);have pA:=zB (zCP.zRZ wr (.int .i64 (W.zRe k).id) (.string (W.zRe k).name) (.string (W.zRe k).set) (.int .i64 (W.zRe k).zRh) (.int .i64 (W.zRe k).time) (.int .i64 (W.zRe k).rs) (.int .i64 (W.zRe k).rb) (.slice ad (W.zRe k).dn cd) 99);have fA:=zC (wr.alloc (.cells #[.int .i64 (W.zRe k).id,.string (W.zRe k).name,.string (W.zRe k).set,.int .i64 (W.zRe k).zRh,.int .i64 (W.zRe k).time,.int .i64 (W.zRe k).rs,.int .i64 (W.zRe k).rb,.slice ad (W.zRe k).dn cd] 99)) (.cells #[.int .i64 (W.zRe k).zRh,.int .i64 (W.zRe k).time,.int .i64 (W.zRe k).rs,.int .i64 (W.zRe k).rb,.slice ad (W.zRe k).dn cd] 224);have HN:=zB (World.news_of_block (heap_alloc_last (wr.alloc (.cells #[.int .i64 (W.zRe k).id,.string (W.zRe k).name,.string (W.zRe k).set,.int .i64 (W.zRe k).zRh,.int .i64 (W.zRe k).time,.int .i64 (W.zRe k).rs,.int .i64 (W.zRe k).rb,.slice ad (W.zRe k).dn cd] 99)) (.cells #[.int .i64 (W.zRe k).zRh,.int .i64 (W.zRe k).time,.int .i64 (W.zRe k).rs,.int .i64 (W.zRe k).rb,.slice ad (W.zRe k).dn cd] 224)));have dA:=zB ((cA.out.zRX iA).zRX fA);have eB:=zB ((HX.out.zRX iA).zRX fA);have lA:=zA (zA hb iA) fA;have sB:=HX.out.1.lt;have sA:(wr.alloc (.cells #[.int .i64 (W.zRe k).id,.string (W.zRe k).name,.string (W.zRe k).set,.int .i64 (W.zRe k).zRh,.int .i64 (W.zRe k).time,.int .i64 (W.zRe k).rs,.int .i64 (W.zRe k).rb,.slice ad (W.zRe k).dn cd] 99)).heap.size=wr.heap.size+1:=World.size_alloc _ _;have rB:=fA.size;rw[sA]at HN;have q0:=aA.c0;have q1:=aA.c1;have q2:=aA.c2;have q3:=aA.c3;have q4:=aA.c4;have q5:=aA.c5;have q6:=aA.c6;have q7:=aA.c7;obtain⟨⟨⟨y0,-⟩,⟨y1,-⟩,⟨y2,-⟩,⟨y3,-⟩⟩,⟨y4,-⟩,⟨y5,-⟩,⟨y6,-⟩,⟨y7,-⟩⟩:=pA.out;clear aA iA fA cA HX;go_wp2_with (first
    | (at_builtin;refine wpList_append_lies _ rfl _ _ 220 rfl (w.heap.size+1) 224 i0 (.agg #[.int .i64 0,.int .i64 0,.int .i64 0,.int .i64 0,.slice none 0 0]) 5 56 (by kernel_rfl) HI.out.1 HI.out.2.1 HI.out.2.2.1 HI.out.2.2.2 rfl (by decide) _ _ _ rfl dA.out ⟨wr.heap.size+1,0,none⟩ 1 1 [.int .i64 (W.zRe k).zRh,.int .i64 (W.zRe k).time,.int .i64 (W.zRe k).rs,.int .i64 (W.zRe k).rb,.slice ad (W.zRe k).dn cd] rfl rfl HN.out (by simp[Value.oneCell']) (by decide) (by unfold maxLen;omega) (by omega) (by omega) _ rfl ?_;intro g' rA w8 eA bA tA bB)
    | go_in)
   go_roundw
   case rel=>
    have mA:∀q,Value.ownBlock _=some q->w.heap.size+1<=q:=fun q hq=>(dA.out.lt hq).1
    refine⟨k+1,by omega,by go_num,?_,eB.out.grown bA (fun q hq=>by have:=mA q hq;omega),lA.grown bA lA.size (fun q hq=>by have:=mA q hq;omega)⟩;refine zFa.next ?_;rw[qQ kA,dB.out];exact eA
   case measure=>simp[intOf];omega
  ·obtain rfl:k=W.pn:=(by omega);obtain⟨⟨x0,-⟩,⟨x2,-⟩,⟨x4,-⟩,⟨x6,-⟩,⟨x8,-⟩,⟨vA,-⟩⟩:=HX.out;go_wp2;clear x0 x2 x4 x6 x8 vA
   go_loopw [3,31] (fun v i wr=>∃k:Nat,k<=W.sn/\i = .int .i64 k/\zFa wr (w.heap.size+1) v W vd (W.pn+k)/\zi wr w.heap.size v0 v1 (.int .i64 W.time) (.int .i64 W.next) (.slice a' W.sn c') (.slice a W.pn c)/\Below w.heap.size w wr) (fun _ i _=>W.sn - (intOf i).toNat)
   case atStart=>exact⟨0,Nat.zero_le _,rfl,cA.out,HX.out,hb⟩
   case round=>
    clear HX hb cA hk kA;obtain⟨k,hk,rfl,gA,hX,hb⟩:=hrel;have cA:=zB gA;have HX:=zB hX;clear gA hX;by_cases kA:k<W.sn
    ·have aB:(k:Int)<(W.sn:Int):=(by omega);obtain⟨b,off,rfl,nA⟩:=aC.out k kA;have aA:=nA.zRX hb;rw[<-oB.out k kA]at aA;obtain⟨-,ad,cd,jA,-,-⟩:=id aA.zRl;have dB:=zB jA;rw[jA]at aA;clear jA nA;have iA:=zC wr (.cells #[.string (W.zRg k).name,.int .i64 (W.zRg k).origin,.int .i64 (W.zRg k).zRh,.int .i64 (W.zRg k).rs,.int .i64 (W.zRg k).rb,.slice ad (W.zRg k).dn cd] 67);have pA:=zB (zi.zRZ wr (.string (W.zRg k).name) (.int .i64 (W.zRg k).origin) (.int .i64 (W.zRg k).zRh) (.int .i64 (W.zRg k).rs) (.int .i64 (W.zRg k).rb) (.slice ad (W.zRg k).dn cd) 67);have bC:=zB (HX.out.zRX iA);have fA:=zC (wr.alloc (.cells #[.string (W.zRg k).name,.int .i64 (W.zRg k).origin,.int .i64 (W.zRg k).zRh,.int .i64 (W.zRg k).rs,.int .i64 (W.zRg k).rb,.slice ad (W.zRg k).dn cd] 67)) (.cells #[.int .i64 (W.zRg k).zRh,.int .i64 W.time,.int .i64 (W.zRg k).rs,.int .i64 (W.zRg k).rb,.slice ad (W.zRg k).dn cd] 224);have HN:=zB (World.news_of_block (heap_alloc_last (wr.alloc (.cells #[.string (W.zRg k).name,.int .i64 (W.zRg k).origin,.int .i64 (W.zRg k).zRh,.int .i64 (W.zRg k).rs,.int .i64 (W.zRg k).rb,.slice ad (W.zRg k).dn cd] 67)) (.cells #[.int .i64 (W.zRg k).zRh,.int .i64 W.time,.int .i64 (W.zRg k).rs,.int .i64 (W.zRg k).rb,.slice ad (W.zRg k).dn cd] 224)));have dA:=zB ((cA.out.zRX iA).zRX fA);have eB:=zB ((HX.out.zRX iA).zRX fA);have lA:=zA (zA hb iA) fA;have sB:=HX.out.1.lt;have sA:(wr.alloc (.cells #[.string (W.zRg k).name,.int .i64 (W.zRg k).origin,.int .i64 (W.zRg k).zRh,.int .i64 (W.zRg k).rs,.int .i64 (W.zRg k).rb,.slice ad (W.zRg k).dn cd] 67)).heap.size=wr.heap.size+1:=World.size_alloc _ _;have rB:=fA.size;rw[sA]at HN;have q0:=aA.c0;have q1:=aA.c1;have q2:=aA.c2;have q3:=aA.c3;have q4:=aA.c4;have q5:=aA.c5;obtain⟨⟨y0,-⟩,⟨y1,-⟩,⟨y2,-⟩,⟨y3,-⟩,⟨y4,-⟩,⟨y5,-⟩⟩:=pA.out;obtain⟨⟨z0,-⟩,⟨z2,-⟩,⟨z4,-⟩,⟨z6,-⟩,⟨z8,-⟩,⟨dC,-⟩⟩:=bC.out;clear aA iA fA cA HX;go_wp2_with (first
      | (at_builtin;refine wpList_append_lies _ rfl _ _ 220 rfl (w.heap.size+1) 224 i0 (.agg #[.int .i64 0,.int .i64 0,.int .i64 0,.int .i64 0,.slice none 0 0]) 5 56 (by kernel_rfl) HI.out.1 HI.out.2.1 HI.out.2.2.1 HI.out.2.2.2 rfl (by decide) _ _ _ rfl dA.out ⟨wr.heap.size+1,0,none⟩ 1 1 [.int .i64 (W.zRg k).zRh,.int .i64 W.time,.int .i64 (W.zRg k).rs,.int .i64 (W.zRg k).rb,.slice ad (W.zRg k).dn cd] rfl rfl HN.out (by simp[Value.oneCell']) (by decide) (by unfold maxLen;omega) (by omega) (by omega) _ rfl ?_;intro g' rA w8 eA bA tA bB)
      | go_in)
     go_roundw
     case rel=>
      have mA:∀q,Value.ownBlock _=some q->w.heap.size+1<=q:=fun q hq=>(dA.out.lt hq).1
      refine⟨k+1,by omega,by go_num,?_,eB.out.grown bA (fun q hq=>by have:=mA q hq;omega),lA.grown bA lA.size (fun q hq=>by have:=mA q hq;omega)⟩;show zFa w8 (w.heap.size+1) _ W vd (W.pn+k+1);refine zFa.next ?_;rw[yH,dB.out];exact eA
     case measure=>simp[intOf];omega
    ·obtain rfl:k=W.sn:=(by omega);go_wp2;go_ret;exact⟨_,vd,rfl,zFa.at cA.out (fun i hi'=>(vB.out i hi').zRX hb),hb⟩
def zEM(w:World)(b:Nat)(v0 v1 v2 v3 v4:Value):Prop:=zW w b 0 v0/\zW w b 1 v1/\zW w b 2 v2/\zW w b 3 v3/\zW w b 4 v4
theorem zEM.zRX{w w':World}{b:Nat}{v0 v1 v2 v3 v4:Value}(h:zEM w b v0 v1 v2 v3 v4)(t:Below w.heap.size w w'):zEM w' b v0 v1 v2 v3 v4:=⟨h.1.zRX t,h.2.1.zRX t,h.2.2.1.zRX t,h.2.2.2.1.zRX t,h.2.2.2.2.zRX t⟩
theorem zEM.zRZ(w:World)(v0 v1 v2 v3 v4:Value)(t:TypeId):zEM (w.alloc (.cells #[v0,v1,v2,v3,v4] t)) w.heap.size v0 v1 v2 v3 v4:=by
 have hb:(w.alloc (.cells #[v0,v1,v2,v3,v4] t)).heap[w.heap.size]?=some (.cells #[v0,v1,v2,v3,v4] t):=heap_alloc_new _ _;exact⟨zJ hb rfl,zJ hb rfl,zJ hb rfl,zJ hb rfl,zJ hb rfl⟩
def zCS(W:zH):Prop:=∀i,i<zq W->(Lit.int .i64 (zO W i).zRh).wf=true
def zIV(W:zH)(i:Nat):Prop:=(zN W (zO W i).zRh).id=(zO W i).zRh
theorem zDs(v:Value)(s:zl)(w:World):(Instr.field 99 (ye v s) 0).run Tryz.prog w = .ok (.int .i64 s.id) w/\(Instr.field 99 (ye v s) 2).run Tryz.prog w = .ok (.string s.set) w/\(Instr.field 99 (ye v s) 3).run Tryz.prog w = .ok (.int .i64 s.zRh) w/\(Instr.field 99 (ye v s) 4).run Tryz.prog w = .ok (.int .i64 s.time) w:=by
 refine⟨?_,?_,?_,?_⟩<;>kernel_rfl
theorem zIa(v0 v1 v2 v3:Value)(lo hi:Nat)(W:zH)(A:Nat)(w:World)(h:zk w lo hi v0 v1 v2 v3 W)(hs:W.sn<=8)(hp:W.pn<=20)(hA:zBZ w lo hi W A)(hD:zCT W)(iA:zCS W) :
  Calls Tryz.prog 205 #[zz v0 v1 v2 v3 W,zGl A] w fun e w'=>zG (∀i,i<zq W->zIV W i) e/\Below w.heap.size w w':=by
 have Hp:=zB h;have HA:=zB hA;have HD:=zB hD;have sA:=zB iA;clear h hA hD iA;have ha:=zC w (.cells #[v0,v1,.int .i64 W.time,.int .i64 W.next,v2,v3] 37);obtain⟨⟨x0,-⟩,⟨x2,-⟩,⟨x4,-⟩,⟨x6,-⟩,⟨x8,-⟩,⟨pA,-⟩⟩:=zi.zRZ w v0 v1 (.int .i64 W.time) (.int .i64 W.next) v2 v3 37;go_enter Tryz.func205,Tryz.ntmps205;go_wp2_with fail;clear x0 x2 x4 x6 x8 pA;generalize w.alloc (.cells #[v0,v1,.int .i64 W.time,.int .i64 W.next,v2,v3] 37)=W0 at ha ⊢;refine(zDL v0 v1 v2 v3 lo hi W W0 (Hp.out.zRX ha) hs hp).mono ?_;rintro e w1 ⟨vm,vd,rfl,hm,mA⟩;have HM:=zB hm;have dA:=zA ha mA;obtain⟨am,cm,rfl,aB⟩:=id hm.form;have bB:zq W<=28:=by unfold zq;omega
 clear ha mA hm;go_wp2
 go_loopw [10] (fun i wr=>∃k:Nat,k<=zq W/\i = .int .i64 k/\(∀j,j<k->zIV W j)/\Below w1.heap.size w1 wr) (fun i _=>zq W - (intOf i).toNat)
 case atStart=>exact⟨0,Nat.zero_le _,rfl,fun j hj=>absurd hj (Nat.not_lt_zero _),Below.refl _ _⟩
 case round=>
  obtain⟨k,hk,rfl,aA,hb⟩:=hrel;have cA:=zB aA;clear aA;by_cases bA:k<zq W;rotate_left
  ·obtain rfl:k=zq W:=(by omega);go_wp2;go_ret;exact⟨zG.yes cA.out,zA dA hb⟩
  have tA:(k:Int)<(zq W:Int):=(by omega);obtain⟨g,cg,e,q0,q1,q2,q3,q4⟩:=(HM.out.zRX hb).cells k bA;obtain⟨-,ad,cd,lA,-,-⟩:=id ((HM.out.zRX hb).zRl k bA);rw[lA]at q4;cases e;have gA:=zC wr (.cells #[.int .i64 (zO W k).zRh,.int .i64 (zO W k).time,.int .i64 (zO W k).rs,.int .i64 (zO W k).rb,.slice ad (zO W k).dn cd] 224);have HV:=zB (zEM.zRZ wr (.int .i64 (zO W k).zRh) (.int .i64 (zO W k).time) (.int .i64 (zO W k).rs) (.int .i64 (zO W k).rb) (.slice ad (zO W k).dn cd) 224);have fA:=zB (HA.out.zRX (zA dA (zA hb gA)));have jA:=zA hb gA;have oA:=zB (sA.out k bA);have nA:=zB (show zIV W k↔(zN W (zO W k).zRh).id=(zO W k).zRh from Iff.rfl);clear lA gA;generalize zO W k=m at *;go_wp2_with fail;clear q0 q1 q2 q3 q4;generalize wr.alloc (.cells #[.int .i64 m.zRh,.int .i64 m.time,.int .i64 m.rs,.int .i64 m.rb,.slice ad m.dn cd] 224)=W2 at HV fA jA ⊢;generalize wr.heap.size=V at HV ⊢;obtain⟨⟨y0,-⟩,-⟩:=HV.out;go_region_held3 (fun w'=>w'.cell? ⟨V,0,none⟩=some (.int .i64 m.zRh)) (go_keep)
   (first | (go_at_call 190;refine(zBp lo hi W A m.zRh _ ?_ HD.out oA.out hp).mono ?_;(exact fA.out.zRX (Below.refl _ _).drew);rintro e w6 ⟨aa,ca,rfl,rA,eA⟩;have vA:=fun w=>(zDs (.slice aa (zN W m.zRh).dn ca) (zN W m.zRh) w).1;obtain⟨⟨z0,_⟩,_⟩:=HV.out.zRX (zK eA)))
  have kA:=qd jA eA;clear eA rA vA z0 y0 fA;by_cases he:(zN W m.zRh).id=m.zRh
  ·have hd:((zN W m.zRh).id != m.zRh)=false:=(by simp[he]);have He:=zB (nA.out.2 he);clear he;go_wp2;go_roundw
   case rel=>exact⟨k+1,by omega,by go_num,zo bA cA.out He.out,kA⟩
   case measure=>simp[intOf];omega
  ·have hd:((zN W m.zRh).id != m.zRh)=true:=(by simp[he]);have He:=zB (fun h=>he (nA.out.1 h));clear he;go_wp2;go_ret;exact⟨zG.no fun h=>He.out (h k bA),zA dA kA⟩
theorem zNM(v:Value)(n lo hi:Nat)(f g:Nat->Int)(x y:Int)(w:World)(h1:zU w lo hi v n f g) :
  Calls Tryz.prog 228 #[v,.agg #[.int .i64 x,.int .i64 y]] w fun e w'=>∃r:Int,e = .returned (.int .i64 r)/\(0<=r↔PIn n f g x y)/\Below w.heap.size w w':=by
 have Hp:=zB h1;obtain⟨m1,a,c,rfl,mc,-⟩:=id h1;unfold maxLen at m1;clear h1;have ha:=zC w (.cells #[.int .i64 x,.int .i64 y] 61);have HB:=zB (zc.zRZ w (.int .i64 x) (.int .i64 y) 61);go_enter Tryz.func228,Tryz.ntmps228;go_wp2
 go_loopw [8] (fun i wr=>∃k:Nat,k<=n/\i = .int .i64 k/\¬PIn k f g x y/\zc wr w.heap.size (.int .i64 x) (.int .i64 y)/\Below w.heap.size w wr) (fun i _=>n - (intOf i).toNat)
 case atStart=>exact⟨0,Nat.zero_le _,rfl,fun ⟨j,hj,_⟩=>absurd hj (Nat.not_lt_zero _),HB.out,ha⟩
 case round=>
  obtain⟨k,hk,rfl,bA,hX,hb⟩:=hrel;have dA:=zB bA;have HX:=zB hX;clear bA hX;obtain⟨⟨x0,x1⟩,⟨x2,x3⟩⟩:=HX.out;by_cases cA:k<n
  ·have eA:(k:Int)<(n:Int):=(by omega);obtain⟨b,off,rfl,q0,q1⟩:=(Hp.out.zRX hb).zRb cA;by_cases he:f k=x/\g k=y
   ·have H:=zB (show PIn n f g x y from⟨k,cA,he.1,he.2⟩);rw[he.1]at q0;rw[he.2]at q1;clear he;go_wp2
    go_quiet (fail)
    go_wp2;go_ret;exact⟨k,rfl,⟨fun _=>H.out,fun _=>by omega⟩,zg hb _⟩
   ·have H:=zB he;have e0:(x == f k)=false\/(x == f k)=true/\(y == g k)=false:=by
     by_cases h:f k=x
     ·right;refine⟨by simp[h],?_⟩;have:¬y=g k:=fun h'=>he ⟨h,h'.symm⟩
      simp[this]
     ·left;have:¬x=f k:=fun h'=>h h'.symm
      simp[this]
    clear he;rcases e0 with e0 | ⟨e0,e1⟩
    all_goals
     go_wp2
     go_quiet (fail)
     go_wp2;go_roundw
     case rel=>
      refine⟨k+1,by omega,by go_num,?_,HX.out.zRX (zg (Below.refl _ _) _),zg hb _⟩;rintro⟨j,hj,aA⟩;by_cases e:j=k
      ·subst e;exact H.out ⟨aA.1,aA.2⟩
      ·exact dA.out ⟨j,by omega,aA⟩
     case measure=>simp[intOf];omega
  ·obtain rfl:k=n:=(by omega);go_wp2;go_ret;exact⟨-1,rfl,⟨fun h=>absurd h (by decide),fun h=>absurd h dA.out⟩,hb⟩
theorem zFL(v:Value)(n lo hi:Nat)(f g:Nat->Int)(x y:Int)(w:World)(h1:zU w lo hi v n f g) :
  Calls Tryz.prog 220 #[v,.agg #[.int .i64 x,.int .i64 y]] w fun e w'=>zG (PIn n f g x y) e/\Below w.heap.size w w':=by
 have Hp:=zB h1;clear h1;have ha:=zC w (.cells #[.int .i64 x,.int .i64 y] 61);obtain⟨⟨x0,-⟩,⟨x2,-⟩⟩:=zc.zRZ w (.int .i64 x) (.int .i64 y) 61;go_enter Tryz.func220,Tryz.ntmps220;go_wp2_with fail;refine(zNM v n lo hi f g x y _ (Hp.out.zRX ha)).mono ?_;rintro e w1 ⟨r,rfl,hr,aA⟩;have Hr:=zB hr;have hB:=zA ha aA;clear hr aA x0 x2 ha;go_wp2;go_ret;refine⟨⟨_,rfl,?_⟩,hB⟩;have:=Hr.out;simp only[decide_eq_true_eq];exact this
theorem zLG(v:Value)(n lo hi:Nat)(f g:Nat->Int)(x y:Int)(T:Nat)(w:World)(h1:zU w lo hi v n f g)(hT:w.cell? ⟨T,0,none⟩=some v) :
  Calls Tryz.prog 231 #[.agg #[.int .i64 x,.int .i64 y],.pointer (some ⟨T,0,none⟩)] w fun e w'=>zG (PIn n f g x y) e/\Below w.heap.size w w':=by
 have Hp:=zB h1;obtain⟨m1,a,c,rfl,mc,-⟩:=id h1;clear h1;have ha:=zC w (.cells #[.int .i64 x,.int .i64 y] 61);obtain⟨⟨x0,-⟩,⟨x2,-⟩⟩:=zc.zRZ w (.int .i64 x) (.int .i64 y) 61;have cA:=(ha.cell (p:=⟨T,0,none⟩) (zD hT)).trans hT;clear hT;go_enter Tryz.func231,Tryz.ntmps231;go_wp2_with fail;refine(zFL _ n lo hi f g x y _ (Hp.out.zRX ha)).mono ?_;rintro e w1 ⟨⟨t1,rfl,bA⟩,aA⟩;have Ht:=zB bA;have hB:=zA ha aA;clear bA aA x0 x2 ha cA;go_wp2;go_ret;exact⟨⟨_,rfl,Ht.out⟩,hB⟩
theorem zMz(v:Value)(n lo hi:Nat)(f g:Nat->Int)(x y:Int)(T:Nat)(w:World)(h1:zU w lo hi v n f g)(hT:w.cell? ⟨T,0,none⟩=some v) :
  Calls Tryz.prog 232 #[.agg #[.int .i64 x,.int .i64 y],.pointer (some ⟨T,0,none⟩)] w fun e w'=>zG (PIn n f g x y) e/\Below w.heap.size w w':=by
 have Hp:=zB h1;obtain⟨m1,a,c,rfl,mc,-⟩:=id h1;clear h1;have ha:=zC w (.cells #[.int .i64 x,.int .i64 y] 61);obtain⟨⟨x0,-⟩,⟨x2,-⟩⟩:=zc.zRZ w (.int .i64 x) (.int .i64 y) 61;have cA:=(ha.cell (p:=⟨T,0,none⟩) (zD hT)).trans hT;clear hT;go_enter Tryz.func232,Tryz.ntmps232;go_wp2_with fail;refine(zFL _ n lo hi f g x y _ (Hp.out.zRX ha)).mono ?_;rintro e w1 ⟨⟨t1,rfl,bA⟩,aA⟩;have Ht:=zB bA;have hB:=zA ha aA;clear bA aA x0 x2 ha cA;go_wp2;go_ret;exact⟨⟨_,rfl,Ht.out⟩,hB⟩
theorem zBr(v0 v1 v2 v3:Value)(lo hi:Nat)(W:zH)(xs xb:Int)(w:World)(h:zk w lo hi v0 v1 v2 v3 W)(hR:zx W.zRd)(hT:qG W.zRd xs xb) :
  Calls Tryz.prog 226 #[zz v0 v1 v2 v3 W,.agg #[.int .i64 xs,.int .i64 xb]] w fun e w'=>∃v,e = .returned v/\zw w' w.heap.size v (zR W.zRd xs xb)/\Below w.heap.size w w':=by
 have Hp:=zB h;have HR:=zB hR;have HT:=zB (show Nil xs xb\/zr W.zRd xs xb from hT.imp id (fun h=>h.1.1));obtain⟨m0,a0,c0,rfl,eA,-⟩:=id h.zRd.1;clear h hR hT;have ha:=zC w (.cells #[.slice a0 W.zRd.n c0,v1,.int .i64 W.time,.int .i64 W.next,v2,v3] 37);have hB:=zi.zRZ w (.slice a0 W.zRd.n c0) v1 (.int .i64 W.time) (.int .i64 W.next) v2 v3 37;have hz:(w.alloc (.cells #[.slice a0 W.zRd.n c0,v1,.int .i64 W.time,.int .i64 W.next,v2,v3] 37)).heap.size=w.heap.size+1:=World.size_alloc _ _;have bA:=zC (w.alloc (.cells #[.slice a0 W.zRd.n c0,v1,.int .i64 W.time,.int .i64 W.next,v2,v3] 37)) (.cells #[.int .i64 xs,.int .i64 xb] 61);have hX:=zc.zRZ (w.alloc (.cells #[.slice a0 W.zRd.n c0,v1,.int .i64 W.time,.int .i64 W.next,v2,v3] 37)) (.int .i64 xs) (.int .i64 xb) 61;rw[hz]at hX;have aA:=zA ha bA;obtain⟨⟨x0,-⟩,⟨x2,-⟩,-⟩:=hB.zRX bA;obtain⟨⟨y0,-⟩,⟨y2,-⟩⟩:=hX;clear hB ha bA;go_enter Tryz.func226,Tryz.ntmps226;go_wp2_with fail;clear x0 x2 y0 y2;generalize (w.alloc (.cells #[.slice a0 W.zRd.n c0,v1,.int .i64 W.time,.int .i64 W.next,v2,v3] 37)).alloc (.cells #[.int .i64 xs,.int .i64 xb] 61)=W0 at aA ⊢;refine(zJf W.zRd HR.out _ lo hi xs xb W0 (Hp.out.zRd.1.zRX aA) HT.out).mono ?_;rintro e w1 ⟨v,rfl,hr,cA⟩;have Hr:=zB hr;have hB:=zA aA cA;have dA:=aA.size;clear hr cA;go_wp2;go_ret;exact⟨v,rfl,zw.mono Hr.out dA,hB⟩
theorem zFK(n:Int)(w:World):Calls Tryz.prog 187 #[.int .i64 n] w fun e w'=>zG (zCG n) e/\w'=w:=by
 by_cases h1:0<=n
 ·by_cases h2:n<=1000000
  ·go_enter Tryz.func187,Tryz.ntmps187;go_wp2;go_ret;exact⟨zG.yes ⟨h1,h2⟩,rfl⟩
  ·go_enter Tryz.func187,Tryz.ntmps187;go_wp2;go_ret;exact⟨zG.no fun h=>by have:=h.2;omega,rfl⟩
 ·go_enter Tryz.func187,Tryz.ntmps187;go_wp2;go_ret;exact⟨zG.no fun h=>by have:=h.1;omega,rfl⟩
theorem zMq(x y t:Int)(T:Nat)(w:World)(hT:w.cell? ⟨T,0,none⟩=some (.int .i64 t)):Calls Tryz.prog 189 #[.agg #[.int .i64 x,.int .i64 y],.pointer (some ⟨T,0,none⟩)] w fun e w'=>zG (t<y) e/\Below w.heap.size w w':=by
 have aA:=zC w (.cells #[.int .i64 x,.int .i64 y] 61);have bA:=(aA.cell (p:=⟨T,0,none⟩) (zD hT)).trans hT;by_cases h:t<y
 ·go_enter Tryz.func189,Tryz.ntmps189;go_wp2;go_ret;exact⟨⟨_,rfl,by simpa using h⟩,aA⟩
 ·go_enter Tryz.func189,Tryz.ntmps189;go_wp2;go_ret;exact⟨⟨_,rfl,by simpa using h⟩,aA⟩
def zDK(l l':List (Int×Int))(w w':World)(v v':Value):Prop:=zw w' w.heap.size v l/\zw w' w.heap.size v' l'/\(∀q,v.ownBlock=some q->v'.ownBlock≠some q)/\Below w.heap.size w w'
theorem zB8{w1 w2:World}{base g bA:Nat}{v v':Value}{l l':List (Int×Int)}{x y:Int}(h':zw w1 base v' l')(ha:∀q,v.ownBlock=some q->v'.ownBlock≠some q)
  (aA:w2.ownsRow base 61 2 (.slice (some ⟨g,0,none⟩) (l.length+1) bA) (l.length+1) (pcl l ++ [.int .i64 x,.int .i64 y])) (hg:w1.grownBy w2 v.ownBlock) (cA:v.ownBlock=some g\/g=w1.heap.size) :
  zw w2 base (.slice (some ⟨g,0,none⟩) (l.length+1) bA) (l ++ [(x,y)])/\zw w2 base v' l'/\(∀q,(Value.slice (some ⟨g,0,none⟩) (l.length+1) bA).ownBlock=some q->v'.ownBlock≠some q):=by
 refine⟨?_,h'.zRf hg (fun q hq e=>ha q e hq),fun q hq e=>?_⟩
 ·unfold zw;rw[zA9,List.length_append];exact aA
 ·simp only[Value.ownBlock,Option.some.injEq]at hq;subst hq;rcases cA with h | h
  ·exact ha _ h e
  ·have:=(h'.lt e).2;omega
theorem zPg(v:Value)(n lo hi T:Nat)(f g:Nat->Int)(t:Int)(w:World)(h1:zU w lo hi v n f g)(hn:n<=200)(hT:w.cell? ⟨T,0,none⟩=some (.int .i64 t)) :
  Calls Tryz.prog 188 #[v,.func (.func 189) #[] #[.pointer (some ⟨T,0,none⟩)]] w fun e w'=>∃vy vo,e = .returned (.tuple #[vy,vo])/\zDK (qY f g t n) (zBx f g t n) w w' vy vo:=by
 have Hp:=zX h1;have HT:=zX hT;obtain⟨m1,a,c,rfl,mc,_⟩:=id h1;clear h1 hT;obtain⟨i0,tA,mA⟩:=Option.map_eq_some_iff.1 zA3;simp only[Prod.mk.injEq]at mA;have HI:=zX (And.intro tA mA);clear tA mA;go_enter Tryz.func188,Tryz.ntmps188;go_wp2
 go_loopw [6,7,12] (fun vy vo i wr=>∃k:Nat,k<=n/\i = .int .i64 k/\zDK (qY f g t k) (zBx f g t k) w wr vy vo) (fun _ _ i _=>n - (intOf i).toNat)
 case atStart=>exact⟨0,Nat.zero_le _,rfl,zw.nil _ _,zw.nil _ _,fun q hq=>by simp[Value.ownBlock]at hq,Below.refl _ _⟩
 case round=>
  obtain⟨k,hk,rfl,hy,ho,rA,hb⟩:=hrel;have Hy:=zX hy;have Ho:=zX ho;have lA:=zX rA;have eB:=zCb f g t k;clear hy ho rA;by_cases fB:k<n
  ·have cB:(k:Int)<(n:Int):=(by omega);obtain⟨b,off,rfl,q0,q1⟩:=(Hp.out.zRX hb).zRb fB;have gA:=zC wr (.cells #[.int .i64 (f k),.int .i64 (g k)] 61);have HV:=zX (zc.zRZ wr (.int .i64 (f k)) (.int .i64 (g k)) 61);have kA:=zA hb gA;have pA:=zX ((kA.cell (p:=⟨T,0,none⟩) (zD HT.out)).trans HT.out);have gB:∀(fn:Fn) (first vA:Array Value) (w:World),(Instr.makeFunc fn first vA).run Tryz.prog w = .ok (.func fn first vA) w:=fun _ _ _ _=>rfl
   go_wp2_with fail;refine(zMq (f k) (g k) t T _ pA.out).mono ?_;rintro e w1 ⟨⟨s,rfl,hs⟩,dA⟩;have aB:=zX ((Hy.out.zRX gA).zRX dA);have bB:=zX ((Ho.out.zRX gA).zRX dA);have dB:=zX (HV.out.zRX dA);have sA:=zA kA dA;clear dA kA gA Hy Ho HV q0 q1 pA;have jB:=sA.size;obtain⟨⟨x0,x1⟩,⟨x2,x3⟩⟩:=dB.out;have eA:=zC w1 (.cells #[.int .i64 (f k),.int .i64 (g k)] 61);have jA:=zX (aB.out.zRX eA);have nA:=zX (bB.out.zRX eA);have fA:=zA sA eA;have iB:(w1.alloc (.cells #[.int .i64 (f k),.int .i64 (g k)] 61)).heap.size=w1.heap.size+1:=World.size_alloc _ _;have HN:=zX (World.news_of_block (heap_alloc_last w1 (.cells #[.int .i64 (f k),.int .i64 (g k)] 61)));clear eA;by_cases hq:t<g k
   ·obtain rfl:s=true:=hs.2 hq;have ey:qY f g t (k+1)=qY f g t k ++ [(f k,g k)]:=if_pos hq;have eo:zBx f g t (k+1)=zBx f g t k:=if_pos hq;clear hs hq;go_wp2_with (first
     | (at_builtin;refine wpList_append_lies _ rfl _ _ 62 rfl w.heap.size 61 i0 (.agg #[.int .i64 0,.int .i64 0]) 2 16 (by kernel_rfl) HI.out.1 HI.out.2.1 HI.out.2.2.1 HI.out.2.2.2 rfl (by decide) _ _ _ rfl jA.out ⟨w1.heap.size,0,none⟩ 1 1 [.int .i64 (f k),.int .i64 (g k)] rfl rfl HN.out (by simp[Value.oneCell']) (by decide) (by unfold maxLen;omega) (by omega) (by omega) _ rfl ?_;intro g' iA w4 bA aA cA oA)
     | go_in)
    go_roundw
    case rel=>
     obtain⟨r1,r2,r3⟩:=zB8 nA.out lA.out bA aA cA;exact⟨k+1,by omega,by go_num,by rw[ey];exact r1,by rw[eo];exact r2,r3,fA.grown aA fA.size (fun q hq=>(jA.out.lt hq).1)⟩
    case measure=>simp[intOf];omega
   ·obtain rfl:s=false:=zQ hs hq;have ey:qY f g t (k+1)=qY f g t k:=if_neg hq;have eo:zBx f g t (k+1)=zBx f g t k ++ [(f k,g k)]:=if_neg hq;clear hs hq;go_wp2_with (first
     | (at_builtin;refine wpList_append_lies _ rfl _ _ 62 rfl w.heap.size 61 i0 (.agg #[.int .i64 0,.int .i64 0]) 2 16 (by kernel_rfl) HI.out.1 HI.out.2.1 HI.out.2.2.1 HI.out.2.2.2 rfl (by decide) _ _ _ rfl nA.out ⟨w1.heap.size,0,none⟩ 1 1 [.int .i64 (f k),.int .i64 (g k)] rfl rfl HN.out (by simp[Value.oneCell']) (by decide) (by unfold maxLen;omega) (by omega) (by omega) _ rfl ?_;intro g' iA w4 bA aA cA oA)
     | go_in)
    go_roundw
    case rel=>
     obtain⟨r1,r2,r3⟩:=zB8 jA.out (fun q h h'=>lA.out q h' h) bA aA cA;exact⟨k+1,by omega,by go_num,by rw[ey];exact r2,by rw[eo];exact r1,fun q h h'=>r3 q h' h,fA.grown aA fA.size (fun q hq=>(nA.out.lt hq).1)⟩
    case measure=>simp[intOf];omega
  ·obtain rfl:k=n:=(by omega);go_wp2
   go_ret2
   exact⟨_,_,rfl,Hy.out,Ho.out,lA.out,hb⟩
def zQz(n:Nat)(f g:Nat->Int)(t:Int)(l:List (Int×Int)):Prop:=(qm n f g/\zCG t->l=qY f g t n)/\(¬(qm n f g/\zCG t)->l = [])
def zQ8(n:Nat)(f g:Nat->Int)(t:Int)(l:List (Int×Int)):Prop:=(qm n f g/\zCG t->l=zBx f g t n)/\(¬(qm n f g/\zCG t)->l = [])
def zQY(n:Nat)(f g:Nat->Int)(t:Int)(w:World)(e:Ending)(w':World):Prop:=∃vy vo l l',e = .returned (.agg #[vy,vo])/\zQz n f g t l/\zQ8 n f g t l'/\zDK l l' w w' vy vo
theorem zA4(v:Value)(n lo hi:Nat)(f g:Nat->Int)(t:Int)(w:World)(h1:zU w lo hi v n f g) :
  Calls Tryz.prog 151 #[v,.int .i64 t] w (zQY n f g t w):=by
 have Hp:=zX h1;obtain⟨m1,a,c,rfl,mc,_⟩:=id h1;clear h1;have oA:∀(fn:Fn) (first kA:Array Value) (w:World),(Instr.makeFunc fn first kA).run Tryz.prog w = .ok (.func fn first kA) w:=fun _ _ _ _=>rfl
 have ha:=zC w (.cells #[.int .i64 t] 2);have gA:=zC (w.alloc (.cells #[.int .i64 t] 2)) (.cells #[.slice none 0 0,.slice none 0 0] 201);have hA:=zA ha gA;have HT:=zX (show zW ((w.alloc (.cells #[.int .i64 t] 2)).alloc (.cells #[.slice none 0 0,.slice none 0 0] 201)) w.heap.size 0 (.int .i64 t)from zW.zRX ⟨by rw[World.cell?_alloc_at _ _ _ _ rfl];rfl,World.frozen?_alloc_at _ _ _ _ rfl⟩ gA);have HR:=zX (zc.zRZ (w.alloc (.cells #[.int .i64 t] 2)) (.slice none 0 0) (.slice none 0 0) 201);rw[World.size_alloc]at HR;clear ha gA;by_cases ho:qm n f g
 ·have Ho:=zX ho;clear ho;by_cases hq:zCG t
  ·have Hq:=zX hq;clear hq;go_enter Tryz.func151,Tryz.ntmps151;go_wp2_with fail;generalize (w.alloc (.cells #[.int .i64 t] 2)).alloc (.cells #[.slice none 0 0,.slice none 0 0] 201)=W at HT HR hA ⊢;refine(qg _ n lo hi f g _ (Hp.out.zRX hA)).mono ?_;rintro e w1 ⟨⟨s,rfl,hs⟩,aA⟩;obtain rfl:s=true:=hs.2 Ho.out;have eA:=zX (HT.out.zRX aA);have dA:=zX (HR.out.zRX aA);have cA:=zA hA aA;clear hs aA hA HT HR;obtain⟨x0,x1⟩:=eA.out;go_wp2_with (first
    | (go_at_call 187;refine(zFK t _).mono ?_;rintro e w2 ⟨⟨s,rfl,hs⟩,rfl⟩;obtain rfl:s=true:=hs.2 Hq.out;clear hs)
    | fail)
   go_wp2_with fail;refine(zPg _ n lo hi w.heap.size f g t _ (Hp.out.zRX cA) Ho.out.1 eA.out.1).mono ?_;rintro e w3 ⟨vy,vo,rfl,bA⟩;have iA:=bA.2.2.2;have lA:=zY bA.1;have jA:=zY bA.2.1;obtain⟨ya,yc,rfl,_⟩:=lA;obtain⟨oa,oc,rfl,_⟩:=jA;have mA:=zX (dA.out.zRX iA);have HN:=zX bA;have fA:w.heap.size+1<w2.heap.size:=dA.out.1.lt;have nA:=zA cA iA;clear bA iA x0 x1 eA dA;obtain⟨⟨x0,x1⟩,⟨x2,x3⟩⟩:=mA.out;go_wp2;refine bodyPost_ret (v:=.agg #[.slice ya (qY f g t n).length yc,.slice oa (zBx f g t n).length oc]) (by simp[results,Tryz.results151,go_sem, *]) rfl ?_;refine⟨_,_,qY f g t n,zBx f g t n,rfl,⟨fun _=>rfl,fun h=>absurd ⟨Ho.out,Hq.out⟩ h⟩,⟨fun _=>rfl,fun h=>absurd ⟨Ho.out,Hq.out⟩ h⟩,?_,?_,HN.out.2.2.1,(nA.setCell (by show w.heap.size<=w.heap.size+1;omega) _).setCell (by show w.heap.size<=w.heap.size+1;omega) _⟩
   ·exact(((zw.put HN.out.1 fA _).put fA _)).mono cA.size
   ·exact(((zw.put HN.out.2.1 fA _).put fA _)).mono cA.size
  ·have Hq:=zX hq;clear hq;go_enter Tryz.func151,Tryz.ntmps151;go_wp2_with fail;generalize (w.alloc (.cells #[.int .i64 t] 2)).alloc (.cells #[.slice none 0 0,.slice none 0 0] 201)=W at HT HR hA ⊢;refine(qg _ n lo hi f g _ (Hp.out.zRX hA)).mono ?_;rintro e w1 ⟨⟨s,rfl,hs⟩,aA⟩;obtain rfl:s=true:=hs.2 Ho.out;have eA:=zX (HT.out.zRX aA);have dA:=zX (HR.out.zRX aA);have cA:=zA hA aA;clear hs aA hA HT HR;obtain⟨x0,x1⟩:=eA.out;obtain⟨⟨y0,y1⟩,⟨y2,y3⟩⟩:=dA.out;go_wp2_with (first
    | (go_at_call 187;refine(zFK t _).mono ?_;rintro e w2 ⟨⟨s,rfl,hs⟩,rfl⟩;obtain rfl:s=false:=zQ hs Hq.out;clear hs)
    | fail)
   go_wp2;refine bodyPost_ret (v:=.agg #[.slice none 0 0,.slice none 0 0]) (by simp[results,Tryz.results151,go_sem, *]) rfl ?_;exact⟨_,_,[],[],rfl,⟨fun h=>absurd h.2 Hq.out,fun _=>rfl⟩,⟨fun h=>absurd h.2 Hq.out,fun _=>rfl⟩,zw.nil _ _,zw.nil _ _,fun q hq=>by simp[Value.ownBlock]at hq,(cA.setCell (by show w.heap.size<=w.heap.size+1;omega) _).setCell (by show w.heap.size<=w.heap.size+1;omega) _⟩
 ·have Ho:=zX ho;clear ho;go_enter Tryz.func151,Tryz.ntmps151;go_wp2_with fail;generalize (w.alloc (.cells #[.int .i64 t] 2)).alloc (.cells #[.slice none 0 0,.slice none 0 0] 201)=W at HT HR hA ⊢;refine(qg _ n lo hi f g _ (Hp.out.zRX hA)).mono ?_;rintro e w1 ⟨⟨s,rfl,hs⟩,aA⟩;obtain rfl:s=false:=zQ hs Ho.out;have dA:=zX (HR.out.zRX aA);have cA:=zA hA aA;clear hs aA hA HT HR;obtain⟨⟨y0,y1⟩,⟨y2,y3⟩⟩:=dA.out;go_wp2;refine bodyPost_ret (v:=.agg #[.slice none 0 0,.slice none 0 0]) (by simp[results,Tryz.results151,go_sem, *]) rfl ?_;exact⟨_,_,[],[],rfl,⟨fun h=>absurd h.1 Ho.out,fun _=>rfl⟩,⟨fun h=>absurd h.1 Ho.out,fun _=>rfl⟩,zw.nil _ _,zw.nil _ _,fun q hq=>by simp[Value.ownBlock]at hq,(cA.setCell (by show w.heap.size<=w.heap.size+1;omega) _).setCell (by show w.heap.size<=w.heap.size+1;omega) _⟩
end Go.Proofs.YtmgeglgboadfiaaGreatDoor
