/- A part of the proof. -/
import Derived.Test.YtgabgheflgjgiaaGreatDoorU13
set_option linter.unusedVariables false
set_option maxRecDepth 20000
set_option maxHeartbeats 4000000
namespace Go.Proofs.YtgabgheflgjgiaaGreatDoor
open Go.RowKit Go.Maps
theorem zIb(v0 v1 v2 v3:Value)(lo hi:Nat)(W:zH)(w:World)(h:zr w lo hi v0 v1 v2 v3 W)(hT:zAz W)(hP:zCA W)(hs:W.sn<=8)(hp:W.pn<=20) :
  Calls Tryz.prog 107 #[qT v0 v1 v2 v3 W] w fun e w'=>zK (zFH W) e/\Below w.heap.size w w':=by
 have Hp:=zB h;have HT:=zB hT;have HP:=zB hP;obtain⟨m1,a,c,rfl,mc,-⟩:=id h.zOw;obtain⟨m2,a',c',rfl,pE,-⟩:=id h.zOy;obtain⟨m0,a0,c0,rfl,rE,-⟩:=id h.zOv.1;unfold maxLen at m0 m1 m2;have oE:W.zOv.n<=200:=hT.right.1;clear h hT hP;have nE:=zDr W.zOv.n (by omega);have ha:=zC w (.cells #[.slice a0 W.zOv.n c0,v1,.int .i64 W.time,.int .i64 W.next,.slice a' W.sn c',.slice a W.pn c] 40);have oD:(w.alloc (.cells #[.slice a0 W.zOv.n c0,v1,.int .i64 W.time,.int .i64 W.next,.slice a' W.sn c',.slice a W.pn c] 40)).heap.size=w.heap.size+1:=World.size_alloc _ _;have dE:∀W1:World,W1=w.alloc (.cells #[.slice a0 W.zOv.n c0,v1,.int .i64 W.time,.int .i64 W.next,.slice a' W.sn c',.slice a W.pn c] 40)->za (W1.alloc (.cells (madeCells #[.bool false] W.zOv.n) 4)) w.heap.size (.slice a0 W.zOv.n c0) v1 (.int .i64 W.time) (.int .i64 W.next) (.slice a' W.sn c') (.slice a W.pn c)/\yP (W1.alloc (.cells (madeCells #[.bool false] W.zOv.n) 4)) (w.heap.size+1) W.zOv.n (fun _=>false)/\Below w.heap.size w (W1.alloc (.cells (madeCells #[.bool false] W.zOv.n) 4))/\w.heap.size+2<=(W1.alloc (.cells (madeCells #[.bool false] W.zOv.n) 4)).heap.size:=by
  rintro W1 rfl;have hB:=za.zOt w (.slice a0 W.zOv.n c0) v1 (.int .i64 W.time) (.int .i64 W.next) (.slice a' W.sn c') (.slice a W.pn c) 40;have hR:=yP.zOt (w.alloc (.cells #[.slice a0 W.zOv.n c0,v1,.int .i64 W.time,.int .i64 W.next,.slice a' W.sn c',.slice a W.pn c] 40)) W.zOv.n 4;rw[oD]at hR;generalize w.alloc (.cells #[.slice a0 W.zOv.n c0,v1,.int .i64 W.time,.int .i64 W.next,.slice a' W.sn c',.slice a W.pn c] 40)=W1 at *;have b2:=zC W1 (.cells (madeCells #[.bool false] W.zOv.n) 4);exact⟨hB.zOp b2,hR,zA ha b2,by rw[World.size_alloc,oD];omega⟩
 have aE:=zB (dE _ rfl);clear dE;go_enter Tryz.func107,Tryz.ntmps107;obtain⟨⟨x0,x1⟩,⟨x2,x3⟩,⟨x4,x5⟩,⟨x6,x7⟩,⟨x8,x9⟩,⟨mA,nA⟩⟩:=za.zOt w (.slice a0 W.zOv.n c0) v1 (.int .i64 W.time) (.int .i64 W.next) (.slice a' W.sn c') (.slice a W.pn c) 40;go_wp2;clear x0 x1 x2 x3 x4 x5 x6 x7 x8 x9 mA nA ha
 go_loopw [4] (fun i wr=>∃k:Nat,∃f,k<=W.pn+W.sn/\i = .int .i64 k/\za wr w.heap.size (.slice a0 W.zOv.n c0) v1 (.int .i64 W.time) (.int .i64 W.next) (.slice a' W.sn c') (.slice a W.pn c)/\yP wr (w.heap.size+1) W.zOv.n f/\zBO W k [] [] 0 f/\zIN W k/\Below w.heap.size w wr/\w.heap.size+2<=wr.heap.size) (fun i _=>W.pn+W.sn - (intOf i).toNat)
 case atStart=>
  obtain⟨s1,s2,s3,s4⟩:=aE.out;exact⟨0,fun _=>false,Nat.zero_le _,rfl,s1,s2,fun s=>⟨fun h=>absurd h (by simp),fun h=>by rcases h with⟨i,hi,_⟩ | ⟨q,hq,_⟩<;>omega⟩,fun i hi=>absurd hi (Nat.not_lt_zero _),s3,s4⟩
 case round=>
  clear aE oD;obtain⟨k,f,hk,rfl,hX,hR,hS,hA,hb,hz⟩:=hrel;have HX:=zB hX;have eA:=zB hR;have HS:=zB hS;have HA:=zB hA;clear hX hR hS hA;obtain⟨⟨x0,x1⟩,⟨x2,x3⟩,⟨x4,x5⟩,⟨x6,x7⟩,⟨x8,x9⟩,⟨mA,nA⟩⟩:=HX.out;by_cases mE:k<W.pn+W.sn
  ·have jE:(k:Int)<(W.pn+W.sn:Int):=(by omega);by_cases cE:k<W.pn
   ·have mD:(k:Int)<(W.pn:Int):=(by omega);obtain⟨b,off,vd,rfl,kB⟩:=(Hp.out.zOw.zOp hb).cells cE;have q3:=kB.c3;have q5:=kB.c5;have q6:=kB.c6;have Hm:=zB (show(zc W k).zO0=(W.zOw k).zO0/\(zc W k).rs=(W.zOw k).rs/\(zc W k).rb=(W.zOw k).rb from by rw[qZ cE];exact⟨rfl,rfl,rfl⟩);clear kB;have dA:=zC wr (.cells #[.int .i64 0,.int .i64 0] 99);have nC:=zB (HX.out.zOp dA);have lC:=zB (zk.zOt wr (.int .i64 0) (.int .i64 0) 99);have fD:=zB (eA.out.zOp dA);have r3:=(dA.cell (zD q3)).trans q3;have r5:=(dA.cell (zD q5)).trans q5;have r6:=(dA.cell (zD q6)).trans q6;have jD:=zA hb dA;have pD:(wr.alloc (.cells #[.int .i64 0,.int .i64 0] 99)).heap.size=wr.heap.size+1:=World.size_alloc _ _;have lD:b<wr.heap.size:=zD q3;have eC:w.heap.size≠wr.heap.size:=(by omega);have fC:b≠wr.heap.size:=(by omega);obtain⟨⟨y0,y1⟩,⟨y2,y3⟩,⟨y4,y5⟩,⟨y6,y7⟩,⟨y8,y9⟩,⟨rD,sD⟩⟩:=nC.out;obtain⟨⟨p0,p1⟩,⟨p2,p3⟩⟩:=lC.out;generalize bD:(W.zOw k).zO0=x at *;generalize aB:(W.zOw k).rs=rs at *;generalize sA:(W.zOw k).rb=rb at *;have iD:=zB (And.intro bD (And.intro aB sA));clear bD aB sA;have jB:=zC wr (.cells #[.int .i64 rs,.int .i64 rb] 99);have cB:=zB (HX.out.zOp jB);have pB:=zB (zk.zOt wr (.int .i64 rs) (.int .i64 rb) 99);have mB:=zB (eA.out.zOp jB);have gB:=zA hb jB;obtain⟨⟨z0,z1⟩,⟨z2,z3⟩,⟨z4,z5⟩,⟨z6,z7⟩,⟨z8,z9⟩,⟨tD,vD⟩⟩:=cB.out;go_wp2_with fail;clear x0 x1 x2 x3 x4 x5 x6 x7 x8 x9 mA nA y0 y1 y2 y3 y4 y5 y6 y7 y8 y9 rD sD z0 z1 z2 z3 z4 z5 z6 z7 z8 z9 tD vD p0 p1 p2 p3 r3 r5 r6 q3 q5 q6 nC lC fD jD dA pD eC fC lD jB;have cD:w.heap.size+2<=(wr.alloc (.cells #[.int .i64 rs,.int .i64 rb] 99)).heap.size:=(by rw[World.size_alloc];omega);generalize wr.alloc (.cells #[.int .i64 rs,.int .i64 rb] 99)=W3 at cB pB mB gB cD ⊢;refine(yS _ v1 _ _ lo hi W x W3 (Hp.out.zOp gB)).mono ?_;rintro e w1 ⟨s,bb,t,rfl,hF,iA⟩;have hq:=zEq HP.out hF;have rC:=zB (show qQ W.zOv s bb by rw[hq.1,hq.2.1];exact HT.out.old x);have bC:=zB (show qQ W.zOv rs rb by have:=HT.out.tree k (by unfold qf;omega);rw[Hm.out.2.1,Hm.out.2.2]at this;exact this);have HE:=zB (show zY W.zOv rs rb=yf W (zc W k)/\zY W.zOv s bb=zCR W (zc W k)by unfold yf zCR;rw[Hm.out.1,Hm.out.2.1,Hm.out.2.2,hq.1,hq.2.1];exact⟨rfl,rfl⟩);have gA:=zC w1 (.cells #[.int .i64 s,.int .i64 bb] 99);have dB:=zB ((cB.out.zOp iA).zOp gA);have rB:=zB ((pB.out.zOp iA).zOp gA);have nB:=zB ((mB.out.zOp iA).zOp gA);have tB:=zB (zk.zOt w1 (.int .i64 s) (.int .i64 bb) 99);have iB:=zA (zA gB iA) gA;have gC:w.heap.size+2<=(w1.alloc (.cells #[.int .i64 s,.int .i64 bb] 99)).heap.size:=(by have h1:=iA.size;have h2:=gA.size;omega);clear hq hF iA gA cB pB mB gB cD iD Hm;obtain⟨⟨x0,x1⟩,⟨x2,x3⟩,⟨x4,x5⟩,⟨x6,x7⟩,⟨x8,x9⟩,⟨mA,nA⟩⟩:=dB.out;obtain⟨⟨p0,p1⟩,⟨p2,p3⟩⟩:=tB.out;clear x4 x5 x6 x7 x8 x9 mA nA x1 x3 p1 p3;go_wp2_with fail;clear x0 x2 p0 p2;generalize w1.alloc (.cells #[.int .i64 s,.int .i64 bb] 99)=w4 at dB rB nB tB iB gC ⊢;refine(q8 _ v1 lo hi W.zOv s bb w4 (Hp.out.zOv.zOp iB) HT.out.right rC.out).mono ?_;rintro e w5 ⟨vo,rfl,vA,jA⟩;have sB:=zB (dB.out.zOp jA);have mC:=zB (rB.out.zOp jA);have jC:=zB (nB.out.zOp jA);have fA:=zB (vA.mono gC);have cC:=zA iB jA;have dD:w.heap.size+2<=w5.heap.size:=(by have h1:=jA.size;omega);clear vA jA dB rB nB tB iB gC rC;obtain⟨⟨x0,x1⟩,⟨x2,x3⟩,⟨x4,x5⟩,⟨x6,x7⟩,⟨x8,x9⟩,⟨mA,nA⟩⟩:=sB.out;obtain⟨⟨p0,p1⟩,⟨p2,p3⟩⟩:=mC.out;clear x4 x5 x6 x7 x8 x9 mA nA x1 x3 p1 p3;go_wp2_with fail;clear x0 x2 p0 p2;refine(q8 _ v1 lo hi W.zOv rs rb w5 (Hp.out.zOv.zOp cC) HT.out.right bC.out).mono ?_;rintro e w6 ⟨vn,rfl,tA,kA⟩;have oC:=zB (sB.out.zOp kA);have kC:=zB (jC.out.zOp kA);have pA:=zB (fA.out.zOp kA);have bA:=zB (tA.mono dD);have tC:=zA cC kA;have eD:w.heap.size+2<=w6.heap.size:=(by have h1:=kA.size;omega);have gD:=zB (fun j (hj:j<(zY W.zOv rs rb).length)=>zHH HT.out.right bC.out hj);have gE:=qs W.zOv rs rb;have iE:=qs W.zOv s bb;clear tA kA sB mC jC fA cC dD bC;obtain⟨an,cn,rfl,eE⟩:=zX bA.out;generalize zY W.zOv rs rb=now at *;generalize zY W.zOv s bb=old at *;go_wp2
    go_loopw [11] (fun i lA=>∃j:Nat,∃f,j<=now.length/\i = .int .i64 j/\qH lA (w.heap.size+2) vo old/\qH lA (w.heap.size+2) (.slice an now.length cn) now/\za lA w.heap.size (.slice a0 W.zOv.n c0) v1 (.int .i64 W.time) (.int .i64 W.next) (.slice a' W.sn c') (.slice (some ⟨b,off,none⟩) W.pn c)/\yP lA (w.heap.size+1) W.zOv.n f/\zBO W k now old j f/\zB7 W k now old j/\Below w.heap.size w lA/\w.heap.size+2<=lA.heap.size) (fun i _=>now.length - (intOf i).toNat)
    case atStart=>exact⟨0,f,Nat.zero_le _,rfl,pA.out,bA.out,oC.out,kC.out,zHC HS.out _ _,fun q hq=>absurd hq (Nat.not_lt_zero _),tC,eD⟩
    case round=>
     clear oC kC pA bA tC eD HS HX eA hb hz;obtain⟨j,f,hj,rfl,vA,tA,hX,hR,hS,sC,hb,hz⟩:=hrel;have fA:=zB vA;have aC:=zB tA;have HX:=zB hX;have eA:=zB hR;have HS:=zB hS;have lB:=zB sC;clear vA tA hX hR hS sC;by_cases dC:j<now.length
     ·have kD:(j:Int)<(now.length:Int):=(by omega);obtain⟨b2,iC,rfl,q0,q1⟩:=(aC.out.atW (by omega)).cellsD dC;obtain⟨sl,vC,nD⟩:=gD.out j dC;have kE:(sl:Int)<(W.zOv.n:Int):=(by omega);have fB:=zB vC;clear vC;go_wp2_with fail;refine(zCv _ old.length 0 _ (zg old) (zj old) (zg now j) (zj now j) _ (fA.out.atW (by omega))).mono ?_;rintro e w7 ⟨⟨t7,rfl,aD⟩,aA⟩;have eB:=zB (aD.trans zCx);have z0:=(aA.cell (p:=⟨b2,iC+j*2,none⟩) (zD q0)).trans q0;have rA:=zB (fA.out.zOp aA);have oA:=zB (aC.out.zOp aA);have pC:=zB (HX.out.zOp aA);have oB:=zB (eA.out.zOp aA);have cA:=zA hb aA;have bB:w.heap.size+2<=w7.heap.size:=(by have h1:=aA.size;omega);clear aD aA q0 q1 fA aC HX eA hb hz;cases t7
      ·have Hn:=zB (show(zg now j,zj now j)∉old from fun h=>absurd (eB.out.2 h) (by simp));clear eB;rw[fB.out]at z0;obtain⟨y0,y1⟩:=oB.out sl nD;cases hfs:f sl
       ·have vB:=zB hfs;rw[hfs]at y0;clear hfs;go_wp2;go_roundw
        case rel=>exact⟨j+1,_,by omega,by go_num,rA.out.put (by omega) _,oA.out.put (by omega) _,pC.out.zOr (zE.put _ (w.heap.size+1) sl _) (by omega),oB.out.put true,zH9 HS.out fB.out Hn.out,zJb lB.out HS.out fB.out vB.out,cA.setCell (show w.heap.size<=w.heap.size+1 by omega) _,by rw[World.size_setCell];exact bB⟩
        case measure=>simp[intOf];omega
       ·have vB:=zB hfs;rw[hfs]at y0;clear hfs;go_wp2;go_ret;exact⟨zK.no (zHD HT.out (by unfold qf;omega) HE.out.1 HE.out.2 HS.out dC fB.out Hn.out vB.out),cA⟩
      ·have Hn:=zB (eB.out.1 rfl);clear eB;go_wp2;go_roundw
       case rel=>exact⟨j+1,f,by omega,by go_num,rA.out,oA.out,pC.out,oB.out,zIA HS.out Hn.out,zJc lB.out Hn.out,cA,bB⟩
       case measure=>simp[intOf];omega
     ·obtain rfl:j=now.length:=(by omega);go_wp2;go_roundw
      case rel=>exact⟨k+1,f,by omega,by go_num,HX.out,eA.out,zIB HS.out HE.out.1 HE.out.2,zGY HA.out HE.out.1 HE.out.2 lB.out,hb,hz⟩
      case measure=>simp[intOf];omega
   ·have mD:¬(k:Int)<(W.pn:Int):=(by omega);have bE:k - W.pn<W.sn:=(by omega);have lE:(k:Int) - (W.pn:Int)=((k - W.pn:Nat):Int):=(Int.ofNat_sub (by omega)).symm;have fE:((k - W.pn:Nat):Int)<(W.sn:Int):=Int.ofNat_lt.2 bE;obtain⟨b,off,vd,rfl,kB⟩:=(Hp.out.zOy.zOp hb).cells bE;have q3:=kB.c2;have q5:=kB.c3;have q6:=kB.c4;have Hm:=zB (show(zc W k).zO0=(W.zOy (k - W.pn)).zO0/\(zc W k).rs=(W.zOy (k - W.pn)).rs/\(zc W k).rb=(W.zOy (k - W.pn)).rb from by have e:=yk W (k - W.pn);rw[show W.pn+(k - W.pn)=k by omega]at e;rw[e];exact⟨rfl,rfl,rfl⟩);clear kB;have dA:=zC wr (.cells #[.int .i64 0,.int .i64 0] 99);have nC:=zB (HX.out.zOp dA);have lC:=zB (zk.zOt wr (.int .i64 0) (.int .i64 0) 99);have fD:=zB (eA.out.zOp dA);have r3:=(dA.cell (zD q3)).trans q3;have r5:=(dA.cell (zD q5)).trans q5;have r6:=(dA.cell (zD q6)).trans q6;have jD:=zA hb dA;have pD:(wr.alloc (.cells #[.int .i64 0,.int .i64 0] 99)).heap.size=wr.heap.size+1:=World.size_alloc _ _;have lD:b<wr.heap.size:=zD q3;have eC:w.heap.size≠wr.heap.size:=(by omega);have fC:b≠wr.heap.size:=(by omega);obtain⟨⟨y0,y1⟩,⟨y2,y3⟩,⟨y4,y5⟩,⟨y6,y7⟩,⟨y8,y9⟩,⟨rD,sD⟩⟩:=nC.out;obtain⟨⟨p0,p1⟩,⟨p2,p3⟩⟩:=lC.out;generalize bD:(W.zOy (k - W.pn)).zO0=x at *;generalize aB:(W.zOy (k - W.pn)).rs=rs at *;generalize sA:(W.zOy (k - W.pn)).rb=rb at *;have iD:=zB (And.intro bD (And.intro aB sA));clear bD aB sA;have jB:=zC wr (.cells #[.int .i64 rs,.int .i64 rb] 99);have cB:=zB (HX.out.zOp jB);have pB:=zB (zk.zOt wr (.int .i64 rs) (.int .i64 rb) 99);have mB:=zB (eA.out.zOp jB);have gB:=zA hb jB;obtain⟨⟨z0,z1⟩,⟨z2,z3⟩,⟨z4,z5⟩,⟨z6,z7⟩,⟨z8,z9⟩,⟨tD,vD⟩⟩:=cB.out;go_wp2_with fail;clear x0 x1 x2 x3 x4 x5 x6 x7 x8 x9 mA nA y0 y1 y2 y3 y4 y5 y6 y7 y8 y9 rD sD z0 z1 z2 z3 z4 z5 z6 z7 z8 z9 tD vD p0 p1 p2 p3 r3 r5 r6 q3 q5 q6 nC lC fD jD dA pD eC fC lD jB;have cD:w.heap.size+2<=(wr.alloc (.cells #[.int .i64 rs,.int .i64 rb] 99)).heap.size:=(by rw[World.size_alloc];omega);generalize wr.alloc (.cells #[.int .i64 rs,.int .i64 rb] 99)=W3 at cB pB mB gB cD ⊢;refine(yS _ v1 _ _ lo hi W x W3 (Hp.out.zOp gB)).mono ?_;rintro e w1 ⟨s,bb,t,rfl,hF,iA⟩;have hq:=zEq HP.out hF;have rC:=zB (show qQ W.zOv s bb by rw[hq.1,hq.2.1];exact HT.out.old x);have bC:=zB (show qQ W.zOv rs rb by have:=HT.out.tree k (by unfold qf;omega);rw[Hm.out.2.1,Hm.out.2.2]at this;exact this);have HE:=zB (show zY W.zOv rs rb=yf W (zc W k)/\zY W.zOv s bb=zCR W (zc W k)by unfold yf zCR;rw[Hm.out.1,Hm.out.2.1,Hm.out.2.2,hq.1,hq.2.1];exact⟨rfl,rfl⟩);have gA:=zC w1 (.cells #[.int .i64 s,.int .i64 bb] 99);have dB:=zB ((cB.out.zOp iA).zOp gA);have rB:=zB ((pB.out.zOp iA).zOp gA);have nB:=zB ((mB.out.zOp iA).zOp gA);have tB:=zB (zk.zOt w1 (.int .i64 s) (.int .i64 bb) 99);have iB:=zA (zA gB iA) gA;have gC:w.heap.size+2<=(w1.alloc (.cells #[.int .i64 s,.int .i64 bb] 99)).heap.size:=(by have h1:=iA.size;have h2:=gA.size;omega);clear hq hF iA gA cB pB mB gB cD iD Hm;obtain⟨⟨x0,x1⟩,⟨x2,x3⟩,⟨x4,x5⟩,⟨x6,x7⟩,⟨x8,x9⟩,⟨mA,nA⟩⟩:=dB.out;obtain⟨⟨p0,p1⟩,⟨p2,p3⟩⟩:=tB.out;clear x4 x5 x6 x7 x8 x9 mA nA x1 x3 p1 p3;go_wp2_with fail;clear x0 x2 p0 p2;generalize w1.alloc (.cells #[.int .i64 s,.int .i64 bb] 99)=w4 at dB rB nB tB iB gC ⊢;refine(q8 _ v1 lo hi W.zOv s bb w4 (Hp.out.zOv.zOp iB) HT.out.right rC.out).mono ?_;rintro e w5 ⟨vo,rfl,vA,jA⟩;have sB:=zB (dB.out.zOp jA);have mC:=zB (rB.out.zOp jA);have jC:=zB (nB.out.zOp jA);have fA:=zB (vA.mono gC);have cC:=zA iB jA;have dD:w.heap.size+2<=w5.heap.size:=(by have h1:=jA.size;omega);clear vA jA dB rB nB tB iB gC rC;obtain⟨⟨x0,x1⟩,⟨x2,x3⟩,⟨x4,x5⟩,⟨x6,x7⟩,⟨x8,x9⟩,⟨mA,nA⟩⟩:=sB.out;obtain⟨⟨p0,p1⟩,⟨p2,p3⟩⟩:=mC.out;clear x4 x5 x6 x7 x8 x9 mA nA x1 x3 p1 p3;go_wp2_with fail;clear x0 x2 p0 p2;refine(q8 _ v1 lo hi W.zOv rs rb w5 (Hp.out.zOv.zOp cC) HT.out.right bC.out).mono ?_;rintro e w6 ⟨vn,rfl,tA,kA⟩;have oC:=zB (sB.out.zOp kA);have kC:=zB (jC.out.zOp kA);have pA:=zB (fA.out.zOp kA);have bA:=zB (tA.mono dD);have tC:=zA cC kA;have eD:w.heap.size+2<=w6.heap.size:=(by have h1:=kA.size;omega);have gD:=zB (fun j (hj:j<(zY W.zOv rs rb).length)=>zHH HT.out.right bC.out hj);have gE:=qs W.zOv rs rb;have iE:=qs W.zOv s bb;clear tA kA sB mC jC fA cC dD bC;obtain⟨an,cn,rfl,eE⟩:=zX bA.out;generalize zY W.zOv rs rb=now at *;generalize zY W.zOv s bb=old at *;go_wp2
    go_loopw [11] (fun i lA=>∃j:Nat,∃f,j<=now.length/\i = .int .i64 j/\qH lA (w.heap.size+2) vo old/\qH lA (w.heap.size+2) (.slice an now.length cn) now/\za lA w.heap.size (.slice a0 W.zOv.n c0) v1 (.int .i64 W.time) (.int .i64 W.next) (.slice (some ⟨b,off,none⟩) W.sn c') (.slice a W.pn c)/\yP lA (w.heap.size+1) W.zOv.n f/\zBO W k now old j f/\zB7 W k now old j/\Below w.heap.size w lA/\w.heap.size+2<=lA.heap.size) (fun i _=>now.length - (intOf i).toNat)
    case atStart=>exact⟨0,f,Nat.zero_le _,rfl,pA.out,bA.out,oC.out,kC.out,zHC HS.out _ _,fun q hq=>absurd hq (Nat.not_lt_zero _),tC,eD⟩
    case round=>
     clear oC kC pA bA tC eD HS HX eA hb hz;obtain⟨j,f,hj,rfl,vA,tA,hX,hR,hS,sC,hb,hz⟩:=hrel;have fA:=zB vA;have aC:=zB tA;have HX:=zB hX;have eA:=zB hR;have HS:=zB hS;have lB:=zB sC;clear vA tA hX hR hS sC;by_cases dC:j<now.length
     ·have kD:(j:Int)<(now.length:Int):=(by omega);obtain⟨b2,iC,rfl,q0,q1⟩:=(aC.out.atW (by omega)).cellsD dC;obtain⟨sl,vC,nD⟩:=gD.out j dC;have kE:(sl:Int)<(W.zOv.n:Int):=(by omega);have fB:=zB vC;clear vC;go_wp2_with fail;refine(zCv _ old.length 0 _ (zg old) (zj old) (zg now j) (zj now j) _ (fA.out.atW (by omega))).mono ?_;rintro e w7 ⟨⟨t7,rfl,aD⟩,aA⟩;have eB:=zB (aD.trans zCx);have z0:=(aA.cell (p:=⟨b2,iC+j*2,none⟩) (zD q0)).trans q0;have rA:=zB (fA.out.zOp aA);have oA:=zB (aC.out.zOp aA);have pC:=zB (HX.out.zOp aA);have oB:=zB (eA.out.zOp aA);have cA:=zA hb aA;have bB:w.heap.size+2<=w7.heap.size:=(by have h1:=aA.size;omega);clear aD aA q0 q1 fA aC HX eA hb hz;cases t7
      ·have Hn:=zB (show(zg now j,zj now j)∉old from fun h=>absurd (eB.out.2 h) (by simp));clear eB;rw[fB.out]at z0;obtain⟨y0,y1⟩:=oB.out sl nD;cases hfs:f sl
       ·have vB:=zB hfs;rw[hfs]at y0;clear hfs;go_wp2;go_roundw
        case rel=>exact⟨j+1,_,by omega,by go_num,rA.out.put (by omega) _,oA.out.put (by omega) _,pC.out.zOr (zE.put _ (w.heap.size+1) sl _) (by omega),oB.out.put true,zH9 HS.out fB.out Hn.out,zJb lB.out HS.out fB.out vB.out,cA.setCell (show w.heap.size<=w.heap.size+1 by omega) _,by rw[World.size_setCell];exact bB⟩
        case measure=>simp[intOf];omega
       ·have vB:=zB hfs;rw[hfs]at y0;clear hfs;go_wp2;go_ret;exact⟨zK.no (zHD HT.out (by unfold qf;omega) HE.out.1 HE.out.2 HS.out dC fB.out Hn.out vB.out),cA⟩
      ·have Hn:=zB (eB.out.1 rfl);clear eB;go_wp2;go_roundw
       case rel=>exact⟨j+1,f,by omega,by go_num,rA.out,oA.out,pC.out,oB.out,zIA HS.out Hn.out,zJc lB.out Hn.out,cA,bB⟩
       case measure=>simp[intOf];omega
     ·obtain rfl:j=now.length:=(by omega);go_wp2;go_roundw
      case rel=>exact⟨k+1,f,by omega,by go_num,HX.out,eA.out,zIB HS.out HE.out.1 HE.out.2,zGY HA.out HE.out.1 HE.out.2 lB.out,hb,hz⟩
      case measure=>simp[intOf];omega
  ·obtain rfl:k=W.pn+W.sn:=(by omega);go_wp2;go_ret;exact⟨zK.yes HA.out,hb⟩
open Classical in
noncomputable def zAM(W:zH)(name:ByteArray):Nat->Nat
 | 0=>0
 | k+1=>zAM W name k+(if (W.zOw k).set=name then 1 else 0)
theorem zE4{W:zH}{name:ByteArray}{k:Nat}(h:(W.zOw k).set=name):zAM W name (k+1)=zAM W name k+1:=by simp[zAM,h]
theorem zIq{W:zH}{name:ByteArray}{k:Nat}(h:¬(W.zOw k).set=name):zAM W name (k+1)=zAM W name k:=by simp[zAM,h]
theorem zK3(W:zH)(name:ByteArray):∀k,zAM W name k<=k
 | 0=>Nat.le_refl _
 | k+1=>by
  have:=zK3 W name k;by_cases h:(W.zOw k).set=name
  ·rw[zE4 h];omega
  ·rw[zIq h];omega
inductive Steps (W:zH) (name:ByteArray) (start:Int):Nat->Int->Prop
 | zero:Steps W name start 0 start
 | next {n:Nat} {x:Int} {k:Nat}:Steps W name start n x->qo W x k->(W.zOw k).set=name->Steps W name start (n+1) (W.zOw k).zO0
def zFl(W:zH)(name:ByteArray)(x:Int):Prop:=∃k,qo W x k/\(W.zOw k).set=name
def zCB(W:zH)(name:ByteArray)(start origin:Int):Prop:=∃n e,Steps W name start n e/\¬zFl W name e/\n=zAM W name W.pn/\e=origin
theorem Steps.det{W:zH}{name:ByteArray}{start:Int}:∀{n:Nat} {x y:Int},Steps W name start n x->Steps W name start n y->x=y
 | 0,_,_,.zero,.zero=>rfl
 | n+1,_,_,.next h hk _,.next h' hk' _=>by
  have e:=Steps.det h h';subst e;rw[qo.uniq hk hk']
theorem Steps.less{W:zH}{name:ByteArray}{start:Int}:∀{n m:Nat} {x:Int},Steps W name start m x->n<m->∃y,Steps W name start n y/\zFl W name y
 | n,0,_,_,h=>absurd h (Nat.not_lt_zero _)
 | n,m+1,_,.next (x:=x) h hk hs,hl=>by
  by_cases e:n=m
  ·subst e;exact⟨x,h,_,hk,hs⟩
  ·exact Steps.less h (by omega)
theorem Steps.end{W:zH}{name:ByteArray}{start:Int}{n m:Nat}{x y:Int}(h:Steps W name start n x)(hx:¬zFl W name x)(h':Steps W name start m y)(hy:¬zFl W name y):n=m/\x=y:=by
 have e:n=m:=by
  rcases Nat.lt_trichotomy n m with hl | hl | hl
  ·obtain⟨z,hz,ho⟩:=h'.less hl;rw[h.det hz]at hx;exact absurd ho hx
  ·exact hl
  ·obtain⟨z,hz,ho⟩:=h.less hl;rw[h'.det hz]at hy;exact absurd ho hy
 subst e;exact⟨rfl,h.det h'⟩
theorem zCw{W:zH}{name:ByteArray}{start origin:Int}{n:Nat}{x:Int}(h:Steps W name start n x)(hx:¬zFl W name x):zCB W name start origin↔n=zAM W name W.pn/\x=origin:=by
 constructor
 ·rintro⟨m,y,hs,hy,h1,h2⟩;obtain⟨rfl,rfl⟩:=h.end hx hs hy;exact⟨h1,h2⟩
 ·rintro⟨h1,h2⟩;exact⟨n,x,h,hx,h1,h2⟩
theorem zDZ{W:zH}{x r:Int}{k:Nat}(hk:qo W x k)(h:zEl W.pn (fun k=>(W.zOw k).id=x) r):r=(k:Int):=by
 rcases h with⟨j,hj,e,hm,rfl⟩ | ⟨hn,_⟩
 ·rw[qo.uniq hk ⟨hj,e,hm⟩]
 ·exact absurd hk.2.1 (hn k hk.1)
theorem qL.no{W:zH}{x:Int}(h:qL W x):∃k,qo W x k:=zIE (Nat.le_refl _) h
structure zCh (W:zH):Prop where
 ids:∀k,k<W.pn->1<=(W.zOw k).id/\(W.zOw k).id<900000
 zO0:∀k,k<W.pn->(W.zOw k).zO0=0\/qL W (W.zOw k).zO0
 less:∀k,k<W.pn->(W.zOw k).zO0<(W.zOw k).id
 zOy:∀k,k<W.sn->(W.zOy k).zO0=0\/qL W (W.zOy k).zO0
 zO3:∀k,k<W.sn->(W.zOy k).name.toList.isEmpty=false
theorem zCh.pos{W:zH}(h:zCh W):zCA W:=fun k hk=>(h.ids k hk).1
theorem qL.range{W:zH}(h:zCh W){x:Int}(hx:qL W x):1<=x/\x<900000:=by
 obtain⟨k,hk,rfl⟩:=hx;exact h.ids k hk
theorem zCo{s:ByteArray}(h:qV s):s.toList.isEmpty=false:=by
 have:=h.1;rw[Go.ByteArray.toList_eq];cases s with
 | mk d=>
  cases hd:d.toList with
  | nil=>
   have h0:d.size=0:=(by rw[<-Array.length_toList,hd];rfl);have h1:1<=d.size:=this;omega
  | cons a l=>simp
theorem zAi.prevOk{W:zH}(h:zAi W):zCh W where
 ids:=fun k hk=>⟨(h.2.2.2.2.2 k hk).1.1,by have:=(h.2.2.2.2.2 k hk).1.2.1;have:=h.2.1.2;omega⟩
 zO0:=fun k hk=>by
  by_cases e:(W.zOw k).zO0=0
  ·exact Or.inl e
  ·exact Or.inr ((h.2.2.2.2.2 k hk).2.1.2 e).2
 less:=fun k hk=>by
  by_cases e:(W.zOw k).zO0=0
  ·have:=(h.2.2.2.2.2 k hk).1.1;omega
  ·exact((h.2.2.2.2.2 k hk).2.1.2 e).1
 zOy:=fun k hk=>by
  by_cases e:(W.zOy k).zO0=0
  ·exact Or.inl e
  ·exact Or.inr ((h.2.2.2.2.1 k hk).2.2.1 e)
 zO3:=fun k hk=>zCo (h.2.2.2.2.1 k hk).1
structure zES (W:zH) (name:ByteArray) (start:Int) (n:Nat) (x:Int):Prop where
 steps:Steps W name start n x
 there:x=0\/qL W x
 least:0<=x
 sum:(n:Int)+x<=900000
theorem zES.start{W:zH}(h:zCh W)(name:ByteArray){x:Int}(hx:x=0\/qL W x):zES W name x 0 x where
 steps:=.zero
 there:=hx
 least:=by rcases hx with rfl | hx;exact Int.le_refl _;have:=hx.range h;omega
 sum:=by rcases hx with rfl | hx;decide;have:=hx.range h;omega
theorem zES.next{W:zH}(h:zCh W){name:ByteArray}{start:Int}{n:Nat}{x:Int}(hw:zES W name start n x){k:Nat}(hk:qo W x k)(hs:(W.zOw k).set=name):zES W name start (n+1) (W.zOw k).zO0 where
 steps:=hw.steps.next hk hs
 there:=h.zO0 k hk.1
 least:=by rcases h.zO0 k hk.1 with e | e;omega;have:=e.range h;omega
 sum:=by have h1:=h.less k hk.1;have h2:=hw.sum;have h3:=hk.2.1;omega
theorem zIl{W:zH}(h:zCh W)(name:ByteArray):¬zFl W name 0:=fun ⟨k,hk,_⟩=>by
 have:=(h.ids k hk.1).1;have:=hk.2.1;omega
theorem zKS{W:zH}{name:ByteArray}{x:Int}{k:Nat}(hk:qo W x k)(hs:¬(W.zOw k).set=name):¬zFl W name x:=fun ⟨j,hj,e⟩=>hs (by rw[qo.uniq hk hj];exact e)
end Go.Proofs.YtgabgheflgjgiaaGreatDoor
