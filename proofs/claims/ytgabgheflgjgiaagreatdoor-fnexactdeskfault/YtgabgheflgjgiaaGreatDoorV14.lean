/- A part of the proof. -/
import Derived.Test.YtgabgheflgjgiaaGreatDoorV13
set_option linter.unusedVariables false
set_option maxRecDepth 20000
set_option maxHeartbeats 4000000
namespace Go.Proofs.YtgabgheflgjgiaaGreatDoor
open Go.RowKit Go.Maps
theorem zIO(v0 v1 v2 v3:Value)(lo hi:Nat)(W:zH)(w:World)(h:zr w lo hi v0 v1 v2 v3 W)(hT:zAy W)(hP:zB8 W)(hs:W.sn<=8)(hp:W.pn<=20) :
  Calls Tryz.prog 107 #[qT v0 v1 v2 v3 W] w fun e w'=>zK (zE9 W) e/\Below w.heap.size w w':=by
 have Hp:=zB h;have HT:=zB hT;have HP:=zB hP;obtain⟨m1,a,c,rfl,mc,-⟩:=id h.zOb;obtain⟨m2,a',c',rfl,fE,-⟩:=id h.zOd;obtain⟨m0,a0,c0,rfl,gE,-⟩:=id h.zOa.1;unfold maxLen at m0 m1 m2;have eE:W.zOa.n<=200:=hT.right.1;clear h hT hP;have dE:=zDl W.zOa.n (by omega);have ha:=zC w (.cells #[.slice a0 W.zOa.n c0,v1,.int .i64 W.time,.int .i64 W.next,.slice a' W.sn c',.slice a W.pn c] 40);have hz1:(w.alloc (.cells #[.slice a0 W.zOa.n c0,v1,.int .i64 W.time,.int .i64 W.next,.slice a' W.sn c',.slice a W.pn c] 40)).heap.size=w.heap.size+1:=World.size_alloc _ _;have rD:∀W1:World,W1=w.alloc (.cells #[.slice a0 W.zOa.n c0,v1,.int .i64 W.time,.int .i64 W.next,.slice a' W.sn c',.slice a W.pn c] 40)->za (W1.alloc (.cells (madeCells #[.bool false] W.zOa.n) 4)) w.heap.size (.slice a0 W.zOa.n c0) v1 (.int .i64 W.time) (.int .i64 W.next) (.slice a' W.sn c') (.slice a W.pn c)/\yP (W1.alloc (.cells (madeCells #[.bool false] W.zOa.n) 4)) (w.heap.size+1) W.zOa.n (fun _=>false)/\Below w.heap.size w (W1.alloc (.cells (madeCells #[.bool false] W.zOa.n) 4))/\w.heap.size+2<=(W1.alloc (.cells (madeCells #[.bool false] W.zOa.n) 4)).heap.size:=by
  rintro W1 rfl;have hB:=za.zOY w (.slice a0 W.zOa.n c0) v1 (.int .i64 W.time) (.int .i64 W.next) (.slice a' W.sn c') (.slice a W.pn c) 40;have hR:=yP.zOY (w.alloc (.cells #[.slice a0 W.zOa.n c0,v1,.int .i64 W.time,.int .i64 W.next,.slice a' W.sn c',.slice a W.pn c] 40)) W.zOa.n 4;rw[hz1]at hR;generalize w.alloc (.cells #[.slice a0 W.zOa.n c0,v1,.int .i64 W.time,.int .i64 W.next,.slice a' W.sn c',.slice a W.pn c] 40)=W1 at *;have b2:=zC W1 (.cells (madeCells #[.bool false] W.zOa.n) 4);exact⟨hB.zOU b2,hR,zA ha b2,by rw[World.size_alloc,hz1];omega⟩
 have nD:=zB (rD _ rfl);clear rD;go_enter Tryz.func107,Tryz.ntmps107;obtain⟨⟨x0,x1⟩,⟨x2,x3⟩,⟨x4,x5⟩,⟨x6,x7⟩,⟨x8,x9⟩,⟨mA,nA⟩⟩:=za.zOY w (.slice a0 W.zOa.n c0) v1 (.int .i64 W.time) (.int .i64 W.next) (.slice a' W.sn c') (.slice a W.pn c) 40;go_wp2;clear x0 x1 x2 x3 x4 x5 x6 x7 x8 x9 mA nA ha
 go_loopw [4] (fun i wr=>∃k:Nat,∃f,k<=W.pn+W.sn/\i = .int .i64 k/\za wr w.heap.size (.slice a0 W.zOa.n c0) v1 (.int .i64 W.time) (.int .i64 W.next) (.slice a' W.sn c') (.slice a W.pn c)/\yP wr (w.heap.size+1) W.zOa.n f/\zBN W k [] [] 0 f/\zIB W k/\Below w.heap.size w wr/\w.heap.size+2<=wr.heap.size) (fun i _=>W.pn+W.sn - (intOf i).toNat)
 case atStart=>
  obtain⟨s1,s2,s3,s4⟩:=nD.out;exact⟨0,fun _=>false,Nat.zero_le _,rfl,s1,s2,fun s=>⟨fun h=>absurd h (by simp),fun h=>by rcases h with⟨i,hi,_⟩ | ⟨q,hq,_⟩<;>omega⟩,fun i hi=>absurd hi (Nat.not_lt_zero _),s3,s4⟩
 case round=>
  clear nD hz1;obtain⟨k,f,hk,rfl,hX,hR,hS,hA,hb,hz⟩:=hrel;have HX:=zB hX;have eA:=zB hR;have HS:=zB hS;have HA:=zB hA;clear hX hR hS hA;obtain⟨⟨x0,x1⟩,⟨x2,x3⟩,⟨x4,x5⟩,⟨x6,x7⟩,⟨x8,x9⟩,⟨mA,nA⟩⟩:=HX.out;by_cases hlt:k<W.pn+W.sn
  ·have bE:(k:Int)<(W.pn+W.sn:Int):=(by omega);by_cases pD:k<W.pn
   ·have iD:(k:Int)<(W.pn:Int):=(by omega);obtain⟨b,off,vd,rfl,kB⟩:=(Hp.out.zOb.zOU hb).cells pD;have q3:=kB.c3;have q5:=kB.c5;have q6:=kB.c6;have Hm:=zB (show(zc W k).zOg=(W.zOb k).zOg/\(zc W k).rs=(W.zOb k).rs/\(zc W k).rb=(W.zOb k).rb from by rw[qZ pD];exact⟨rfl,rfl,rfl⟩);clear kB;have dA:=zC wr (.cells #[.int .i64 0,.int .i64 0] 99);have mC:=zB (HX.out.zOU dA);have kC:=zB (zk.zOY wr (.int .i64 0) (.int .i64 0) 99);have bD:=zB (eA.out.zOU dA);have r3:=(dA.cell (zD q3)).trans q3;have r5:=(dA.cell (zD q5)).trans q5;have r6:=(dA.cell (zD q6)).trans q6;have eD:=zA hb dA;have hz2:(wr.alloc (.cells #[.int .i64 0,.int .i64 0] 99)).heap.size=wr.heap.size+1:=World.size_alloc _ _;have gD:b<wr.heap.size:=zD q3;have eC:w.heap.size≠wr.heap.size:=(by omega);have fC:b≠wr.heap.size:=(by omega);obtain⟨⟨y0,y1⟩,⟨y2,y3⟩,⟨y4,y5⟩,⟨y6,y7⟩,⟨y8,y9⟩,⟨jD,kD⟩⟩:=mC.out;obtain⟨⟨p0,p1⟩,⟨p2,p3⟩⟩:=kC.out;generalize vC:(W.zOb k).zOg=x at *;generalize aB:(W.zOb k).rs=rs at *;generalize sA:(W.zOb k).rb=rb at *;have dD:=zB (And.intro vC (And.intro aB sA));clear vC aB sA;have jB:=zC wr (.cells #[.int .i64 rs,.int .i64 rb] 99);have cB:=zB (HX.out.zOU jB);have pB:=zB (zk.zOY wr (.int .i64 rs) (.int .i64 rb) 99);have mB:=zB (eA.out.zOU jB);have gB:=zA hb jB;obtain⟨⟨z0,z1⟩,⟨z2,z3⟩,⟨z4,z5⟩,⟨z6,z7⟩,⟨z8,z9⟩,⟨lD,mD⟩⟩:=cB.out;go_wp2_with fail;clear x0 x1 x2 x3 x4 x5 x6 x7 x8 x9 mA nA y0 y1 y2 y3 y4 y5 y6 y7 y8 y9 jD kD z0 z1 z2 z3 z4 z5 z6 z7 z8 z9 lD mD p0 p1 p2 p3 r3 r5 r6 q3 q5 q6 mC kC bD eD dA hz2 eC fC gD jB;have hz3:w.heap.size+2<=(wr.alloc (.cells #[.int .i64 rs,.int .i64 rb] 99)).heap.size:=(by rw[World.size_alloc];omega);generalize wr.alloc (.cells #[.int .i64 rs,.int .i64 rb] 99)=W3 at cB pB mB gB hz3 ⊢;refine(yS _ v1 _ _ lo hi W x W3 (Hp.out.zOU gB)).mono ?_;rintro e w1 ⟨s,bb,t,rfl,hF,iA⟩;have hq:=zEi HP.out hF;have pC:=zB (show qQ W.zOa s bb by rw[hq.1,hq.2.1];exact HT.out.old x);have bC:=zB (show qQ W.zOa rs rb by have:=HT.out.tree k (by unfold qf;omega);rw[Hm.out.2.1,Hm.out.2.2]at this;exact this);have HE:=zB (show zY W.zOa rs rb=yf W (zc W k)/\zY W.zOa s bb=zCO W (zc W k)by unfold yf zCO;rw[Hm.out.1,Hm.out.2.1,Hm.out.2.2,hq.1,hq.2.1];exact⟨rfl,rfl⟩);have gA:=zC w1 (.cells #[.int .i64 s,.int .i64 bb] 99);have dB:=zB ((cB.out.zOU iA).zOU gA);have rB:=zB ((pB.out.zOU iA).zOU gA);have nB:=zB ((mB.out.zOU iA).zOU gA);have tB:=zB (zk.zOY w1 (.int .i64 s) (.int .i64 bb) 99);have iB:=zA (zA gB iA) gA;have hz5:w.heap.size+2<=(w1.alloc (.cells #[.int .i64 s,.int .i64 bb] 99)).heap.size:=(by have h1:=iA.size;have h2:=gA.size;omega);clear hq hF iA gA cB pB mB gB hz3 dD Hm;obtain⟨⟨x0,x1⟩,⟨x2,x3⟩,⟨x4,x5⟩,⟨x6,x7⟩,⟨x8,x9⟩,⟨mA,nA⟩⟩:=dB.out;obtain⟨⟨p0,p1⟩,⟨p2,p3⟩⟩:=tB.out;clear x4 x5 x6 x7 x8 x9 mA nA x1 x3 p1 p3;go_wp2_with fail;clear x0 x2 p0 p2;generalize w1.alloc (.cells #[.int .i64 s,.int .i64 bb] 99)=w4 at dB rB nB tB iB hz5 ⊢;refine(q8 _ v1 lo hi W.zOa s bb w4 (Hp.out.zOa.zOU iB) HT.out.right pC.out).mono ?_;rintro e w5 ⟨vo,rfl,vA,jA⟩;have sB:=zB (dB.out.zOU jA);have lC:=zB (rB.out.zOU jA);have iC:=zB (nB.out.zOU jA);have fA:=zB (vA.mono hz5);have cC:=zA iB jA;have hz6:w.heap.size+2<=w5.heap.size:=(by have h1:=jA.size;omega);clear vA jA dB rB nB tB iB hz5 pC;obtain⟨⟨x0,x1⟩,⟨x2,x3⟩,⟨x4,x5⟩,⟨x6,x7⟩,⟨x8,x9⟩,⟨mA,nA⟩⟩:=sB.out;obtain⟨⟨p0,p1⟩,⟨p2,p3⟩⟩:=lC.out;clear x4 x5 x6 x7 x8 x9 mA nA x1 x3 p1 p3;go_wp2_with fail;clear x0 x2 p0 p2;refine(q8 _ v1 lo hi W.zOa rs rb w5 (Hp.out.zOa.zOU cC) HT.out.right bC.out).mono ?_;rintro e w6 ⟨vn,rfl,tA,kA⟩;have nC:=zB (sB.out.zOU kA);have jC:=zB (iC.out.zOU kA);have pA:=zB (fA.out.zOU kA);have bA:=zB (tA.mono hz6);have sC:=zA cC kA;have aD:w.heap.size+2<=w6.heap.size:=(by have h1:=kA.size;omega);have cD:=zB (fun j (hj:j<(zY W.zOa rs rb).length)=>zG5 HT.out.right bC.out hj);have vD:=qs W.zOa rs rb;have aE:=qs W.zOa s bb;clear tA kA sB lC iC fA cC hz6 bC;obtain⟨an,cn,rfl,sD⟩:=zX bA.out;generalize zY W.zOa rs rb=now at *;generalize zY W.zOa s bb=old at *;go_wp2
    go_loopw [11] (fun i lA=>∃j:Nat,∃f,j<=now.length/\i = .int .i64 j/\qH lA (w.heap.size+2) vo old/\qH lA (w.heap.size+2) (.slice an now.length cn) now/\za lA w.heap.size (.slice a0 W.zOa.n c0) v1 (.int .i64 W.time) (.int .i64 W.next) (.slice a' W.sn c') (.slice (some ⟨b,off,none⟩) W.pn c)/\yP lA (w.heap.size+1) W.zOa.n f/\zBN W k now old j f/\zB5 W k now old j/\Below w.heap.size w lA/\w.heap.size+2<=lA.heap.size) (fun i _=>now.length - (intOf i).toNat)
    case atStart=>exact⟨0,f,Nat.zero_le _,rfl,pA.out,bA.out,nC.out,jC.out,zG0 HS.out _ _,fun q hq=>absurd hq (Nat.not_lt_zero _),sC,aD⟩
    case round=>
     clear nC jC pA bA sC aD HS HX eA hb hz;obtain⟨j,f,hj,rfl,vA,tA,hX,hR,hS,rC,hb,hz⟩:=hrel;have fA:=zB vA;have aC:=zB tA;have HX:=zB hX;have eA:=zB hR;have HS:=zB hS;have lB:=zB rC;clear vA tA hX hR hS rC;by_cases dC:j<now.length
     ·have fD:(j:Int)<(now.length:Int):=(by omega);obtain⟨b2,gC,rfl,q0,q1⟩:=(aC.out.atW (by omega)).cellsD dC;obtain⟨sl,hs1,hs2⟩:=cD.out j dC;have hs3:(sl:Int)<(W.zOa.n:Int):=(by omega);have fB:=zB hs1;clear hs1;go_wp2_with fail;refine(zCr _ old.length 0 _ (zg old) (zj old) (zg now j) (zj now j) _ (fA.out.atW (by omega))).mono ?_;rintro e w7 ⟨⟨t7,rfl,tC⟩,aA⟩;have eB:=zB (tC.trans zCt);have z0:=(aA.cell (p:=⟨b2,gC+j*2,none⟩) (zD q0)).trans q0;have rA:=zB (fA.out.zOU aA);have oA:=zB (aC.out.zOU aA);have oC:=zB (HX.out.zOU aA);have oB:=zB (eA.out.zOU aA);have cA:=zA hb aA;have bB:w.heap.size+2<=w7.heap.size:=(by have h1:=aA.size;omega);clear tC aA q0 q1 fA aC HX eA hb hz;cases t7
      ·have Hn:=zB (show(zg now j,zj now j)∉old from fun h=>absurd (eB.out.2 h) (by simp));clear eB;rw[fB.out]at z0;obtain⟨y0,y1⟩:=oB.out sl hs2;cases hfs:f sl
       ·have vB:=zB hfs;rw[hfs]at y0;clear hfs;go_wp2;go_roundw
        case rel=>exact⟨j+1,_,by omega,by go_num,rA.out.put (by omega) _,oA.out.put (by omega) _,oC.out.zOW (zE.put _ (w.heap.size+1) sl _) (by omega),oB.out.put true,zHx HS.out fB.out Hn.out,zJO lB.out HS.out fB.out vB.out,cA.setCell (show w.heap.size<=w.heap.size+1 by omega) _,by rw[World.size_setCell];exact bB⟩
        case measure=>simp[intOf];omega
       ·have vB:=zB hfs;rw[hfs]at y0;clear hfs;go_wp2;go_ret;exact⟨zK.no (zG1 HT.out (by unfold qf;omega) HE.out.1 HE.out.2 HS.out dC fB.out Hn.out vB.out),cA⟩
      ·have Hn:=zB (eB.out.1 rfl);clear eB;go_wp2;go_roundw
       case rel=>exact⟨j+1,f,by omega,by go_num,rA.out,oA.out,oC.out,oB.out,zHy HS.out Hn.out,zJP lB.out Hn.out,cA,bB⟩
       case measure=>simp[intOf];omega
     ·obtain rfl:j=now.length:=(by omega);go_wp2;go_roundw
      case rel=>exact⟨k+1,f,by omega,by go_num,HX.out,eA.out,zHz HS.out HE.out.1 HE.out.2,zGN HA.out HE.out.1 HE.out.2 lB.out,hb,hz⟩
      case measure=>simp[intOf];omega
   ·have iD:¬(k:Int)<(W.pn:Int):=(by omega);have oD:k - W.pn<W.sn:=(by omega);have cE:(k:Int) - (W.pn:Int)=((k - W.pn:Nat):Int):=(Int.ofNat_sub (by omega)).symm;have tD:((k - W.pn:Nat):Int)<(W.sn:Int):=Int.ofNat_lt.2 oD;obtain⟨b,off,vd,rfl,kB⟩:=(Hp.out.zOd.zOU hb).cells oD;have q3:=kB.c2;have q5:=kB.c3;have q6:=kB.c4;have Hm:=zB (show(zc W k).zOg=(W.zOd (k - W.pn)).zOg/\(zc W k).rs=(W.zOd (k - W.pn)).rs/\(zc W k).rb=(W.zOd (k - W.pn)).rb from by have e:=yk W (k - W.pn);rw[show W.pn+(k - W.pn)=k by omega]at e;rw[e];exact⟨rfl,rfl,rfl⟩);clear kB;have dA:=zC wr (.cells #[.int .i64 0,.int .i64 0] 99);have mC:=zB (HX.out.zOU dA);have kC:=zB (zk.zOY wr (.int .i64 0) (.int .i64 0) 99);have bD:=zB (eA.out.zOU dA);have r3:=(dA.cell (zD q3)).trans q3;have r5:=(dA.cell (zD q5)).trans q5;have r6:=(dA.cell (zD q6)).trans q6;have eD:=zA hb dA;have hz2:(wr.alloc (.cells #[.int .i64 0,.int .i64 0] 99)).heap.size=wr.heap.size+1:=World.size_alloc _ _;have gD:b<wr.heap.size:=zD q3;have eC:w.heap.size≠wr.heap.size:=(by omega);have fC:b≠wr.heap.size:=(by omega);obtain⟨⟨y0,y1⟩,⟨y2,y3⟩,⟨y4,y5⟩,⟨y6,y7⟩,⟨y8,y9⟩,⟨jD,kD⟩⟩:=mC.out;obtain⟨⟨p0,p1⟩,⟨p2,p3⟩⟩:=kC.out;generalize vC:(W.zOd (k - W.pn)).zOg=x at *;generalize aB:(W.zOd (k - W.pn)).rs=rs at *;generalize sA:(W.zOd (k - W.pn)).rb=rb at *;have dD:=zB (And.intro vC (And.intro aB sA));clear vC aB sA;have jB:=zC wr (.cells #[.int .i64 rs,.int .i64 rb] 99);have cB:=zB (HX.out.zOU jB);have pB:=zB (zk.zOY wr (.int .i64 rs) (.int .i64 rb) 99);have mB:=zB (eA.out.zOU jB);have gB:=zA hb jB;obtain⟨⟨z0,z1⟩,⟨z2,z3⟩,⟨z4,z5⟩,⟨z6,z7⟩,⟨z8,z9⟩,⟨lD,mD⟩⟩:=cB.out;go_wp2_with fail;clear x0 x1 x2 x3 x4 x5 x6 x7 x8 x9 mA nA y0 y1 y2 y3 y4 y5 y6 y7 y8 y9 jD kD z0 z1 z2 z3 z4 z5 z6 z7 z8 z9 lD mD p0 p1 p2 p3 r3 r5 r6 q3 q5 q6 mC kC bD eD dA hz2 eC fC gD jB;have hz3:w.heap.size+2<=(wr.alloc (.cells #[.int .i64 rs,.int .i64 rb] 99)).heap.size:=(by rw[World.size_alloc];omega);generalize wr.alloc (.cells #[.int .i64 rs,.int .i64 rb] 99)=W3 at cB pB mB gB hz3 ⊢;refine(yS _ v1 _ _ lo hi W x W3 (Hp.out.zOU gB)).mono ?_;rintro e w1 ⟨s,bb,t,rfl,hF,iA⟩;have hq:=zEi HP.out hF;have pC:=zB (show qQ W.zOa s bb by rw[hq.1,hq.2.1];exact HT.out.old x);have bC:=zB (show qQ W.zOa rs rb by have:=HT.out.tree k (by unfold qf;omega);rw[Hm.out.2.1,Hm.out.2.2]at this;exact this);have HE:=zB (show zY W.zOa rs rb=yf W (zc W k)/\zY W.zOa s bb=zCO W (zc W k)by unfold yf zCO;rw[Hm.out.1,Hm.out.2.1,Hm.out.2.2,hq.1,hq.2.1];exact⟨rfl,rfl⟩);have gA:=zC w1 (.cells #[.int .i64 s,.int .i64 bb] 99);have dB:=zB ((cB.out.zOU iA).zOU gA);have rB:=zB ((pB.out.zOU iA).zOU gA);have nB:=zB ((mB.out.zOU iA).zOU gA);have tB:=zB (zk.zOY w1 (.int .i64 s) (.int .i64 bb) 99);have iB:=zA (zA gB iA) gA;have hz5:w.heap.size+2<=(w1.alloc (.cells #[.int .i64 s,.int .i64 bb] 99)).heap.size:=(by have h1:=iA.size;have h2:=gA.size;omega);clear hq hF iA gA cB pB mB gB hz3 dD Hm;obtain⟨⟨x0,x1⟩,⟨x2,x3⟩,⟨x4,x5⟩,⟨x6,x7⟩,⟨x8,x9⟩,⟨mA,nA⟩⟩:=dB.out;obtain⟨⟨p0,p1⟩,⟨p2,p3⟩⟩:=tB.out;clear x4 x5 x6 x7 x8 x9 mA nA x1 x3 p1 p3;go_wp2_with fail;clear x0 x2 p0 p2;generalize w1.alloc (.cells #[.int .i64 s,.int .i64 bb] 99)=w4 at dB rB nB tB iB hz5 ⊢;refine(q8 _ v1 lo hi W.zOa s bb w4 (Hp.out.zOa.zOU iB) HT.out.right pC.out).mono ?_;rintro e w5 ⟨vo,rfl,vA,jA⟩;have sB:=zB (dB.out.zOU jA);have lC:=zB (rB.out.zOU jA);have iC:=zB (nB.out.zOU jA);have fA:=zB (vA.mono hz5);have cC:=zA iB jA;have hz6:w.heap.size+2<=w5.heap.size:=(by have h1:=jA.size;omega);clear vA jA dB rB nB tB iB hz5 pC;obtain⟨⟨x0,x1⟩,⟨x2,x3⟩,⟨x4,x5⟩,⟨x6,x7⟩,⟨x8,x9⟩,⟨mA,nA⟩⟩:=sB.out;obtain⟨⟨p0,p1⟩,⟨p2,p3⟩⟩:=lC.out;clear x4 x5 x6 x7 x8 x9 mA nA x1 x3 p1 p3;go_wp2_with fail;clear x0 x2 p0 p2;refine(q8 _ v1 lo hi W.zOa rs rb w5 (Hp.out.zOa.zOU cC) HT.out.right bC.out).mono ?_;rintro e w6 ⟨vn,rfl,tA,kA⟩;have nC:=zB (sB.out.zOU kA);have jC:=zB (iC.out.zOU kA);have pA:=zB (fA.out.zOU kA);have bA:=zB (tA.mono hz6);have sC:=zA cC kA;have aD:w.heap.size+2<=w6.heap.size:=(by have h1:=kA.size;omega);have cD:=zB (fun j (hj:j<(zY W.zOa rs rb).length)=>zG5 HT.out.right bC.out hj);have vD:=qs W.zOa rs rb;have aE:=qs W.zOa s bb;clear tA kA sB lC iC fA cC hz6 bC;obtain⟨an,cn,rfl,sD⟩:=zX bA.out;generalize zY W.zOa rs rb=now at *;generalize zY W.zOa s bb=old at *;go_wp2
    go_loopw [11] (fun i lA=>∃j:Nat,∃f,j<=now.length/\i = .int .i64 j/\qH lA (w.heap.size+2) vo old/\qH lA (w.heap.size+2) (.slice an now.length cn) now/\za lA w.heap.size (.slice a0 W.zOa.n c0) v1 (.int .i64 W.time) (.int .i64 W.next) (.slice (some ⟨b,off,none⟩) W.sn c') (.slice a W.pn c)/\yP lA (w.heap.size+1) W.zOa.n f/\zBN W k now old j f/\zB5 W k now old j/\Below w.heap.size w lA/\w.heap.size+2<=lA.heap.size) (fun i _=>now.length - (intOf i).toNat)
    case atStart=>exact⟨0,f,Nat.zero_le _,rfl,pA.out,bA.out,nC.out,jC.out,zG0 HS.out _ _,fun q hq=>absurd hq (Nat.not_lt_zero _),sC,aD⟩
    case round=>
     clear nC jC pA bA sC aD HS HX eA hb hz;obtain⟨j,f,hj,rfl,vA,tA,hX,hR,hS,rC,hb,hz⟩:=hrel;have fA:=zB vA;have aC:=zB tA;have HX:=zB hX;have eA:=zB hR;have HS:=zB hS;have lB:=zB rC;clear vA tA hX hR hS rC;by_cases dC:j<now.length
     ·have fD:(j:Int)<(now.length:Int):=(by omega);obtain⟨b2,gC,rfl,q0,q1⟩:=(aC.out.atW (by omega)).cellsD dC;obtain⟨sl,hs1,hs2⟩:=cD.out j dC;have hs3:(sl:Int)<(W.zOa.n:Int):=(by omega);have fB:=zB hs1;clear hs1;go_wp2_with fail;refine(zCr _ old.length 0 _ (zg old) (zj old) (zg now j) (zj now j) _ (fA.out.atW (by omega))).mono ?_;rintro e w7 ⟨⟨t7,rfl,tC⟩,aA⟩;have eB:=zB (tC.trans zCt);have z0:=(aA.cell (p:=⟨b2,gC+j*2,none⟩) (zD q0)).trans q0;have rA:=zB (fA.out.zOU aA);have oA:=zB (aC.out.zOU aA);have oC:=zB (HX.out.zOU aA);have oB:=zB (eA.out.zOU aA);have cA:=zA hb aA;have bB:w.heap.size+2<=w7.heap.size:=(by have h1:=aA.size;omega);clear tC aA q0 q1 fA aC HX eA hb hz;cases t7
      ·have Hn:=zB (show(zg now j,zj now j)∉old from fun h=>absurd (eB.out.2 h) (by simp));clear eB;rw[fB.out]at z0;obtain⟨y0,y1⟩:=oB.out sl hs2;cases hfs:f sl
       ·have vB:=zB hfs;rw[hfs]at y0;clear hfs;go_wp2;go_roundw
        case rel=>exact⟨j+1,_,by omega,by go_num,rA.out.put (by omega) _,oA.out.put (by omega) _,oC.out.zOW (zE.put _ (w.heap.size+1) sl _) (by omega),oB.out.put true,zHx HS.out fB.out Hn.out,zJO lB.out HS.out fB.out vB.out,cA.setCell (show w.heap.size<=w.heap.size+1 by omega) _,by rw[World.size_setCell];exact bB⟩
        case measure=>simp[intOf];omega
       ·have vB:=zB hfs;rw[hfs]at y0;clear hfs;go_wp2;go_ret;exact⟨zK.no (zG1 HT.out (by unfold qf;omega) HE.out.1 HE.out.2 HS.out dC fB.out Hn.out vB.out),cA⟩
      ·have Hn:=zB (eB.out.1 rfl);clear eB;go_wp2;go_roundw
       case rel=>exact⟨j+1,f,by omega,by go_num,rA.out,oA.out,oC.out,oB.out,zHy HS.out Hn.out,zJP lB.out Hn.out,cA,bB⟩
       case measure=>simp[intOf];omega
     ·obtain rfl:j=now.length:=(by omega);go_wp2;go_roundw
      case rel=>exact⟨k+1,f,by omega,by go_num,HX.out,eA.out,zHz HS.out HE.out.1 HE.out.2,zGN HA.out HE.out.1 HE.out.2 lB.out,hb,hz⟩
      case measure=>simp[intOf];omega
  ·obtain rfl:k=W.pn+W.sn:=(by omega);go_wp2;go_ret;exact⟨zK.yes HA.out,hb⟩
open Classical in
noncomputable def zAL(W:zH)(name:ByteArray):Nat->Nat
 | 0=>0
 | k+1=>zAL W name k+(if (W.zOb k).set=name then 1 else 0)
theorem zEw{W:zH}{name:ByteArray}{k:Nat}(h:(W.zOb k).set=name):zAL W name (k+1)=zAL W name k+1:=by simp[zAL,h]
theorem zId{W:zH}{name:ByteArray}{k:Nat}(h:¬(W.zOb k).set=name):zAL W name (k+1)=zAL W name k:=by simp[zAL,h]
theorem zKn(W:zH)(name:ByteArray):∀k,zAL W name k<=k
 | 0=>Nat.le_refl _
 | k+1=>by
  have:=zKn W name k;by_cases h:(W.zOb k).set=name
  ·rw[zEw h];omega
  ·rw[zId h];omega
inductive Steps (W:zH) (name:ByteArray) (start:Int):Nat->Int->Prop
 | zero:Steps W name start 0 start
 | next {n:Nat} {x:Int} {k:Nat}:Steps W name start n x->qo W x k->(W.zOb k).set=name->Steps W name start (n+1) (W.zOb k).zOg
def zFc(W:zH)(name:ByteArray)(x:Int):Prop:=∃k,qo W x k/\(W.zOb k).set=name
def zB9(W:zH)(name:ByteArray)(start zOf:Int):Prop:=∃n e,Steps W name start n e/\¬zFc W name e/\n=zAL W name W.pn/\e=zOf
theorem Steps.det{W:zH}{name:ByteArray}{aA:Int}:∀{n:Nat} {x y:Int},Steps W name aA n x->Steps W name aA n y->x=y
 | 0,_,_,.zero,.zero=>rfl
 | n+1,_,_,.next h hk _,.next h' hk' _=>by
  have e:=Steps.det h h';subst e;rw[qo.uniq hk hk']
theorem Steps.less{W:zH}{name:ByteArray}{aA:Int}:∀{n m:Nat} {x:Int},Steps W name aA m x->n<m->∃y,Steps W name aA n y/\zFc W name y
 | n,0,_,_,h=>absurd h (Nat.not_lt_zero _)
 | n,m+1,_,.next (x:=x) h hk hs,hl=>by
  by_cases e:n=m
  ·subst e;exact⟨x,h,_,hk,hs⟩
  ·exact Steps.less h (by omega)
theorem Steps.end{W:zH}{name:ByteArray}{aA:Int}{n m:Nat}{x y:Int}(h:Steps W name aA n x)(hx:¬zFc W name x)(h':Steps W name aA m y)(hy:¬zFc W name y):n=m/\x=y:=by
 have e:n=m:=by
  rcases Nat.lt_trichotomy n m with hl | hl | hl
  ·obtain⟨z,hz,ho⟩:=h'.less hl;rw[h.det hz]at hx;exact absurd ho hx
  ·exact hl
  ·obtain⟨z,hz,ho⟩:=h.less hl;rw[h'.det hz]at hy;exact absurd ho hy
 subst e;exact⟨rfl,h.det h'⟩
theorem zCs{W:zH}{name:ByteArray}{aA zOf:Int}{n:Nat}{x:Int}(h:Steps W name aA n x)(hx:¬zFc W name x):zB9 W name aA zOf↔n=zAL W name W.pn/\x=zOf:=by
 constructor
 ·rintro⟨m,y,hs,hy,h1,h2⟩;obtain⟨rfl,rfl⟩:=h.end hx hs hy;exact⟨h1,h2⟩
 ·rintro⟨h1,h2⟩;exact⟨n,x,h,hx,h1,h2⟩
theorem zDU{W:zH}{x r:Int}{k:Nat}(hk:qo W x k)(h:zEd W.pn (fun k=>(W.zOb k).id=x) r):r=(k:Int):=by
 rcases h with⟨j,hj,e,hm,rfl⟩ | ⟨hn,_⟩
 ·rw[qo.uniq hk ⟨hj,e,hm⟩]
 ·exact absurd hk.2.1 (hn k hk.1)
theorem qL.no{W:zH}{x:Int}(h:qL W x):∃k,qo W x k:=zH2 (Nat.le_refl _) h
structure zCe (W:zH):Prop where
 ids:∀k,k<W.pn->1<=(W.zOb k).id/\(W.zOb k).id<900000
 zOg:∀k,k<W.pn->(W.zOb k).zOg=0\/qL W (W.zOb k).zOg
 less:∀k,k<W.pn->(W.zOb k).zOg<(W.zOb k).id
 zOd:∀k,k<W.sn->(W.zOd k).zOg=0\/qL W (W.zOd k).zOg
 zOj:∀k,k<W.sn->(W.zOd k).name.toList.isEmpty=false
theorem zCe.pos{W:zH}(h:zCe W):zB8 W:=fun k hk=>(h.ids k hk).1
theorem qL.range{W:zH}(h:zCe W){x:Int}(hx:qL W x):1<=x/\x<900000:=by
 obtain⟨k,hk,rfl⟩:=hx;exact h.ids k hk
theorem zCl{s:ByteArray}(h:qV s):s.toList.isEmpty=false:=by
 have:=h.1;rw[Go.ByteArray.toList_eq];cases s with
 | mk d=>
  cases hd:d.toList with
  | nil=>
   have h0:d.size=0:=(by rw[<-Array.length_toList,hd];rfl);have h1:1<=d.size:=this;omega
  | cons a l=>simp
theorem zAh.prevOk{W:zH}(h:zAh W):zCe W where
 ids:=fun k hk=>⟨(h.2.2.2.2.2 k hk).1.1,by have:=(h.2.2.2.2.2 k hk).1.2.1;have:=h.2.1.2;omega⟩
 zOg:=fun k hk=>by
  by_cases e:(W.zOb k).zOg=0
  ·exact Or.inl e
  ·exact Or.inr ((h.2.2.2.2.2 k hk).2.1.2 e).2
 less:=fun k hk=>by
  by_cases e:(W.zOb k).zOg=0
  ·have:=(h.2.2.2.2.2 k hk).1.1;omega
  ·exact((h.2.2.2.2.2 k hk).2.1.2 e).1
 zOd:=fun k hk=>by
  by_cases e:(W.zOd k).zOg=0
  ·exact Or.inl e
  ·exact Or.inr ((h.2.2.2.2.1 k hk).2.2.1 e)
 zOj:=fun k hk=>zCl (h.2.2.2.2.1 k hk).1
structure zEM (W:zH) (name:ByteArray) (start:Int) (n:Nat) (x:Int):Prop where
 steps:Steps W name start n x
 there:x=0\/qL W x
 least:0<=x
 sum:(n:Int)+x<=900000
theorem zEM.start{W:zH}(h:zCe W)(name:ByteArray){x:Int}(hx:x=0\/qL W x):zEM W name x 0 x where
 steps:=.zero
 there:=hx
 least:=by rcases hx with rfl | hx;exact Int.le_refl _;have:=hx.range h;omega
 sum:=by rcases hx with rfl | hx;decide;have:=hx.range h;omega
theorem zEM.next{W:zH}(h:zCe W){name:ByteArray}{aA:Int}{n:Nat}{x:Int}(hw:zEM W name aA n x){k:Nat}(hk:qo W x k)(hs:(W.zOb k).set=name):zEM W name aA (n+1) (W.zOb k).zOg where
 steps:=hw.steps.next hk hs
 there:=h.zOg k hk.1
 least:=by rcases h.zOg k hk.1 with e | e;omega;have:=e.range h;omega
 sum:=by have h1:=h.less k hk.1;have h2:=hw.sum;have h3:=hk.2.1;omega
theorem zIY{W:zH}(h:zCe W)(name:ByteArray):¬zFc W name 0:=fun ⟨k,hk,_⟩=>by
 have:=(h.ids k hk.1).1;have:=hk.2.1;omega
theorem zKE{W:zH}{name:ByteArray}{x:Int}{k:Nat}(hk:qo W x k)(hs:¬(W.zOb k).set=name):¬zFc W name x:=fun ⟨j,hj,e⟩=>hs (by rw[qo.uniq hk hj];exact e)
end Go.Proofs.YtgabgheflgjgiaaGreatDoor
