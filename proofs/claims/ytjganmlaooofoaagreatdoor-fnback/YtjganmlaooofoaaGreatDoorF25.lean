/- A part of the proof. -/
import Derived.Test.YtjganmlaooofoaaGreatDoorF24
set_option linter.unusedVariables false
set_option maxRecDepth 20000
set_option maxHeartbeats 4000000
namespace Go.Proofs.YtjganmlaooofoaaGreatDoor
open Go.RowKit Go.Maps
theorem zLn(v0 v1 v2 v3:Value)(lo hi:Nat)(W:zB)(w:World)(h:yO w lo hi v0 v1 v2 v3 W)(bF:qs W.pool<=1048576)(nE:W.sn<=1048576)(oD:W.pn<=1048576)(mE:zGm W):Calls Tryz.prog 53 #[zA8 v0 v1 v2 v3 W] w (zWH W w):=by
  obtain⟨a0,c0,a1,c1,a2,c2,a3,c3,rfl,rfl,rfl,rfl⟩:=h.zeQ;have Hp:=yn h;obtain⟨gB,kE,bH⟩:=h.zeK.values;obtain⟨sA,lE,cH⟩:=h.zeJ.values;have jB:=yn kE;have kB:=yn lE;have mD:=yn (show ∀i,i<W.sn->(gB i).oneCell'=true from fun i hi=>by obtain⟨-,a,c,e,-⟩:=(kE i hi).1;rw[e];rfl);have iC:=yn (show ∀i,i<W.pn->(sA i).oneCell'=true from fun i hi=>by obtain⟨-,a,c,e,-⟩:=(lE i hi).1;rw[e];rfl);have nD:=yn bH;have jC:=yn cH;have dE:=yn mE.1;have eE:=yn mE.2;have rG:=yn (show W.sn<=maxLen/\W.pn<=maxLen from⟨h.zeK.1,h.zeJ.1⟩);clear h kE lE bH cH mE;have kH:∀A B:World,A=w.alloc (.cells #[.slice a0 W.pool.n c0,.slice a1 W.pool.hn c1,.int .i64 W.time,.int .i64 W.next,.slice a2 W.sn c2,.slice a3 W.pn c3] 30)->B=A.alloc (.cells #[.slice none 0 0,.slice none 0 0,.int .i64 0,.int .i64 0,.slice none 0 0,.slice none 0 0] 30)->zAN B w.heap.size (.slice a0 W.pool.n c0) (.slice a1 W.pool.hn c1) (.int .i64 W.time) (.int .i64 W.next) (.slice a2 W.sn c2) (.slice a3 W.pn c3)/\zAN B (w.heap.size+1) (.slice none 0 0) (.slice none 0 0) (.int .i64 0) (.int .i64 0) (.slice none 0 0) (.slice none 0 0)/\Below w.heap.size w B/\B.heap.size=w.heap.size+2:=by
    rintro A B ea eb;have b1:=zD w (.cells #[.slice a0 W.pool.n c0,.slice a1 W.pool.hn c1,.int .i64 W.time,.int .i64 W.next,.slice a2 W.sn c2,.slice a3 W.pn c3] 30);have x1:=zAN.new w (.slice a0 W.pool.n c0) (.slice a1 W.pool.hn c1) (.int .i64 W.time) (.int .i64 W.next) (.slice a2 W.sn c2) (.slice a3 W.pn c3) 30;have z1:A.heap.size=w.heap.size+1:=(by rw[ea];exact World.size_alloc _ _);rw[<-ea]at b1 x1;have b2:=zD A (.cells #[.slice none 0 0,.slice none 0 0,.int .i64 0,.int .i64 0,.slice none 0 0,.slice none 0 0] 30);have x2:=zAN.new A (.slice none 0 0) (.slice none 0 0) (.int .i64 0) (.int .i64 0) (.slice none 0 0) (.slice none 0 0) 30;have z2:B.heap.size=w.heap.size+2:=(by rw[eb,World.size_alloc,z1]);rw[<-eb,z1]at x2;rw[<-eb]at b2;exact⟨x1.zeF b2,x2,zA b1 b2,z2⟩
  obtain⟨hx,hr,gA,vD⟩:=kH _ _ rfl rfl;have HX:=yn hx;have HR:=yn hr;have vG:=yn vD;clear kH hx hr vD;go_enter Tryz.func53,Tryz.ntmps53;go_upto_region 1 with fail;generalize (w.alloc (.cells #[.slice a0 W.pool.n c0,.slice a1 W.pool.hn c1,.int .i64 W.time,.int .i64 W.next,.slice a2 W.sn c2,.slice a3 W.pn c3] 30)).alloc (.cells #[.slice none 0 0,.slice none 0 0,.int .i64 0,.int .i64 0,.slice none 0 0,.slice none 0 0] 30)=W0 at HX HR vG gA ⊢
  go_cut [3] (fun v wc=>∃(X:Nat) (b0:Option Addr) (d0:Nat) (b1:Option Addr) (d1:Nat) (aS:Option Addr) (cS:Nat) (aZ:Option Addr) (cZ:Nat) (l h bS bZ:Nat),v = .pointer (some ⟨X,0,none⟩)/\zAN wc X (.slice b0 W.pool.n d0) (.slice b1 W.pool.hn d1) (.int .i64 W.time) (.int .i64 W.next) (.slice aS W.sn cS) (.slice aZ W.pn cZ)/\zAM wc l h (.slice b0 W.pool.n d0) (.slice b1 W.pool.hn d1) W.pool/\(0<W.sn->aS=some ⟨bS,0,none⟩/\h<=bS)/\(0<W.pn->aZ=some ⟨bZ,0,none⟩/\h<=bZ/\(0<W.sn->bS<bZ))/\W.sn<=cS/\W.pn<=cZ/\zBY wc bS wc.heap.size W.sn 0 W.zeK (fun _=>0) gB gB/\zAj wc bZ wc.heap.size W.pn 0 W.zeJ (fun _=>0) sA sA/\(X<l\/h<=X)/\(0<W.sn->X≠bS)/\(0<W.pn->X≠bZ)/\W0.heap.size<=X/\W0.heap.size<=l/\l<=h/\X<wc.heap.size/\h<=wc.heap.size/\zFi wc 44 6 (.slice aS W.sn cS) W.sn/\zFi wc 41 8 (.slice aZ W.pn cZ) W.pn/\Below W0.heap.size W0 wc)
  case first=>
    obtain⟨x0,x1,x2,x3,x4,x5⟩:=HX.out.c;refine wp_region_held_drew (S:=(fun w'=>w'.cell? ⟨w.heap.size,0,none⟩=some (.slice a0 W.pool.n c0)/\w'.cell? ⟨w.heap.size,1,none⟩=some (.slice a1 W.pool.hn c1)/\w'.cell? ⟨w.heap.size,2,none⟩=some (.int .i64 W.time)/\w'.cell? ⟨w.heap.size,3,none⟩=some (.int .i64 W.next)/\w'.cell? ⟨w.heap.size,4,none⟩=some (.slice a2 W.sn c2)/\w'.cell? ⟨w.heap.size,5,none⟩=some (.slice a3 W.pn c3))) (by kernel_rfl) ?_ (fun hHeld=>?_)
    · (try dsimp only)
      go_keep
    have eC:Below W0.heap.size W0 W0.drew:=(Below.refl _ _).drew;clear x0 x1 x2 x3 x4 x5;generalize W0.drew=q0 at eC hHeld ⊢;refine tk 0 (h:=tk 1 (h:=tk 3 (h:=tk 4 (h:=tk 5 (h:=tk 6 (h:=tk 7 (h:=tk 8 (h:=tk 10 (h:=tk 11 (h:=?_))))))))));refine rd [2,14] (rc (fun K hK=>?_) (rc (fun K hK=>?_) .nil))
    · go_simp
      go_at_call 99;refine(zIc _ _ lo hi W.pool _ ((Hp.out.pool.zeF gA).zeF eC) bF).mono ?_;rintro e q1 ⟨u0,u1,rfl,nF,sE⟩;obtain⟨b0,d0,b1,d1,rfl,rfl⟩:=nF.zeQ;have zP:W0.heap.size<=q0.heap.size/\q0.heap.size<=q1.heap.size:=⟨eC.size,sE.size⟩;have nC:Below W0.heap.size W0 q1:=zA eC sE;have y1:=sE.size;obtain⟨x0,x1,x2,x3,x4,x5⟩:=(HX.out.zeF nC).c
      (try go_wp2_with fail)
      refine hK.out _ _ (by(try dsimp only);go_keep) ?_;clear hK K hHeld;intro hHeld
      try simp only[Act.put,s1,s2,s3]
      clear x0 x1 x2 x3 x4 x5;refine rd [9,14] (rc (fun K hK=>?_) (rc (fun K hK=>?_) .nil))
      · go_simp
        go_at_call 100;refine(zF7 a2 W.sn c2 (zHa W.zeK gB W.sn) _ (zH9 _ _ _) (zKg _ _ _ mD.out) nE (fun h0=>?_)).mono ?_
        · obtain⟨b,off,ha,hc⟩:=nD.out h0
          exact⟨b,off,ha,fun j u hj=>((zA gA nC).cell (zH (hc j u hj))).trans (hc j u hj)⟩
        rintro e q2 ⟨v2,rfl,gH,tD,dF⟩;have aB:Below W0.heap.size W0 q2:=zA nC tD;obtain⟨bS,eA,fA,rfl,nS,lS,vH⟩:=zGA gH q2.heap.size (Nat.le_refl _);have zS:q1.heap.size<=q2.heap.size:=tD.size;have lH:=zCC gH dF;have pH:=nF.zeF tD;have y2:=tD.size;obtain⟨x0,x1,x2,x3,x4,x5⟩:=(HX.out.zeF aB).c
        (try go_wp2_with fail)
        refine hK.out _ _ (by(try dsimp only);go_keep) ?_;clear hK K hHeld;intro hHeld
        try simp only[Act.put,s1,s2,s3]
        clear x0 x1 x2 x3 x4 x5;refine rd [12,14] (rc (fun K hK=>?_) (rc (fun K hK=>?_) .nil))
        · go_simp
          go_at_call 101;refine(zDv a3 W.pn c3 (zEt W.zeJ sA W.pn) _ (zFS _ _ _) (zGs _ _ _ iC.out) oD (fun h0=>?_)).mono ?_
          · obtain⟨b,off,ha,hc⟩:=jC.out h0
            exact⟨b,off,ha,fun j u hj=>((zA gA aB).cell (zH (hc j u hj))).trans (hc j u hj)⟩
          rintro e q3 ⟨v3,rfl,iH,fC,eF⟩;have oE:Below W0.heap.size W0 q3:=zA aB fC;obtain⟨bZ,bA,cA,rfl,nZ,lZ,iJ⟩:=zDz iH q3.heap.size (Nat.le_refl _);have zZ:q2.heap.size<=q3.heap.size:=fC.size;have bJ:=zCC iH eF;have dJ:=pH.zeF fC;have fJ:=vH.zeF fC;have vI:=lH.zeF fC;have y3:=fC.size;obtain⟨x0,x1,x2,x3,x4,x5⟩:=(HX.out.zeF oE).c
          (try go_wp2_with fail)
          refine hK.out _ _ (by(try dsimp only);go_keep) ?_;clear hK K hHeld;intro hHeld
          try simp only[Act.put,s1,s2,s3]
          clear x0 x1 x2 x3 x4 x5;refine tk 13 (h:=?_);refine rd [14] (rc (fun K hK=>?_) .nil);go_simp;have tB:=zD q3 (.cells #[.slice none 0 0,.slice none 0 0,.int .i64 0,.int .i64 0,.slice none 0 0,.slice none 0 0] 30);have pD:Below W0.heap.size W0 (q3.alloc (.cells #[.slice none 0 0,.slice none 0 0,.int .i64 0,.int .i64 0,.slice none 0 0,.slice none 0 0] 30)):=zA oE tB;have fG:zAN (q3.alloc (.cells #[.slice none 0 0,.slice none 0 0,.int .i64 0,.int .i64 0,.slice none 0 0,.slice none 0 0] 30)) q3.heap.size (.slice none 0 0) (.slice none 0 0) (.int .i64 0) (.int .i64 0) (.slice none 0 0) (.slice none 0 0):=zAN.new _ _ _ _ _ _ _ _;have zV:W0.heap.size<=q3.heap.size/\q3.heap.size+1=(q3.alloc (.cells #[.slice none 0 0,.slice none 0 0,.int .i64 0,.int .i64 0,.slice none 0 0,.slice none 0 0] 30)).heap.size:=⟨oE.size,(World.size_alloc _ _).symm⟩;have rH:=dJ.zeF tB;have aI:=fJ.zeF tB;have fI:=iJ.zeF tB;have mH:=vI.zeF tB;have oH:=bJ.zeF tB;obtain⟨x0,x1,x2,x3,x4,x5⟩:=(HX.out.zeF pD).c
          (try go_wp2_with fail)
          refine hK.out _ _ (by(try dsimp only);go_keep) ?_;clear hK K hHeld;intro hHeld
          try simp only[Act.put,s1,s2,s3]
          clear x0 x1 x2 x3 x4 x5;generalize q3.alloc (.cells #[.slice none 0 0,.slice none 0 0,.int .i64 0,.int .i64 0,.slice none 0 0,.slice none 0 0] 30)=q4 at pD zV rH aI fI fG mH oH hHeld tB ⊢;refine rd [15] (rc (fun K hK=>?_) .nil);have hT:=zJ.put6 q4 (q3.heap.size) (.slice b0 W.pool.n d0) (.slice b1 W.pool.hn d1) (.int .i64 W.time) (.int .i64 W.next) (.slice eA W.sn fA) (.slice bA W.pn cA);have mA:Below W0.heap.size W0 (put6 q4 (q3.heap.size) (.slice b0 W.pool.n d0) (.slice b1 W.pool.hn d1) (.int .i64 W.time) (.int .i64 W.next) (.slice eA W.sn fA) (.slice bA W.pn cA)):=pD.trans (hT.zeF (B:=W0.heap.size) pD.size (fun k e=>by omega));have kV:=fG.put (.slice b0 W.pool.n d0) (.slice b1 W.pool.hn d1) (.int .i64 W.time) (.int .i64 W.next) (.slice eA W.sn fA) (.slice bA W.pn cA);obtain⟨⟨y0,kG⟩,⟨y1,lG⟩,⟨y2,mG⟩,⟨y3,nG⟩,⟨y4,oG⟩,⟨y5,pG⟩⟩:=fG;obtain⟨x0,x1,x2,x3,x4,x5⟩:=(HX.out.zeF mA).c;go_simp
          (try go_wp2_with fail)
          refine hK.out _ _ (by(try dsimp only);go_keep) ?_;clear hK K hHeld;intro hHeld
          try simp only[Act.put,s1,s2,s3]
          clear x0 x1 x2 x3 x4 x5;refine wpAnyH_done (by kernel_rfl) ?_ _;have dA:(put6 q4 (q3.heap.size) (.slice b0 W.pool.n d0) (.slice b1 W.pool.hn d1) (.int .i64 W.time) (.int .i64 W.next) (.slice eA W.sn fA) (.slice bA W.pn cA)).heap.size=q4.heap.size:=(by simp only[World.size_setCell]);go_wp2_with fail
          go_meet
          case rel=>
            refine⟨_,_,_,_,_,_,_,_,_,_,_,bS,bZ,rfl,kV,rH.zeG hT (fun k e=>by omega),fun h0=>⟨(lS h0).1,by have:=lS h0;omega⟩,fun h0=>⟨(lZ h0).1,by have:=lZ h0;omega,fun h1=>by have:=lZ h0;have:=lS h1;omega⟩,nS,nZ,(aI.turned0 hT (fun q e h0 e2=>by have:=lS h0;omega)).weak (by rw[dA];omega),(fI.turned0 hT (fun q e h0 e2=>by have:=lZ h0;omega)).weak (by rw[dA];omega),by omega,fun h0=>by have:=lS h0;omega,fun h0=>by have:=lZ h0;omega,by omega,by omega,by omega,by rw[dA];omega,by rw[dA];omega,((((((mH.set _ _).set _ _).set _ _).set _ _).set _ _).set _ _),((((((oH.set _ _).set _ _).set _ _).set _ _).set _ _).set _ _),mA⟩
        · go_simp
          have pC:=zD q2 (.cells #[.slice none 0 0,.slice none 0 0,.int .i64 0,.int .i64 0,.slice none 0 0,.slice none 0 0] 30);have rD:Below W0.heap.size W0 (q2.alloc (.cells #[.slice none 0 0,.slice none 0 0,.int .i64 0,.int .i64 0,.slice none 0 0,.slice none 0 0] 30)):=zA aB pC;have cI:zAN (q2.alloc (.cells #[.slice none 0 0,.slice none 0 0,.int .i64 0,.int .i64 0,.slice none 0 0,.slice none 0 0] 30)) q2.heap.size (.slice none 0 0) (.slice none 0 0) (.int .i64 0) (.int .i64 0) (.slice none 0 0) (.slice none 0 0):=zAN.new _ _ _ _ _ _ _ _;have zV:W0.heap.size<=q2.heap.size/\q2.heap.size+1=(q2.alloc (.cells #[.slice none 0 0,.slice none 0 0,.int .i64 0,.int .i64 0,.slice none 0 0,.slice none 0 0] 30)).heap.size:=⟨aB.size,(World.size_alloc _ _).symm⟩;have sH:=pH.zeF pC;have bI:=vH.zeF pC;have nH:=lH.zeF pC;obtain⟨x0,x1,x2,x3,x4,x5⟩:=(HX.out.zeF rD).c
          (try go_wp2_with fail)
          refine hK.out _ _ (by(try dsimp only);go_keep) ?_;clear hK K hHeld;intro hHeld
          try simp only[Act.put,s1,s2,s3]
          clear x0 x1 x2 x3 x4 x5;generalize q2.alloc (.cells #[.slice none 0 0,.slice none 0 0,.int .i64 0,.int .i64 0,.slice none 0 0,.slice none 0 0] 30)=q6 at rD zV sH bI cI nH hHeld pC ⊢;refine rd [12] (rc (fun K hK=>?_) .nil);go_simp;go_at_call 101;refine(zDv a3 W.pn c3 (zEt W.zeJ sA W.pn) _ (zFS _ _ _) (zGs _ _ _ iC.out) oD (fun h0=>?_)).mono ?_
          · obtain⟨b,off,ha,hc⟩:=jC.out h0
            exact⟨b,off,ha,fun j u hj=>((zA gA rD).cell (zH (hc j u hj))).trans (hc j u hj)⟩
          rintro e q7 ⟨v7,rfl,jH,vB,fF⟩;have pE:Below W0.heap.size W0 q7:=zA rD vB;obtain⟨bZ,bA,cA,rfl,nZ,lZ,jJ⟩:=zDz jH q7.heap.size (Nat.le_refl _);have zZ:q6.heap.size<=q7.heap.size:=vB.size;have cJ:=zCC jH fF;have eJ:=sH.zeF vB;have gJ:=bI.zeF vB;have dI:=cI.zeF vB;have aJ:=nH.zeF vB;have y7:=vB.size;obtain⟨x0,x1,x2,x3,x4,x5⟩:=(HX.out.zeF pE).c
          (try go_wp2_with fail)
          refine hK.out _ _ (by(try dsimp only);go_keep) ?_;clear hK K hHeld;intro hHeld
          try simp only[Act.put,s1,s2,s3]
          clear x0 x1 x2 x3 x4 x5;refine tk 13 (h:=?_);refine rd [15] (rc (fun K hK=>?_) .nil);have hT:=zJ.put6 q7 (q2.heap.size) (.slice b0 W.pool.n d0) (.slice b1 W.pool.hn d1) (.int .i64 W.time) (.int .i64 W.next) (.slice eA W.sn fA) (.slice bA W.pn cA);have mA:Below W0.heap.size W0 (put6 q7 (q2.heap.size) (.slice b0 W.pool.n d0) (.slice b1 W.pool.hn d1) (.int .i64 W.time) (.int .i64 W.next) (.slice eA W.sn fA) (.slice bA W.pn cA)):=pE.trans (hT.zeF (B:=W0.heap.size) pE.size (fun k e=>by omega));have kV:=dI.put (.slice b0 W.pool.n d0) (.slice b1 W.pool.hn d1) (.int .i64 W.time) (.int .i64 W.next) (.slice eA W.sn fA) (.slice bA W.pn cA);obtain⟨⟨y0,kG⟩,⟨y1,lG⟩,⟨y2,mG⟩,⟨y3,nG⟩,⟨y4,oG⟩,⟨y5,pG⟩⟩:=dI;obtain⟨x0,x1,x2,x3,x4,x5⟩:=(HX.out.zeF mA).c;go_simp
          (try go_wp2_with fail)
          refine hK.out _ _ (by(try dsimp only);go_keep) ?_;clear hK K hHeld;intro hHeld
          try simp only[Act.put,s1,s2,s3]
          clear x0 x1 x2 x3 x4 x5;refine wpAnyH_done (by kernel_rfl) ?_ _;have dA:(put6 q7 (q2.heap.size) (.slice b0 W.pool.n d0) (.slice b1 W.pool.hn d1) (.int .i64 W.time) (.int .i64 W.next) (.slice eA W.sn fA) (.slice bA W.pn cA)).heap.size=q7.heap.size:=(by simp only[World.size_setCell]);go_wp2_with fail
          go_meet
          case rel=>
            refine⟨_,_,_,_,_,_,_,_,_,_,_,bS,bZ,rfl,kV,eJ.zeG hT (fun k e=>by omega),fun h0=>⟨(lS h0).1,by have:=lS h0;omega⟩,fun h0=>⟨(lZ h0).1,by have:=lZ h0;omega,fun h1=>by have:=lZ h0;have:=lS h1;omega⟩,nS,nZ,(gJ.turned0 hT (fun q e h0 e2=>by have:=lS h0;omega)).weak (by rw[dA];omega),(jJ.turned0 hT (fun q e h0 e2=>by have:=lZ h0;omega)).weak (by rw[dA];omega),by omega,fun h0=>by have:=lS h0;omega,fun h0=>by have:=lZ h0;omega,by omega,by omega,by omega,by rw[dA];omega,by rw[dA];omega,((((((aJ.set _ _).set _ _).set _ _).set _ _).set _ _).set _ _),((((((cJ.set _ _).set _ _).set _ _).set _ _).set _ _).set _ _),mA⟩
      · go_simp
        have tE:=zD q1 (.cells #[.slice none 0 0,.slice none 0 0,.int .i64 0,.int .i64 0,.slice none 0 0,.slice none 0 0] 30);have sD:Below W0.heap.size W0 (q1.alloc (.cells #[.slice none 0 0,.slice none 0 0,.int .i64 0,.int .i64 0,.slice none 0 0,.slice none 0 0] 30)):=zA nC tE;have eI:zAN (q1.alloc (.cells #[.slice none 0 0,.slice none 0 0,.int .i64 0,.int .i64 0,.slice none 0 0,.slice none 0 0] 30)) q1.heap.size (.slice none 0 0) (.slice none 0 0) (.int .i64 0) (.int .i64 0) (.slice none 0 0) (.slice none 0 0):=zAN.new _ _ _ _ _ _ _ _;have zV:W0.heap.size<=q1.heap.size/\q1.heap.size+1=(q1.alloc (.cells #[.slice none 0 0,.slice none 0 0,.int .i64 0,.int .i64 0,.slice none 0 0,.slice none 0 0] 30)).heap.size:=⟨nC.size,(World.size_alloc _ _).symm⟩;have tH:=nF.zeF tE;obtain⟨x0,x1,x2,x3,x4,x5⟩:=(HX.out.zeF sD).c
        (try go_wp2_with fail)
        refine hK.out _ _ (by(try dsimp only);go_keep) ?_;clear hK K hHeld;intro hHeld
        try simp only[Act.put,s1,s2,s3]
        clear x0 x1 x2 x3 x4 x5;generalize q1.alloc (.cells #[.slice none 0 0,.slice none 0 0,.int .i64 0,.int .i64 0,.slice none 0 0,.slice none 0 0] 30)=q9 at sD zV tH eI hHeld tE ⊢;refine rd [9] (rc (fun K hK=>?_) .nil);go_simp;go_at_call 100;refine(zF7 a2 W.sn c2 (zHa W.zeK gB W.sn) _ (zH9 _ _ _) (zKg _ _ _ mD.out) nE (fun h0=>?_)).mono ?_
        · obtain⟨b,off,ha,hc⟩:=nD.out h0
          exact⟨b,off,ha,fun j u hj=>((zA gA sD).cell (zH (hc j u hj))).trans (hc j u hj)⟩
        rintro e aE ⟨iK,rfl,sC,nA,dD⟩;have lB:Below W0.heap.size W0 aE:=zA sD nA;obtain⟨bS,eA,fA,rfl,nS,lS,tF⟩:=zGA sC aE.heap.size (Nat.le_refl _);have zS:q9.heap.size<=aE.heap.size:=nA.size;have gF:=zCC sC dD;have oF:=tH.zeF nA;have cG:=eI.zeF nA;have mK:=nA.size;obtain⟨x0,x1,x2,x3,x4,x5⟩:=(HX.out.zeF lB).c
        (try go_wp2_with fail)
        refine hK.out _ _ (by(try dsimp only);go_keep) ?_;clear hK K hHeld;intro hHeld
        try simp only[Act.put,s1,s2,s3]
        clear x0 x1 x2 x3 x4 x5;refine rd [12] (rc (fun K hK=>?_) .nil);go_simp;go_at_call 101;refine(zDv a3 W.pn c3 (zEt W.zeJ sA W.pn) _ (zFS _ _ _) (zGs _ _ _ iC.out) oD (fun h0=>?_)).mono ?_
        · obtain⟨b,off,ha,hc⟩:=jC.out h0
          exact⟨b,off,ha,fun j u hj=>((zA gA lB).cell (zH (hc j u hj))).trans (hc j u hj)⟩
        rintro e bC ⟨jK,rfl,tC,iA,eD⟩;have mB:Below W0.heap.size W0 bC:=zA lB iA;obtain⟨bZ,bA,cA,rfl,nZ,lZ,gG⟩:=zDz tC bC.heap.size (Nat.le_refl _);have zZ:aE.heap.size<=bC.heap.size:=iA.size;have lF:=zCC tC eD;have pF:=oF.zeF iA;have vF:=tF.zeF iA;have jD:=cG.zeF iA;have iF:=gF.zeF iA;have nK:=iA.size;obtain⟨x0,x1,x2,x3,x4,x5⟩:=(HX.out.zeF mB).c
        (try go_wp2_with fail)
        refine hK.out _ _ (by(try dsimp only);go_keep) ?_;clear hK K hHeld;intro hHeld
        try simp only[Act.put,s1,s2,s3]
        clear x0 x1 x2 x3 x4 x5;refine tk 13 (h:=?_);refine rd [15] (rc (fun K hK=>?_) .nil);have hT:=zJ.put6 bC (q1.heap.size) (.slice b0 W.pool.n d0) (.slice b1 W.pool.hn d1) (.int .i64 W.time) (.int .i64 W.next) (.slice eA W.sn fA) (.slice bA W.pn cA);have mA:Below W0.heap.size W0 (put6 bC (q1.heap.size) (.slice b0 W.pool.n d0) (.slice b1 W.pool.hn d1) (.int .i64 W.time) (.int .i64 W.next) (.slice eA W.sn fA) (.slice bA W.pn cA)):=mB.trans (hT.zeF (B:=W0.heap.size) mB.size (fun k e=>by omega));have kV:=jD.put (.slice b0 W.pool.n d0) (.slice b1 W.pool.hn d1) (.int .i64 W.time) (.int .i64 W.next) (.slice eA W.sn fA) (.slice bA W.pn cA);obtain⟨⟨y0,kG⟩,⟨y1,lG⟩,⟨y2,mG⟩,⟨y3,nG⟩,⟨y4,oG⟩,⟨y5,pG⟩⟩:=jD;obtain⟨x0,x1,x2,x3,x4,x5⟩:=(HX.out.zeF mA).c;go_simp
        (try go_wp2_with fail)
        refine hK.out _ _ (by(try dsimp only);go_keep) ?_;clear hK K hHeld;intro hHeld
        try simp only[Act.put,s1,s2,s3]
        clear x0 x1 x2 x3 x4 x5;refine wpAnyH_done (by kernel_rfl) ?_ _;have dA:(put6 bC (q1.heap.size) (.slice b0 W.pool.n d0) (.slice b1 W.pool.hn d1) (.int .i64 W.time) (.int .i64 W.next) (.slice eA W.sn fA) (.slice bA W.pn cA)).heap.size=bC.heap.size:=(by simp only[World.size_setCell]);go_wp2_with fail
        go_meet
        case rel=>
          refine⟨_,_,_,_,_,_,_,_,_,_,_,bS,bZ,rfl,kV,pF.zeG hT (fun k e=>by omega),fun h0=>⟨(lS h0).1,by have:=lS h0;omega⟩,fun h0=>⟨(lZ h0).1,by have:=lZ h0;omega,fun h1=>by have:=lZ h0;have:=lS h1;omega⟩,nS,nZ,(vF.turned0 hT (fun q e h0 e2=>by have:=lS h0;omega)).weak (by rw[dA];omega),(gG.turned0 hT (fun q e h0 e2=>by have:=lZ h0;omega)).weak (by rw[dA];omega),by omega,fun h0=>by have:=lS h0;omega,fun h0=>by have:=lZ h0;omega,by omega,by omega,by omega,by rw[dA];omega,by rw[dA];omega,((((((iF.set _ _).set _ _).set _ _).set _ _).set _ _).set _ _),((((((lF.set _ _).set _ _).set _ _).set _ _).set _ _).set _ _),mA⟩
    · go_simp
      have oC:=zD q0 (.cells #[.slice none 0 0,.slice none 0 0,.int .i64 0,.int .i64 0,.slice none 0 0,.slice none 0 0] 30);have lA:Below W0.heap.size W0 (q0.alloc (.cells #[.slice none 0 0,.slice none 0 0,.int .i64 0,.int .i64 0,.slice none 0 0,.slice none 0 0] 30)):=zA eC oC;have kD:zAN (q0.alloc (.cells #[.slice none 0 0,.slice none 0 0,.int .i64 0,.int .i64 0,.slice none 0 0,.slice none 0 0] 30)) q0.heap.size (.slice none 0 0) (.slice none 0 0) (.int .i64 0) (.int .i64 0) (.slice none 0 0) (.slice none 0 0):=zAN.new _ _ _ _ _ _ _ _;have zV:W0.heap.size<=q0.heap.size/\q0.heap.size+1=(q0.alloc (.cells #[.slice none 0 0,.slice none 0 0,.int .i64 0,.int .i64 0,.slice none 0 0,.slice none 0 0] 30)).heap.size:=⟨eC.size,(World.size_alloc _ _).symm⟩;obtain⟨x0,x1,x2,x3,x4,x5⟩:=(HX.out.zeF lA).c
      (try go_wp2_with fail)
      refine hK.out _ _ (by(try dsimp only);go_keep) ?_;clear hK K hHeld;intro hHeld
      try simp only[Act.put,s1,s2,s3]
      clear x0 x1 x2 x3 x4 x5;generalize q0.alloc (.cells #[.slice none 0 0,.slice none 0 0,.int .i64 0,.int .i64 0,.slice none 0 0,.slice none 0 0] 30)=q13 at lA zV kD hHeld oC ⊢;refine rd [2] (rc (fun K hK=>?_) .nil);go_simp;go_at_call 99;refine(zIc _ _ lo hi W.pool _ ((Hp.out.pool.zeF gA).zeF lA) bF).mono ?_;rintro e jG ⟨u0,u1,rfl,iD,bB⟩;obtain⟨b0,d0,b1,d1,rfl,rfl⟩:=iD.zeQ;have zP:W0.heap.size<=q13.heap.size/\q13.heap.size<=jG.heap.size:=⟨lA.size,bB.size⟩;have nB:Below W0.heap.size W0 jG:=zA lA bB;have dG:=kD.zeF bB;have oK:=bB.size;obtain⟨x0,x1,x2,x3,x4,x5⟩:=(HX.out.zeF nB).c
      (try go_wp2_with fail)
      refine hK.out _ _ (by(try dsimp only);go_keep) ?_;clear hK K hHeld;intro hHeld
      try simp only[Act.put,s1,s2,s3]
      clear x0 x1 x2 x3 x4 x5;refine rd [9] (rc (fun K hK=>?_) .nil);go_simp;go_at_call 100;refine(zF7 a2 W.sn c2 (zHa W.zeK gB W.sn) _ (zH9 _ _ _) (zKg _ _ _ mD.out) nE (fun h0=>?_)).mono ?_
      · obtain⟨b,off,ha,hc⟩:=nD.out h0
        exact⟨b,off,ha,fun j u hj=>((zA gA nB).cell (zH (hc j u hj))).trans (hc j u hj)⟩
      rintro e bE ⟨kK,rfl,vC,oA,fD⟩;have oB:Below W0.heap.size W0 bE:=zA nB oA;obtain⟨bS,eA,fA,rfl,nS,lS,aG⟩:=zGA vC bE.heap.size (Nat.le_refl _);have zS:jG.heap.size<=bE.heap.size:=oA.size;have jF:=zCC vC fD;have rF:=iD.zeF oA;have eG:=dG.zeF oA;have pK:=oA.size;obtain⟨x0,x1,x2,x3,x4,x5⟩:=(HX.out.zeF oB).c
      (try go_wp2_with fail)
      refine hK.out _ _ (by(try dsimp only);go_keep) ?_;clear hK K hHeld;intro hHeld
      try simp only[Act.put,s1,s2,s3]
      clear x0 x1 x2 x3 x4 x5;refine rd [12] (rc (fun K hK=>?_) .nil);go_simp;go_at_call 101;refine(zDv a3 W.pn c3 (zEt W.zeJ sA W.pn) _ (zFS _ _ _) (zGs _ _ _ iC.out) oD (fun h0=>?_)).mono ?_
      · obtain⟨b,off,ha,hc⟩:=jC.out h0
        exact⟨b,off,ha,fun j u hj=>((zA gA oB).cell (zH (hc j u hj))).trans (hc j u hj)⟩
      rintro e cC ⟨lK,rfl,aD,jA,gD⟩;have pB:Below W0.heap.size W0 cC:=zA oB jA;obtain⟨bZ,bA,cA,rfl,nZ,lZ,iG⟩:=zDz aD cC.heap.size (Nat.le_refl _);have zZ:bE.heap.size<=cC.heap.size:=jA.size;have mF:=zCC aD gD;have sF:=rF.zeF jA;have bG:=aG.zeF jA;have lD:=eG.zeF jA;have kF:=jF.zeF jA;have rK:=jA.size;obtain⟨x0,x1,x2,x3,x4,x5⟩:=(HX.out.zeF pB).c
      (try go_wp2_with fail)
      refine hK.out _ _ (by(try dsimp only);go_keep) ?_;clear hK K hHeld;intro hHeld
      try simp only[Act.put,s1,s2,s3]
      clear x0 x1 x2 x3 x4 x5;refine tk 13 (h:=?_);refine rd [15] (rc (fun K hK=>?_) .nil);have hT:=zJ.put6 cC (q0.heap.size) (.slice b0 W.pool.n d0) (.slice b1 W.pool.hn d1) (.int .i64 W.time) (.int .i64 W.next) (.slice eA W.sn fA) (.slice bA W.pn cA);have mA:Below W0.heap.size W0 (put6 cC (q0.heap.size) (.slice b0 W.pool.n d0) (.slice b1 W.pool.hn d1) (.int .i64 W.time) (.int .i64 W.next) (.slice eA W.sn fA) (.slice bA W.pn cA)):=pB.trans (hT.zeF (B:=W0.heap.size) pB.size (fun k e=>by omega));have kV:=lD.put (.slice b0 W.pool.n d0) (.slice b1 W.pool.hn d1) (.int .i64 W.time) (.int .i64 W.next) (.slice eA W.sn fA) (.slice bA W.pn cA);obtain⟨⟨y0,kG⟩,⟨y1,lG⟩,⟨y2,mG⟩,⟨y3,nG⟩,⟨y4,oG⟩,⟨y5,pG⟩⟩:=lD;obtain⟨x0,x1,x2,x3,x4,x5⟩:=(HX.out.zeF mA).c;go_simp
      (try go_wp2_with fail)
      refine hK.out _ _ (by(try dsimp only);go_keep) ?_;clear hK K hHeld;intro hHeld
      try simp only[Act.put,s1,s2,s3]
      clear x0 x1 x2 x3 x4 x5;refine wpAnyH_done (by kernel_rfl) ?_ _;have dA:(put6 cC (q0.heap.size) (.slice b0 W.pool.n d0) (.slice b1 W.pool.hn d1) (.int .i64 W.time) (.int .i64 W.next) (.slice eA W.sn fA) (.slice bA W.pn cA)).heap.size=cC.heap.size:=(by simp only[World.size_setCell]);go_wp2_with fail
      go_meet
      case rel=>
        refine⟨_,_,_,_,_,_,_,_,_,_,_,bS,bZ,rfl,kV,sF.zeG hT (fun k e=>by omega),fun h0=>⟨(lS h0).1,by have:=lS h0;omega⟩,fun h0=>⟨(lZ h0).1,by have:=lZ h0;omega,fun h1=>by have:=lZ h0;have:=lS h1;omega⟩,nS,nZ,(bG.turned0 hT (fun q e h0 e2=>by have:=lS h0;omega)).weak (by rw[dA];omega),(iG.turned0 hT (fun q e h0 e2=>by have:=lZ h0;omega)).weak (by rw[dA];omega),by omega,fun h0=>by have:=lS h0;omega,fun h0=>by have:=lZ h0;omega,by omega,by omega,by omega,by rw[dA];omega,by rw[dA];omega,((((((kF.set _ _).set _ _).set _ _).set _ _).set _ _).set _ _),((((((mF.set _ _).set _ _).set _ _).set _ _).set _ _).set _ _),mA⟩
  case rest=>
    obtain⟨X,b0,d0,b1,d1,aS,cS,aZ,cZ,l,h,bS,bZ,rfl,kV,kP,hS,hZ,nS,nZ,kS,kZ,tJ,dH,eH,z1,z2,z3,z4,z5,rA,rB,fH⟩:=hcut;have cE:=yn kV;have sG:=yn kP;have mC:=yn hS;have fB:=yn hZ;have rI:=gA.size;have sJ:=vG.out;have HS:=yn kS;have HZ:=yn kZ;have aF:=kS.lt;have rC:=kZ.lt;clear kV kP hS hZ kS kZ HX bF mD iC nD jC;obtain⟨x0,x1,x2,x3,x4,x5⟩:=cE.out.c;go_wp2;clear x0 x1 x2 x3 x4 x5
    go_loopw [4,5,25] (fun _ _ i wr=>∃(k:Nat) (kb:Nat->Nat) (kv:Nat->Value),k<=W.sn/\i = .int .i64 k/\zBY wr bS wc.heap.size W.sn k W.zeK kb kv gB/\zAN wr X (.slice b0 W.pool.n d0) (.slice b1 W.pool.hn d1) (.int .i64 W.time) (.int .i64 W.next) (.slice aS W.sn cS) (.slice aZ W.pn cZ)/\wc.heap.size<=wr.heap.size/\zAM wr l h (.slice b0 W.pool.n d0) (.slice b1 W.pool.hn d1) W.pool/\zAj wr bZ wc.heap.size W.pn 0 W.zeJ (fun _=>0) sA sA/\(Below W0.heap.size W0 wr/\zFi wr 44 6 (.slice aS W.sn cS) W.sn/\zFi wr 41 8 (.slice aZ W.pn cZ) W.pn/\∀j,j<k->zFi wr 38 2 (kv j) (W.zeK j).dn)) (fun _ _ i _=>W.sn - (intOf i).toNat)
    case atStart=>exact⟨0,_,_,Nat.zero_le _,rfl,HS.out,cE.out,Nat.le_refl _,sG.out,HZ.out,fH,rA,rB,fun j hj=>absurd hj (Nat.not_lt_zero _)⟩
    case round=>
      obtain⟨k,kb,kv,hk,rfl,hh,hI⟩:=hrel;have Hh:=yn hh;have HI:=yn hI;clear hh hI;by_cases kA:k<W.sn
      · have vE:(k:Int)<(W.sn:Int):=by omega
        have lI:=HI.out.2.1;have nI:=Hh.out.lt (by omega);obtain rfl:=(mC.out (by omega)).1;obtain⟨-,da,dc,cB,-⟩:=id (jB.out k kA).1;have hD:=(jB.out k kA).1;rw[cB]at hD;have HD:=yn hD;clear hD;obtain⟨⟨h0,g0⟩,⟨h1,g1⟩,⟨h2,g2⟩,⟨h3,g3⟩,⟨h4,g4⟩,⟨h5,g5⟩⟩:=Hh.out.zeR k kA;rw[if_neg (by omega),cB]at h5;obtain⟨x0,x1,x2,x3,x4,x5⟩:=HI.out.1.c;have ha:=zD wr (.cells #[.string (W.zeK k).name,.int .i64 (W.zeK k).origin,.int .i64 (W.zeK k).zeL,.int .i64 (W.zeK k).rs,.int .i64 (W.zeK k).rb,.slice da (W.zeK k).dn dc] 44);have hy:=zAN.new wr (.string (W.zeK k).name) (.int .i64 (W.zeK k).origin) (.int .i64 (W.zeK k).zeL) (.int .i64 (W.zeK k).rs) (.int .i64 (W.zeK k).rb) (.slice da (W.zeK k).dn dc) 44;have cF:(wr.alloc (.cells #[.string (W.zeK k).name,.int .i64 (W.zeK k).origin,.int .i64 (W.zeK k).zeL,.int .i64 (W.zeK k).rs,.int .i64 (W.zeK k).rb,.slice da (W.zeK k).dn dc] 44)).heap.size=wr.heap.size+1:=World.size_alloc _ _;have HY:=yn hy;have HA:=yn ha;clear hy;go_wp2_with fail;clear h0 g0 h1 g1 h2 g2 h3 g3 h4 g4 h5 g5 x0 x1 x2 x3 x4 x5;have vA:=yn (Hh.out.zeF HA.out);have cD:=zA gA (zA HI.out.2.2.2.2.1 HA.out);have lC:=yn (HD.out.zeF cD);have tA:=yn (HI.out.1.zeF HA.out);have hV:wr.heap.size<wr.heap.size+1:=(by omega);generalize wr.alloc (.cells #[.string (W.zeK k).name,.int .i64 (W.zeK k).origin,.int .i64 (W.zeK k).zeL,.int .i64 (W.zeK k).rs,.int .i64 (W.zeK k).rb,.slice da (W.zeK k).dn dc] 44)=W1 at HY HA vA cD lC tA cF ⊢;obtain⟨x0,x1,x2,x3,x4,x5⟩:=tA.out.c;obtain⟨y0,y1,y2,y3,y4,y5⟩:=HY.out.c;obtain⟨⟨h0,g0⟩,⟨h1,g1⟩,⟨h2,g2⟩,⟨h3,g3⟩,⟨h4,g4⟩,⟨h5,g5⟩⟩:=vA.out.zeR k kA;rw[if_neg (by omega),cB]at h5;have e1:X≠bS:=dH (by omega);have jI:=e1.symm;have e2:wr.heap.size≠bS:=(by omega);have kI:=e2.symm;go_region_held3 (fun w'=>w'.cell? ⟨X,4,none⟩=some (.slice (some ⟨bS,0,none⟩) W.sn cS)/\w'.cell? ⟨wr.heap.size,5,none⟩=some (.slice da (W.zeK k).dn dc)) (go_keep)
          (first
            | (go_at_call 41
               refine(zHb _ (W.zeK k).dn lo hi (W.zeK k).ds (W.zeK k).db _ (lC.out.zeF (Below.refl _ _).drew) (dE.out k kA)).mono ?_;rintro e w2 ⟨⟨nv,nb,rfl,pA,bD,aC⟩,aB⟩;have aA:=qF aB;obtain⟨_,na,nc,rfl,_⟩:=id bD;obtain⟨z0,z1,z2,z3,z4,z5⟩:=(tA.out.zeF aA).c;obtain⟨v0,v1,v2,v3,v4,v5⟩:=(HY.out.zeF aA).c;obtain⟨⟨p0,kJ⟩,⟨p1,lJ⟩,⟨p2,mJ⟩,⟨p3,nJ⟩,⟨p4,oJ⟩,⟨p5,pJ⟩⟩:=(vA.out.zeF aA).zeR k kA;rw[if_neg (by omega),cB]at p5))
        have tI:=aA.size;have jE:=yn (vA.out.next kA (by omega) aA bD (fun h0=>by have:=aC h0;have hd:W1.drew.heap.size=W1.heap.size:=rfl;omega));have hT:=zJ.put w2 bS (k*6+5) (.slice na (W.zeK k).dn nc);have hB:=zA HA.out aA;have fE:=yn (HI.out.2.2.2.1);have eB:=yn (HI.out.2.2.2.2.2);have iE:=yn pA;clear pA;go_wp2;go_roundw
        case rel=>
          refine⟨k+1,_,_,by omega,by go_num,jE.out,(tA.out.zeF aA).zeG hT (fun e=>(dH (by omega)) e),by simp only[World.size_setCell];omega,(HI.out.2.2.1.zeF hB).zeG hT (fun q e=>by have:=(mC.out (by omega)).2;omega),(fE.out.zeF hB).zeG hT (fun q e=>⟨fun h0 e2=>by have:=(fB.out h0).2.2 (by omega);omega,by omega⟩) (Nat.zero_le _),(zA HI.out.2.2.2.2.1 hB).setCell (by show W0.heap.size<=bS;have:=(mC.out (by omega)).2;omega) _,(eB.out.1.zeF hB).set _ _,(eB.out.2.1.zeF hB).set _ _,fun j hj=>?_⟩;by_cases e:j=k
          · subst e
            simp only[if_true];exact iE.out.set _ _
          · simp only[if_neg e]
            exact((eB.out.2.2 j (by omega)).zeF hB).set _ _
        case measure=>simp[intOf];omega
      · obtain rfl:k=W.sn:=by omega
        generalize wr=wA at Hh HI ⊢;generalize kb=kbS at Hh;generalize kv=kvS at Hh HI;have mI:=HI.out.2.1;have iI:=yn Hh.out;have gI:=yn (show ∀j,j<W.sn->0<(W.zeK j).dn->wc.heap.size<=kbS j/\kbS j<wA.heap.size from Hh.out.zeO);have kC:=yn HI.out.1;have gE:=yn HI.out.2.2.1;have aH:=yn (HI.out.2.2.2.1.weak mI);have rE:=HI.out.2.2.2.2.1;have iB:=yn HI.out.2.2.2.2.2;clear Hh HI HZ HS cE sG fH;have HZ:=aH;clear aH;obtain⟨x0,x1,x2,x3,x4,x5⟩:=kC.out.c;go_wp2;clear x0 x1 x2 x3 x4 x5
        go_loopw [6,7,42] (fun _ _ i wr=>∃(k:Nat) (kb:Nat->Nat) (kv:Nat->Value),k<=W.pn/\i = .int .i64 k/\zAj wr bZ wA.heap.size W.pn k W.zeJ kb kv sA/\zAN wr X (.slice b0 W.pool.n d0) (.slice b1 W.pool.hn d1) (.int .i64 W.time) (.int .i64 W.next) (.slice aS W.sn cS) (.slice aZ W.pn cZ)/\wA.heap.size<=wr.heap.size/\zAM wr l h (.slice b0 W.pool.n d0) (.slice b1 W.pool.hn d1) W.pool/\zBY wr bS wc.heap.size W.sn W.sn W.zeK kbS kvS gB/\(Below W0.heap.size W0 wr/\zFi wr 44 6 (.slice aS W.sn cS) W.sn/\zFi wr 41 8 (.slice aZ W.pn cZ) W.pn/\(∀j,j<W.sn->zFi wr 38 2 (kvS j) (W.zeK j).dn)/\∀j,j<k->zFi wr 38 2 (kv j) (W.zeJ j).dn)) (fun _ _ i _=>W.pn - (intOf i).toNat)
        case atStart=>exact⟨0,_,_,Nat.zero_le _,rfl,HZ.out,kC.out,Nat.le_refl _,gE.out,iI.out,rE,iB.out.1,iB.out.2.1,iB.out.2.2,fun j hj=>absurd hj (Nat.not_lt_zero _)⟩
        case round=>
          obtain⟨k,kb,kv,hk,rfl,hh,hI⟩:=hrel;have Hh:=yn hh;have HI:=yn hI;clear hh hI;by_cases kA:k<W.pn
          · have vE:(k:Int)<(W.pn:Int):=by omega
            have lI:=HI.out.2.1;have nI:=Hh.out.lt (by omega);obtain rfl:=(fB.out (by omega)).1;obtain⟨-,da,dc,cB,-⟩:=id (kB.out k kA).1;have hD:=(kB.out k kA).1;rw[cB]at hD;have HD:=yn hD;clear hD;obtain⟨⟨h0,g0⟩,⟨h1,g1⟩,⟨h2,g2⟩,⟨h3,g3⟩,⟨h4,g4⟩,⟨h5,g5⟩,⟨h6,g6⟩,⟨h7,g7⟩⟩:=Hh.out.zeR k kA;rw[if_neg (by omega),cB]at h7;obtain⟨x0,x1,x2,x3,x4,x5⟩:=HI.out.1.c;have ha:=zD wr (.cells #[.int .i64 (W.zeJ k).id,.string (W.zeJ k).name,.string (W.zeJ k).set,.int .i64 (W.zeJ k).zeL,.int .i64 (W.zeJ k).time,.int .i64 (W.zeJ k).rs,.int .i64 (W.zeJ k).rb,.slice da (W.zeJ k).dn dc] 41);have hy:=zWI.new wr (.int .i64 (W.zeJ k).id) (.string (W.zeJ k).name) (.string (W.zeJ k).set) (.int .i64 (W.zeJ k).zeL) (.int .i64 (W.zeJ k).time) (.int .i64 (W.zeJ k).rs) (.int .i64 (W.zeJ k).rb) (.slice da (W.zeJ k).dn dc) 41;have cF:(wr.alloc (.cells #[.int .i64 (W.zeJ k).id,.string (W.zeJ k).name,.string (W.zeJ k).set,.int .i64 (W.zeJ k).zeL,.int .i64 (W.zeJ k).time,.int .i64 (W.zeJ k).rs,.int .i64 (W.zeJ k).rb,.slice da (W.zeJ k).dn dc] 41)).heap.size=wr.heap.size+1:=World.size_alloc _ _;have HY:=yn hy;have HA:=yn ha;clear hy;go_wp2_with fail;clear h0 g0 h1 g1 h2 g2 h3 g3 h4 g4 h5 g5 h6 g6 h7 g7 x0 x1 x2 x3 x4 x5;have vA:=yn (Hh.out.zeF HA.out);have cD:=zA gA (zA HI.out.2.2.2.2.1 HA.out);have lC:=yn (HD.out.zeF cD);have tA:=yn (HI.out.1.zeF HA.out);have hV:wr.heap.size<wr.heap.size+1:=(by omega);generalize wr.alloc (.cells #[.int .i64 (W.zeJ k).id,.string (W.zeJ k).name,.string (W.zeJ k).set,.int .i64 (W.zeJ k).zeL,.int .i64 (W.zeJ k).time,.int .i64 (W.zeJ k).rs,.int .i64 (W.zeJ k).rb,.slice da (W.zeJ k).dn dc] 41)=W1 at HY HA vA cD lC tA cF ⊢;obtain⟨x0,x1,x2,x3,x4,x5⟩:=tA.out.c;obtain⟨⟨y0,-⟩,⟨y1,-⟩,⟨y2,-⟩,⟨y3,-⟩,⟨y4,-⟩,⟨y5,-⟩,⟨y6,-⟩,⟨y7,-⟩⟩:=HY.out;obtain⟨⟨h0,g0⟩,⟨h1,g1⟩,⟨h2,g2⟩,⟨h3,g3⟩,⟨h4,g4⟩,⟨h5,g5⟩,⟨h6,g6⟩,⟨h7,g7⟩⟩:=vA.out.zeR k kA;rw[if_neg (by omega),cB]at h7;have e1:X≠bZ:=eH (by omega);have jI:=e1.symm;have e2:wr.heap.size≠bZ:=(by omega);have kI:=e2.symm;go_region_held3 (fun w'=>w'.cell? ⟨X,5,none⟩=some (.slice (some ⟨bZ,0,none⟩) W.pn cZ)/\w'.cell? ⟨wr.heap.size,7,none⟩=some (.slice da (W.zeJ k).dn dc)) (go_keep)
              (first
                | (go_at_call 41
                   refine(zHb _ (W.zeJ k).dn lo hi (W.zeJ k).ds (W.zeJ k).db _ (lC.out.zeF (Below.refl _ _).drew) (eE.out k kA)).mono ?_;rintro e w2 ⟨⟨nv,nb,rfl,pA,bD,aC⟩,aB⟩;have aA:=qF aB;obtain⟨_,na,nc,rfl,_⟩:=id bD;obtain⟨z0,z1,z2,z3,z4,z5⟩:=(tA.out.zeF aA).c;obtain⟨⟨v0,-⟩,⟨v1,-⟩,⟨v2,-⟩,⟨v3,-⟩,⟨v4,-⟩,⟨v5,-⟩,⟨v6,-⟩,⟨v7,-⟩⟩:=HY.out.zeF aA;obtain⟨⟨p0,kJ⟩,⟨p1,lJ⟩,⟨p2,mJ⟩,⟨p3,nJ⟩,⟨p4,oJ⟩,⟨p5,pJ⟩,⟨p6,vJ⟩,⟨p7,aK⟩⟩:=(vA.out.zeF aA).zeR k kA;rw[if_neg (by omega),cB]at p7))
            have tI:=aA.size;have jE:=yn (vA.out.next kA (by omega) aA bD (fun h0=>by have:=aC h0;have hd:W1.drew.heap.size=W1.heap.size:=rfl;omega));have hT:=zJ.put w2 bZ (k*8+7) (.slice na (W.zeJ k).dn nc);have hB:=zA HA.out aA;have fE:=yn (HI.out.2.2.2.1);have eB:=yn (HI.out.2.2.2.2.2);have iE:=yn pA;clear pA;go_wp2;go_roundw
            case rel=>
              refine⟨k+1,_,_,by omega,by go_num,jE.out,(tA.out.zeF aA).zeG hT (fun e=>(eH (by omega)) e),by simp only[World.size_setCell];omega,(HI.out.2.2.1.zeF hB).zeG hT (fun q e=>by have:=(fB.out (by omega)).2;omega),(fE.out.zeF hB).zeG hT (fun q e=>⟨fun h0 e2=>by have:=(fB.out (by omega)).2.2 h0;omega,by omega⟩) (Nat.le_refl _),(zA HI.out.2.2.2.2.1 hB).setCell (by show W0.heap.size<=bZ;have:=(fB.out (by omega)).2;omega) _,(eB.out.1.zeF hB).set _ _,(eB.out.2.1.zeF hB).set _ _,fun j hj=>((eB.out.2.2.1 j hj).zeF hB).set _ _,fun j hj=>?_⟩;by_cases e:j=k
              · subst e
                simp only[if_true];exact iE.out.set _ _
              · simp only[if_neg e]
                exact((eB.out.2.2.2 j (by omega)).zeF hB).set _ _
            case measure=>simp[intOf];omega
          · obtain rfl:k=W.pn:=by omega
            have sB:=HI.out.2.2.2.2.1;have tG:=yn (HR.out.zeF sB);obtain⟨x0,x1,x2,x3,x4,x5⟩:=HI.out.1.c;obtain⟨⟨r0,bK⟩,⟨r1,cK⟩,⟨r2,dK⟩,⟨r3,eK⟩,⟨r4,fK⟩,⟨r5,gK⟩⟩:=tG.out;go_wp2;have hT:=zJ.put6 wr (w.heap.size+1) (.slice b0 W.pool.n d0) (.slice b1 W.pool.hn d1) (.int .i64 W.time) (.int .i64 W.next) (.slice aS W.sn cS) (.slice aZ W.pn cZ);have dC:=tG.out.put (.slice b0 W.pool.n d0) (.slice b1 W.pool.hn d1) (.int .i64 W.time) (.int .i64 W.next) (.slice aS W.sn cS) (.slice aZ W.pn cZ);have oI:=(HI.out.2.2.2.1.own rG.out.1 (fun h0=>(mC.out h0).1) nS (fun i hi=>(jB.out i hi).2));have pI:=(Hh.out.own rG.out.2 (fun h0=>(fB.out h0).1) nZ (fun i hi=>(kB.out i hi).2));have sI:=Hh.out.zeO;have vD:(put6 wr (w.heap.size+1) (.slice b0 W.pool.n d0) (.slice b1 W.pool.hn d1) (.int .i64 W.time) (.int .i64 W.next) (.slice aS W.sn cS) (.slice aZ W.pn cZ)).heap.size=wr.heap.size:=(by simp only[World.size_setCell]);have rJ:=HI.out.2.1;have zS:∀q,zJd bS kbS W.sn W.zeK q->h<=q/\q<wA.heap.size/\(q<wc.heap.size->0<W.sn/\q=bS):=by
              rintro q (⟨h0,rfl⟩ | ⟨i,hi,h0,rfl⟩)
              · exact⟨(mC.out h0).2,by have:=aF h0;omega,fun _=>⟨h0,rfl⟩⟩
              · have:=gI.out i hi h0;exact⟨by omega,by omega,fun hx=>by omega⟩
            have zZ:∀q,zKb bZ kb W.pn W.zeJ q->h<=q/\q<wr.heap.size/\(q<wA.heap.size->0<W.pn/\q=bZ):=by
              rintro q (⟨h0,rfl⟩ | ⟨i,hi,h0,rfl⟩)
              · exact⟨(fB.out h0).2.1,by have:=rC h0;omega,fun _=>⟨h0,rfl⟩⟩
              · have:=sI i hi h0;exact⟨by omega,by omega,fun hx=>by omega⟩
            refine bodyPost_ret (v:=.agg #[.slice b0 W.pool.n d0,.slice b1 W.pool.hn d1,.int .i64 W.time,.int .i64 W.next,.slice aS W.sn cS,.slice aZ W.pn cZ]) (by simp[results,Tryz.results53,go_sem,dC.1.1,dC.2.1.1,dC.2.2.1.1,dC.2.2.2.1.1,dC.2.2.2.2.1.1,dC.2.2.2.2.2.1]) rfl ⟨_,_,_,_,rfl,?_,?_⟩
            · refine⟨fun q=>l<=q/\q<h,fun q=>zJd bS kbS W.sn W.zeK q,fun q=>zKb bZ kb W.pn W.zeJ q,⟨?_,?_,?_,?_,?_,?_⟩,?_⟩
              · exact(HI.out.2.2.1.isIn (S:=fun q=>l<=q/\q<h) (fun k h1 h2=>⟨h1,h2⟩)).zeG hT (fun k hk e=>by omega)
              · exact zEV.put6 ⟨bS,kbS,kvS,oI,HI.out.2.2.2.1.zeN,fun q hq=>hq,HI.out.2.2.2.2.2.1,HI.out.2.2.2.2.2.2.2.1⟩ _ _ _ _ _ _ _ (fun e=>by have:=zS _ e;omega)
              · exact zDO.put6 ⟨bZ,kb,kv,pI,Hh.out.zeN,fun q hq=>hq,HI.out.2.2.2.2.2.2.1,HI.out.2.2.2.2.2.2.2.2⟩ _ _ _ _ _ _ _ (fun e=>by have:=zZ _ e;omega)
              · exact fun k hk e=>by have:=zS k e;omega
              · exact fun k hk e=>by have:=zZ k e;omega
              · intro k hk e
                have h1:=zS k hk;have h2:=(zZ k e).2.2 h1.2.1;have h3:=h1.2.2 (by have:=rC h2.1;omega);have:=(fB.out h2.1).2.2 h3.1;omega
              · intro k hk
                rw[vD];rcases hk with hk | hk | hk
                · omega
                · have:=zS k hk;omega
                · have:=zZ k hk;omega
            · exact(zA gA sB).trans (hT.zeF (B:=w.heap.size) (zA gA sB).size (fun k e=>by omega))
theorem zBZ.nth{w:World}{bs n:Nat}{kb:Nat->Nat}{kv:Nat->Value}{v:Value}{f:Nat->qi}(h:zBZ w bs kb kv v n f){k:Nat}(hk:k<n):∃off c,v = .slice (some ⟨bs,off,none⟩) n c/\zDs w bs (off+k*6) (kb k) (kv k) (f k):=by
 obtain⟨_,a,c,hv,_,hx⟩:=h;obtain⟨off,ha,h⟩:=hx (by omega);exact⟨off,c,by rw[hv,ha],h k hk⟩
def del{α : Type}(f:Nat->α)(k:Nat):Nat->α:=fun i=>if i<k then f i else f (i+1)
def zJG(k j m:Nat):Nat:=if m<k then m else if m+1<j then m+1 else m
theorem zIb{b:Nat}{x:Nat}{u:Value}:∀(l:List Value) (o:Nat) (w:World),zY w b x u->x<o->zY (w.setCells b o l) b x u
 | [],_,w,h,_=>h
 | v :: l,o,w,h,hx=>zIb l (o+1) _ (h.other _ (Or.inr (by omega))) (by omega)
def zXs(W:zB)(x:Int)(i:Nat):Prop:=i<W.pn/\(W.zeJ i).zeL=x/\(∀j,j<W.pn->j≠i->(W.zeJ j).zeL≠x)/\∀j,j<W.sn->(W.zeK j).zeL≠x
def zXt(W:zB)(x:Int)(i:Nat):Prop:=i<W.sn/\(W.zeK i).zeL=x/\(∀j,j<W.sn->j≠i->(W.zeK j).zeL≠x)/\∀j,j<W.pn->(W.zeJ j).zeL≠x
theorem zGM{f:Nat->Int}{x:Int}:∀{n:Nat},zGt f x n=0->∀j,j<n->f j≠x
 | 0,_,j,hj=>absurd hj (Nat.not_lt_zero _)
 | n+1,h,j,hj=>by
  by_cases e:f n=x
  ·rw[zRa e]at h;omega
  ·rw[zUq e]at h;by_cases aA:j=n
   ·rw[aA];exact e
   ·exact zGM h j (by omega)
theorem zRZ{f:Nat->Int}{x:Int}{n i:Nat}(hi:i<n)(h:f i=x):1<=zGt f x n:=by
 rcases Nat.eq_zero_or_pos (zGt f x n)with h0 | h0
 ·exact absurd h (zGM h0 i hi)
 ·exact h0
theorem zMX{f:Nat->Int}{x:Int}:∀{n:Nat},zGt f x n=1->∃i,i<n/\f i=x/\∀j,j<n->j≠i->f j≠x
 | 0,h=>absurd h (by simp[zGt])
 | n+1,h=>by
  by_cases e:f n=x
  ·rw[zRa e]at h;exact⟨n,by omega,e,fun j hj aA=>zGM (n:=n) (by omega) j (by omega)⟩
  ·rw[zUq e]at h;obtain⟨i,hi,h1,h2⟩:=zMX h;refine⟨i,by omega,h1,fun j hj aA=>?_⟩;by_cases bA:j=n
   ·rw[bA];exact e
   ·exact h2 j (by omega) aA
theorem zbR{W:zB}{x:Int}(h:zVe W x=1):(∃i,zXs W x i)\/∃i,zXt W x i:=by
 unfold zVe at h;rcases Nat.eq_zero_or_pos (zGt (fun i=>(W.zeK i).zeL) x W.sn)with h0 | h0
 ·rw[h0,Nat.zero_add]at h;obtain⟨i,hi,h1,h2⟩:=zMX h;exact Or.inl ⟨i,hi,h1,h2,zGM h0⟩
 ·obtain⟨i,hi,h1,h2⟩:=zMX (f:=fun i=>(W.zeK i).zeL) (x:=x) (n:=W.sn) (by omega);exact Or.inr ⟨i,hi,h1,h2,zGM (f:=fun i=>(W.zeJ i).zeL) (n:=W.pn) (by omega)⟩
noncomputable def sdY(W:zB)(g:zl)(n:Nat)(f h:Nat->Int):List (Int×Int):=ye f h (zE W g.zeL).time n
noncomputable def sdO(W:zB)(g:zl)(n:Nat)(f h:Nat->Int):List (Int×Int):=zD4 f h (zE W g.zeL).time n
noncomputable def sdD(W:zB)(g:zl)(n:Nat)(f h:Nat->Int):List (Int×Int):=zD6 g.dn g.ds g.db ++ sdO W g n f h
noncomputable def zQx(W:zB)(g s:zl):zl:={s with zeL:=g.zeL,dn:=(sdD W g s.dn s.ds s.db).length,ds:=zh (sdD W g s.dn s.ds s.db),db:=zn (sdD W g s.dn s.ds s.db)}
noncomputable def zV4(W:zB)(g:zl)(s:qi):qi:={s with zeL:=g.zeL,dn:=(sdD W g s.dn s.ds s.db).length,ds:=zh (sdD W g s.dn s.ds s.db),db:=zn (sdD W g s.dn s.ds s.db)}
noncomputable def zdG(W:zB)(k i:Nat):Nat->zl:=fun j=>if j=i then zQx W (W.zeJ k) (W.zeJ i)else W.zeJ j
noncomputable def zdH(W:zB)(k i:Nat):Nat->qi:=fun j=>if j=i then zV4 W (W.zeJ k) (W.zeK i)else W.zeK j
noncomputable def zSl(W:zB)(k i:Nat):List (Int×Int):=sdY W (W.zeJ k) (W.zeJ i).dn (W.zeJ i).ds (W.zeJ i).db
noncomputable def zOX(W:zB)(k i:Nat):List (Int×Int):=sdY W (W.zeJ k) (W.zeK i).dn (W.zeK i).ds (W.zeK i).db
noncomputable def zd0(W:zB)(k i:Nat):zB:={W with pool:=zT W.pool (zSl W k i),pn:=W.pn - 1,zeJ:=del (zdG W k i) k}
noncomputable def zd1(W:zB)(k i:Nat):zB:={W with pool:=zT W.pool (zOX W k i),zeK:=zdH W k i,pn:=W.pn - 1,zeJ:=del W.zeJ k}
theorem zXQ{n:Nat}{f g:Nat->Int}{x:Int×Int}(h:x∈zD6 n f g):∃j,j<n/\f j=x.1/\g j=x.2:=by
 unfold zD6 at h;obtain⟨j,hj,rfl⟩:=List.mem_map.1 h;exact⟨j,List.mem_range.1 hj,rfl,rfl⟩
theorem zO2{W:zB}(hS:qo W){i:Nat}(hi:i<memN W)(t:Int):zA4 (zI W i).dn (zI W i).ds (zI W i).db/\zBa W.pool (ye (zI W i).ds (zI W i).db t (zI W i).dn):=by
 have hD:zCF W i:=by
  by_cases hp:i<W.pn
  ·exact hS.dead i hp
  ·have:=(hS.zeK (i - W.pn) (by unfold memN at hi;omega)).2
   rwa [show W.pn+(i - W.pn)=i by omega]at this
 obtain⟨h1,-,-,bA⟩:=hD;refine⟨h1,?_⟩;have hH:zBa W.pool (zD6 (zI W i).dn (zI W i).ds (zI W i).db):=by
  refine⟨hS.right,fun x hx=>?_,?_⟩
  ·obtain⟨j,hj,e1,e2⟩:=zXQ hx;have hm:=zFd.1 (bA j hj);rw[e1,e2]at hm;unfold zB3 at hm;have:=zBc hS.right (zNa hS.zeJ (zI W i).zeL) (List.mem_filter.1 hm).1;exact⟨this.1,this.2.2⟩
  ·unfold zD6;rw[List.map_map];unfold List.Nodup;rw[List.pairwise_map];refine List.pairwise_iff_getElem.2 fun a b ha hb aA=>?_
   rw[List.length_range]at ha hb;rw[List.getElem_range,List.getElem_range];exact fun e=>h1.2.2 b hb a aA e
 exact hH.sub (zIV _ _ _ _)
end Go.Proofs.YtjganmlaooofoaaGreatDoor
