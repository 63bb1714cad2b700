/- A part of the proof. -/
import Derived.Test.YtbplmbafodlboaaGreatDoorC27
set_option linter.unusedVariables false
set_option maxRecDepth 20000
set_option maxHeartbeats 4000000
namespace Go.Proofs.YtbplmbafodlboaaGreatDoor
open Go.RowKit Go.Maps
theorem zLq(v0 v1 v2 v3:Value)(lo hi:Nat)(W:zB)(w:World)(h:zAF w lo hi v0 v1 v2 v3 W)(lE:yD W.pool<=1048576)(tD:W.sn<=1048576)(vC:W.pn<=1048576)(sD:zGQ W):Calls Tryz.prog 112 #[zB8 v0 v1 v2 v3 W] w (zEN W w):=by
  obtain⟨a0,c0,a1,c1,a2,c2,a3,c3,rfl,rfl,rfl,rfl⟩:=h.zc4;have Hp:=yH h;obtain⟨cB,pD,bG⟩:=h.zc1.values;obtain⟨pA,rD,cG⟩:=h.zcy.values;have eB:=yH pD;have fB:=yH rD;have sC:=yH (show ∀i,i<W.sn->(cB i).oneCell'=true from fun i hi=>by obtain⟨-,a,c,e,-⟩:=(pD i hi).1;rw[e];rfl);have vB:=yH (show ∀i,i<W.pn->(pA i).oneCell'=true from fun i hi=>by obtain⟨-,a,c,e,-⟩:=(rD i hi).1;rw[e];rfl);have tC:=yH bG;have aC:=yH cG;have kD:=yH sD.1;have lD:=yH sD.2;have rF:=yH (show W.sn<=maxLen/\W.pn<=maxLen from⟨h.zc1.1,h.zcy.1⟩);clear h pD rD bG cG sD;have gG:∀A B:World,A=w.alloc (.cells #[.slice a0 W.pool.n c0,.slice a1 W.pool.hn c1,.int .i64 W.time,.int .i64 W.next,.slice a2 W.sn c2,.slice a3 W.pn c3] 30)->B=A.alloc (.cells #[.slice none 0 0,.slice none 0 0,.int .i64 0,.int .i64 0,.slice none 0 0,.slice none 0 0] 30)->zAM B w.heap.size (.slice a0 W.pool.n c0) (.slice a1 W.pool.hn c1) (.int .i64 W.time) (.int .i64 W.next) (.slice a2 W.sn c2) (.slice a3 W.pn c3)/\zAM B (w.heap.size+1) (.slice none 0 0) (.slice none 0 0) (.int .i64 0) (.int .i64 0) (.slice none 0 0) (.slice none 0 0)/\Below w.heap.size w B/\B.heap.size=w.heap.size+2:=by
    rintro A B ea eb;have b1:=zD w (.cells #[.slice a0 W.pool.n c0,.slice a1 W.pool.hn c1,.int .i64 W.time,.int .i64 W.next,.slice a2 W.sn c2,.slice a3 W.pn c3] 30);have x1:=zAM.new w (.slice a0 W.pool.n c0) (.slice a1 W.pool.hn c1) (.int .i64 W.time) (.int .i64 W.next) (.slice a2 W.sn c2) (.slice a3 W.pn c3) 30;have z1:A.heap.size=w.heap.size+1:=(by rw[ea];exact World.size_alloc _ _);rw[<-ea]at b1 x1;have b2:=zD A (.cells #[.slice none 0 0,.slice none 0 0,.int .i64 0,.int .i64 0,.slice none 0 0,.slice none 0 0] 30);have x2:=zAM.new A (.slice none 0 0) (.slice none 0 0) (.int .i64 0) (.int .i64 0) (.slice none 0 0) (.slice none 0 0) 30;have z2:B.heap.size=w.heap.size+2:=(by rw[eb,World.size_alloc,z1]);rw[<-eb,z1]at x2;rw[<-eb]at b2;exact⟨x1.zcw b2,x2,zA b1 b2,z2⟩
  obtain⟨hx,hr,gA,fD⟩:=gG _ _ rfl rfl;have HX:=yH hx;have HR:=yH hr;have vF:=yH fD;clear gG hx hr fD;go_enter Tryz.func112,Tryz.ntmps112;go_upto_region 1 with fail;generalize (w.alloc (.cells #[.slice a0 W.pool.n c0,.slice a1 W.pool.hn c1,.int .i64 W.time,.int .i64 W.next,.slice a2 W.sn c2,.slice a3 W.pn c3] 30)).alloc (.cells #[.slice none 0 0,.slice none 0 0,.int .i64 0,.int .i64 0,.slice none 0 0,.slice none 0 0] 30)=W0 at HX HR vF gA ⊢
  go_cut [3] (fun v wc=>∃(X:Nat) (b0:Option Addr) (d0:Nat) (b1:Option Addr) (d1:Nat) (aS:Option Addr) (cS:Nat) (aZ:Option Addr) (cZ:Nat) (l h bS bZ:Nat),v = .pointer (some ⟨X,0,none⟩)/\zAM wc X (.slice b0 W.pool.n d0) (.slice b1 W.pool.hn d1) (.int .i64 W.time) (.int .i64 W.next) (.slice aS W.sn cS) (.slice aZ W.pn cZ)/\zAE wc l h (.slice b0 W.pool.n d0) (.slice b1 W.pool.hn d1) W.pool/\(0<W.sn->aS=some ⟨bS,0,none⟩/\h<=bS)/\(0<W.pn->aZ=some ⟨bZ,0,none⟩/\h<=bZ/\(0<W.sn->bS<bZ))/\W.sn<=cS/\W.pn<=cZ/\zBb wc bS wc.heap.size W.sn 0 W.zc1 (fun _=>0) cB cB/\zAq wc bZ wc.heap.size W.pn 0 W.zcy (fun _=>0) pA pA/\(X<l\/h<=X)/\(0<W.sn->X≠bS)/\(0<W.pn->X≠bZ)/\W0.heap.size<=X/\W0.heap.size<=l/\l<=h/\X<wc.heap.size/\h<=wc.heap.size/\Below W0.heap.size W0 wc)
  case first=>
    obtain⟨x0,x1,x2,x3,x4,x5⟩:=HX.out.c;refine wp_region_held_drew (S:=(fun w'=>w'.cell? ⟨w.heap.size,0,none⟩=some (.slice a0 W.pool.n c0)/\w'.cell? ⟨w.heap.size,1,none⟩=some (.slice a1 W.pool.hn c1)/\w'.cell? ⟨w.heap.size,2,none⟩=some (.int .i64 W.time)/\w'.cell? ⟨w.heap.size,3,none⟩=some (.int .i64 W.next)/\w'.cell? ⟨w.heap.size,4,none⟩=some (.slice a2 W.sn c2)/\w'.cell? ⟨w.heap.size,5,none⟩=some (.slice a3 W.pn c3))) (by kernel_rfl) ?_ (fun hHeld=>?_)
    · (try dsimp only)
      go_keep
    have sB:Below W0.heap.size W0 W0.drew:=(Below.refl _ _).drew;clear x0 x1 x2 x3 x4 x5;generalize W0.drew=q0 at sB hHeld ⊢;refine tk 0 (h:=tk 1 (h:=tk 3 (h:=tk 4 (h:=tk 5 (h:=tk 6 (h:=tk 7 (h:=tk 8 (h:=tk 10 (h:=tk 11 (h:=?_))))))))));refine rd [2,14] (rc (fun K hK=>?_) (rc (fun K hK=>?_) .nil))
    · go_simp
      go_at_call 133;refine(zFp _ _ lo hi W.pool _ ((Hp.out.pool.zcw gA).zcw sB) lE).mono ?_;rintro e q1 ⟨u0,u1,rfl,nE,cE⟩;obtain⟨b0,d0,b1,d1,rfl,rfl⟩:=nE.zc4;have zP:W0.heap.size<=q0.heap.size/\q0.heap.size<=q1.heap.size:=⟨sB.size,cE.size⟩;have eC:Below W0.heap.size W0 q1:=zA sB cE;have y1:=cE.size;obtain⟨x0,x1,x2,x3,x4,x5⟩:=(HX.out.zcw eC).c
      (try go_wp2_with fail)
      refine hK.out _ _ (by(try dsimp only);go_keep) ?_;clear hK K hHeld;intro hHeld
      try simp only[Act.put,s1,s2,s3]
      clear x0 x1 x2 x3 x4 x5;refine rd [9,14] (rc (fun K hK=>?_) (rc (fun K hK=>?_) .nil))
      · go_simp
        go_at_call 134;refine(zEJ a2 W.sn c2 (zG9 W.zc1 cB W.sn) _ (zHh _ _ _) (zJy _ _ _ sC.out) tD (fun h0=>?_)).mono ?_
        · obtain⟨b,off,ha,hc⟩:=tC.out h0
          exact⟨b,off,ha,fun j u hj=>((zA gA eC).cell (zH (hc j u hj))).trans (hc j u hj)⟩
        rintro e q2 ⟨v2,rfl,kH,dD,-⟩;have tA:Below W0.heap.size W0 q2:=zA eC dD;obtain⟨bS,eA,fA,rfl,nS,lS,mG⟩:=zFt kH q2.heap.size (Nat.le_refl _);have zS:q1.heap.size<=q2.heap.size:=dD.size;have iG:=nE.zcw dD;have y2:=dD.size;obtain⟨x0,x1,x2,x3,x4,x5⟩:=(HX.out.zcw tA).c
        (try go_wp2_with fail)
        refine hK.out _ _ (by(try dsimp only);go_keep) ?_;clear hK K hHeld;intro hHeld
        try simp only[Act.put,s1,s2,s3]
        clear x0 x1 x2 x3 x4 x5;refine rd [12,14] (rc (fun K hK=>?_) (rc (fun K hK=>?_) .nil))
        · go_simp
          go_at_call 135;refine(zCv a3 W.pn c3 (zEf W.zcy pA W.pn) _ (zFE _ _ _) (zGW _ _ _ vB.out) vC (fun h0=>?_)).mono ?_
          · obtain⟨b,off,ha,hc⟩:=aC.out h0
            exact⟨b,off,ha,fun j u hj=>((zA gA tA).cell (zH (hc j u hj))).trans (hc j u hj)⟩
          rintro e q3 ⟨v3,rfl,lH,iC,-⟩;have vD:Below W0.heap.size W0 q3:=zA tA iC;obtain⟨bZ,bA,cA,rfl,nZ,lZ,vH⟩:=zDh lH q3.heap.size (Nat.le_refl _);have zZ:q2.heap.size<=q3.heap.size:=iC.size;have pH:=iG.zcw iC;have sH:=mG.zcw iC;have y3:=iC.size;obtain⟨x0,x1,x2,x3,x4,x5⟩:=(HX.out.zcw vD).c
          (try go_wp2_with fail)
          refine hK.out _ _ (by(try dsimp only);go_keep) ?_;clear hK K hHeld;intro hHeld
          try simp only[Act.put,s1,s2,s3]
          clear x0 x1 x2 x3 x4 x5;refine tk 13 (h:=?_);refine rd [14] (rc (fun K hK=>?_) .nil);go_simp;have jC:=zD q3 (.cells #[.slice none 0 0,.slice none 0 0,.int .i64 0,.int .i64 0,.slice none 0 0,.slice none 0 0] 30);have aD:Below W0.heap.size W0 (q3.alloc (.cells #[.slice none 0 0,.slice none 0 0,.int .i64 0,.int .i64 0,.slice none 0 0,.slice none 0 0] 30)):=zA vD jC;have fF:zAM (q3.alloc (.cells #[.slice none 0 0,.slice none 0 0,.int .i64 0,.int .i64 0,.slice none 0 0,.slice none 0 0] 30)) q3.heap.size (.slice none 0 0) (.slice none 0 0) (.int .i64 0) (.int .i64 0) (.slice none 0 0) (.slice none 0 0):=zAM.new _ _ _ _ _ _ _ _;have zV:W0.heap.size<=q3.heap.size/\q3.heap.size+1=(q3.alloc (.cells #[.slice none 0 0,.slice none 0 0,.int .i64 0,.int .i64 0,.slice none 0 0,.slice none 0 0] 30)).heap.size:=⟨vD.size,(World.size_alloc _ _).symm⟩;have jG:=pH.zcw jC;have nG:=sH.zcw jC;have tG:=vH.zcw jC;obtain⟨x0,x1,x2,x3,x4,x5⟩:=(HX.out.zcw aD).c
          (try go_wp2_with fail)
          refine hK.out _ _ (by(try dsimp only);go_keep) ?_;clear hK K hHeld;intro hHeld
          try simp only[Act.put,s1,s2,s3]
          clear x0 x1 x2 x3 x4 x5;generalize q3.alloc (.cells #[.slice none 0 0,.slice none 0 0,.int .i64 0,.int .i64 0,.slice none 0 0,.slice none 0 0] 30)=q4 at aD zV jG nG tG fF hHeld jC ⊢;refine rd [15] (rc (fun K hK=>?_) .nil);have hT:=zJ.put6 q4 (q3.heap.size) (.slice b0 W.pool.n d0) (.slice b1 W.pool.hn d1) (.int .i64 W.time) (.int .i64 W.next) (.slice eA W.sn fA) (.slice bA W.pn cA);have mA:Below W0.heap.size W0 (put6 q4 (q3.heap.size) (.slice b0 W.pool.n d0) (.slice b1 W.pool.hn d1) (.int .i64 W.time) (.int .i64 W.next) (.slice eA W.sn fA) (.slice bA W.pn cA)):=aD.trans (hT.zcw (B:=W0.heap.size) aD.size (fun k e=>by omega));have kV:=fF.put (.slice b0 W.pool.n d0) (.slice b1 W.pool.hn d1) (.int .i64 W.time) (.int .i64 W.next) (.slice eA W.sn fA) (.slice bA W.pn cA);obtain⟨⟨y0,kF⟩,⟨y1,lF⟩,⟨y2,mF⟩,⟨y3,nF⟩,⟨y4,oF⟩,⟨y5,pF⟩⟩:=fF;obtain⟨x0,x1,x2,x3,x4,x5⟩:=(HX.out.zcw mA).c;go_simp
          (try go_wp2_with fail)
          refine hK.out _ _ (by(try dsimp only);go_keep) ?_;clear hK K hHeld;intro hHeld
          try simp only[Act.put,s1,s2,s3]
          clear x0 x1 x2 x3 x4 x5;refine wpAnyH_done (by kernel_rfl) ?_ _;have dA:(put6 q4 (q3.heap.size) (.slice b0 W.pool.n d0) (.slice b1 W.pool.hn d1) (.int .i64 W.time) (.int .i64 W.next) (.slice eA W.sn fA) (.slice bA W.pn cA)).heap.size=q4.heap.size:=(by simp only[World.size_setCell]);go_wp2_with fail
          go_meet
          case rel=>
            refine⟨_,_,_,_,_,_,_,_,_,_,_,bS,bZ,rfl,kV,jG.zcx hT (fun k e=>by omega),fun h0=>⟨(lS h0).1,by have:=lS h0;omega⟩,fun h0=>⟨(lZ h0).1,by have:=lZ h0;omega,fun h1=>by have:=lZ h0;have:=lS h1;omega⟩,nS,nZ,(nG.turned0 hT (fun q e h0 e2=>by have:=lS h0;omega)).weak (by rw[dA];omega),(tG.turned0 hT (fun q e h0 e2=>by have:=lZ h0;omega)).weak (by rw[dA];omega),by omega,fun h0=>by have:=lS h0;omega,fun h0=>by have:=lZ h0;omega,by omega,by omega,by omega,by rw[dA];omega,by rw[dA];omega,mA⟩
        · go_simp
          have eD:=zD q2 (.cells #[.slice none 0 0,.slice none 0 0,.int .i64 0,.int .i64 0,.slice none 0 0,.slice none 0 0] 30);have bD:Below W0.heap.size W0 (q2.alloc (.cells #[.slice none 0 0,.slice none 0 0,.int .i64 0,.int .i64 0,.slice none 0 0,.slice none 0 0] 30)):=zA tA eD;have pG:zAM (q2.alloc (.cells #[.slice none 0 0,.slice none 0 0,.int .i64 0,.int .i64 0,.slice none 0 0,.slice none 0 0] 30)) q2.heap.size (.slice none 0 0) (.slice none 0 0) (.int .i64 0) (.int .i64 0) (.slice none 0 0) (.slice none 0 0):=zAM.new _ _ _ _ _ _ _ _;have zV:W0.heap.size<=q2.heap.size/\q2.heap.size+1=(q2.alloc (.cells #[.slice none 0 0,.slice none 0 0,.int .i64 0,.int .i64 0,.slice none 0 0,.slice none 0 0] 30)).heap.size:=⟨tA.size,(World.size_alloc _ _).symm⟩;have kG:=iG.zcw eD;have oG:=mG.zcw eD;obtain⟨x0,x1,x2,x3,x4,x5⟩:=(HX.out.zcw bD).c
          (try go_wp2_with fail)
          refine hK.out _ _ (by(try dsimp only);go_keep) ?_;clear hK K hHeld;intro hHeld
          try simp only[Act.put,s1,s2,s3]
          clear x0 x1 x2 x3 x4 x5;generalize q2.alloc (.cells #[.slice none 0 0,.slice none 0 0,.int .i64 0,.int .i64 0,.slice none 0 0,.slice none 0 0] 30)=q6 at bD zV kG oG pG hHeld eD ⊢;refine rd [12] (rc (fun K hK=>?_) .nil);go_simp;go_at_call 135;refine(zCv a3 W.pn c3 (zEf W.zcy pA W.pn) _ (zFE _ _ _) (zGW _ _ _ vB.out) vC (fun h0=>?_)).mono ?_
          · obtain⟨b,off,ha,hc⟩:=aC.out h0
            exact⟨b,off,ha,fun j u hj=>((zA gA bD).cell (zH (hc j u hj))).trans (hc j u hj)⟩
          rintro e q7 ⟨v7,rfl,mH,tB,-⟩;have aE:Below W0.heap.size W0 q7:=zA bD tB;obtain⟨bZ,bA,cA,rfl,nZ,lZ,aI⟩:=zDh mH q7.heap.size (Nat.le_refl _);have zZ:q6.heap.size<=q7.heap.size:=tB.size;have rH:=kG.zcw tB;have tH:=oG.zcw tB;have rG:=pG.zcw tB;have y7:=tB.size;obtain⟨x0,x1,x2,x3,x4,x5⟩:=(HX.out.zcw aE).c
          (try go_wp2_with fail)
          refine hK.out _ _ (by(try dsimp only);go_keep) ?_;clear hK K hHeld;intro hHeld
          try simp only[Act.put,s1,s2,s3]
          clear x0 x1 x2 x3 x4 x5;refine tk 13 (h:=?_);refine rd [15] (rc (fun K hK=>?_) .nil);have hT:=zJ.put6 q7 (q2.heap.size) (.slice b0 W.pool.n d0) (.slice b1 W.pool.hn d1) (.int .i64 W.time) (.int .i64 W.next) (.slice eA W.sn fA) (.slice bA W.pn cA);have mA:Below W0.heap.size W0 (put6 q7 (q2.heap.size) (.slice b0 W.pool.n d0) (.slice b1 W.pool.hn d1) (.int .i64 W.time) (.int .i64 W.next) (.slice eA W.sn fA) (.slice bA W.pn cA)):=aE.trans (hT.zcw (B:=W0.heap.size) aE.size (fun k e=>by omega));have kV:=rG.put (.slice b0 W.pool.n d0) (.slice b1 W.pool.hn d1) (.int .i64 W.time) (.int .i64 W.next) (.slice eA W.sn fA) (.slice bA W.pn cA);obtain⟨⟨y0,kF⟩,⟨y1,lF⟩,⟨y2,mF⟩,⟨y3,nF⟩,⟨y4,oF⟩,⟨y5,pF⟩⟩:=rG;obtain⟨x0,x1,x2,x3,x4,x5⟩:=(HX.out.zcw mA).c;go_simp
          (try go_wp2_with fail)
          refine hK.out _ _ (by(try dsimp only);go_keep) ?_;clear hK K hHeld;intro hHeld
          try simp only[Act.put,s1,s2,s3]
          clear x0 x1 x2 x3 x4 x5;refine wpAnyH_done (by kernel_rfl) ?_ _;have dA:(put6 q7 (q2.heap.size) (.slice b0 W.pool.n d0) (.slice b1 W.pool.hn d1) (.int .i64 W.time) (.int .i64 W.next) (.slice eA W.sn fA) (.slice bA W.pn cA)).heap.size=q7.heap.size:=(by simp only[World.size_setCell]);go_wp2_with fail
          go_meet
          case rel=>
            refine⟨_,_,_,_,_,_,_,_,_,_,_,bS,bZ,rfl,kV,rH.zcx hT (fun k e=>by omega),fun h0=>⟨(lS h0).1,by have:=lS h0;omega⟩,fun h0=>⟨(lZ h0).1,by have:=lZ h0;omega,fun h1=>by have:=lZ h0;have:=lS h1;omega⟩,nS,nZ,(tH.turned0 hT (fun q e h0 e2=>by have:=lS h0;omega)).weak (by rw[dA];omega),(aI.turned0 hT (fun q e h0 e2=>by have:=lZ h0;omega)).weak (by rw[dA];omega),by omega,fun h0=>by have:=lS h0;omega,fun h0=>by have:=lZ h0;omega,by omega,by omega,by omega,by rw[dA];omega,by rw[dA];omega,mA⟩
      · go_simp
        have dE:=zD q1 (.cells #[.slice none 0 0,.slice none 0 0,.int .i64 0,.int .i64 0,.slice none 0 0,.slice none 0 0] 30);have cD:Below W0.heap.size W0 (q1.alloc (.cells #[.slice none 0 0,.slice none 0 0,.int .i64 0,.int .i64 0,.slice none 0 0,.slice none 0 0] 30)):=zA eC dE;have sG:zAM (q1.alloc (.cells #[.slice none 0 0,.slice none 0 0,.int .i64 0,.int .i64 0,.slice none 0 0,.slice none 0 0] 30)) q1.heap.size (.slice none 0 0) (.slice none 0 0) (.int .i64 0) (.int .i64 0) (.slice none 0 0) (.slice none 0 0):=zAM.new _ _ _ _ _ _ _ _;have zV:W0.heap.size<=q1.heap.size/\q1.heap.size+1=(q1.alloc (.cells #[.slice none 0 0,.slice none 0 0,.int .i64 0,.int .i64 0,.slice none 0 0,.slice none 0 0] 30)).heap.size:=⟨eC.size,(World.size_alloc _ _).symm⟩;have lG:=nE.zcw dE;obtain⟨x0,x1,x2,x3,x4,x5⟩:=(HX.out.zcw cD).c
        (try go_wp2_with fail)
        refine hK.out _ _ (by(try dsimp only);go_keep) ?_;clear hK K hHeld;intro hHeld
        try simp only[Act.put,s1,s2,s3]
        clear x0 x1 x2 x3 x4 x5;generalize q1.alloc (.cells #[.slice none 0 0,.slice none 0 0,.int .i64 0,.int .i64 0,.slice none 0 0,.slice none 0 0] 30)=q9 at cD zV lG sG hHeld dE ⊢;refine rd [9] (rc (fun K hK=>?_) .nil);go_simp;go_at_call 134;refine(zEJ a2 W.sn c2 (zG9 W.zc1 cB W.sn) _ (zHh _ _ _) (zJy _ _ _ sC.out) tD (fun h0=>?_)).mono ?_
        · obtain⟨b,off,ha,hc⟩:=tC.out h0
          exact⟨b,off,ha,fun j u hj=>((zA gA cD).cell (zH (hc j u hj))).trans (hc j u hj)⟩
        rintro e gD ⟨vI,rfl,gE,nA,-⟩;have gB:Below W0.heap.size W0 gD:=zA cD nA;obtain⟨bS,eA,fA,rfl,nS,lS,tE⟩:=zFt gE gD.heap.size (Nat.le_refl _);have zS:q9.heap.size<=gD.heap.size:=nA.size;have oE:=lG.zcw nA;have cF:=sG.zcw nA;have dJ:=nA.size;obtain⟨x0,x1,x2,x3,x4,x5⟩:=(HX.out.zcw gB).c
        (try go_wp2_with fail)
        refine hK.out _ _ (by(try dsimp only);go_keep) ?_;clear hK K hHeld;intro hHeld
        try simp only[Act.put,s1,s2,s3]
        clear x0 x1 x2 x3 x4 x5;refine rd [12] (rc (fun K hK=>?_) .nil);go_simp;go_at_call 135;refine(zCv a3 W.pn c3 (zEf W.zcy pA W.pn) _ (zFE _ _ _) (zGW _ _ _ vB.out) vC (fun h0=>?_)).mono ?_
        · obtain⟨b,off,ha,hc⟩:=aC.out h0
          exact⟨b,off,ha,fun j u hj=>((zA gA gB).cell (zH (hc j u hj))).trans (hc j u hj)⟩
        rintro e oB ⟨aJ,rfl,iE,jA,-⟩;have iB:Below W0.heap.size W0 oB:=zA gB jA;obtain⟨bZ,bA,cA,rfl,nZ,lZ,gF⟩:=zDh iE oB.heap.size (Nat.le_refl _);have zZ:gD.heap.size<=oB.heap.size:=jA.size;have pE:=oE.zcw jA;have vE:=tE.zcw jA;have oC:=cF.zcw jA;have eJ:=jA.size;obtain⟨x0,x1,x2,x3,x4,x5⟩:=(HX.out.zcw iB).c
        (try go_wp2_with fail)
        refine hK.out _ _ (by(try dsimp only);go_keep) ?_;clear hK K hHeld;intro hHeld
        try simp only[Act.put,s1,s2,s3]
        clear x0 x1 x2 x3 x4 x5;refine tk 13 (h:=?_);refine rd [15] (rc (fun K hK=>?_) .nil);have hT:=zJ.put6 oB (q1.heap.size) (.slice b0 W.pool.n d0) (.slice b1 W.pool.hn d1) (.int .i64 W.time) (.int .i64 W.next) (.slice eA W.sn fA) (.slice bA W.pn cA);have mA:Below W0.heap.size W0 (put6 oB (q1.heap.size) (.slice b0 W.pool.n d0) (.slice b1 W.pool.hn d1) (.int .i64 W.time) (.int .i64 W.next) (.slice eA W.sn fA) (.slice bA W.pn cA)):=iB.trans (hT.zcw (B:=W0.heap.size) iB.size (fun k e=>by omega));have kV:=oC.put (.slice b0 W.pool.n d0) (.slice b1 W.pool.hn d1) (.int .i64 W.time) (.int .i64 W.next) (.slice eA W.sn fA) (.slice bA W.pn cA);obtain⟨⟨y0,kF⟩,⟨y1,lF⟩,⟨y2,mF⟩,⟨y3,nF⟩,⟨y4,oF⟩,⟨y5,pF⟩⟩:=oC;obtain⟨x0,x1,x2,x3,x4,x5⟩:=(HX.out.zcw mA).c;go_simp
        (try go_wp2_with fail)
        refine hK.out _ _ (by(try dsimp only);go_keep) ?_;clear hK K hHeld;intro hHeld
        try simp only[Act.put,s1,s2,s3]
        clear x0 x1 x2 x3 x4 x5;refine wpAnyH_done (by kernel_rfl) ?_ _;have dA:(put6 oB (q1.heap.size) (.slice b0 W.pool.n d0) (.slice b1 W.pool.hn d1) (.int .i64 W.time) (.int .i64 W.next) (.slice eA W.sn fA) (.slice bA W.pn cA)).heap.size=oB.heap.size:=(by simp only[World.size_setCell]);go_wp2_with fail
        go_meet
        case rel=>
          refine⟨_,_,_,_,_,_,_,_,_,_,_,bS,bZ,rfl,kV,pE.zcx hT (fun k e=>by omega),fun h0=>⟨(lS h0).1,by have:=lS h0;omega⟩,fun h0=>⟨(lZ h0).1,by have:=lZ h0;omega,fun h1=>by have:=lZ h0;have:=lS h1;omega⟩,nS,nZ,(vE.turned0 hT (fun q e h0 e2=>by have:=lS h0;omega)).weak (by rw[dA];omega),(gF.turned0 hT (fun q e h0 e2=>by have:=lZ h0;omega)).weak (by rw[dA];omega),by omega,fun h0=>by have:=lS h0;omega,fun h0=>by have:=lZ h0;omega,by omega,by omega,by omega,by rw[dA];omega,by rw[dA];omega,mA⟩
    · go_simp
      have fC:=zD q0 (.cells #[.slice none 0 0,.slice none 0 0,.int .i64 0,.int .i64 0,.slice none 0 0,.slice none 0 0] 30);have lA:Below W0.heap.size W0 (q0.alloc (.cells #[.slice none 0 0,.slice none 0 0,.int .i64 0,.int .i64 0,.slice none 0 0,.slice none 0 0] 30)):=zA sB fC;have pC:zAM (q0.alloc (.cells #[.slice none 0 0,.slice none 0 0,.int .i64 0,.int .i64 0,.slice none 0 0,.slice none 0 0] 30)) q0.heap.size (.slice none 0 0) (.slice none 0 0) (.int .i64 0) (.int .i64 0) (.slice none 0 0) (.slice none 0 0):=zAM.new _ _ _ _ _ _ _ _;have zV:W0.heap.size<=q0.heap.size/\q0.heap.size+1=(q0.alloc (.cells #[.slice none 0 0,.slice none 0 0,.int .i64 0,.int .i64 0,.slice none 0 0,.slice none 0 0] 30)).heap.size:=⟨sB.size,(World.size_alloc _ _).symm⟩;obtain⟨x0,x1,x2,x3,x4,x5⟩:=(HX.out.zcw lA).c
      (try go_wp2_with fail)
      refine hK.out _ _ (by(try dsimp only);go_keep) ?_;clear hK K hHeld;intro hHeld
      try simp only[Act.put,s1,s2,s3]
      clear x0 x1 x2 x3 x4 x5;generalize q0.alloc (.cells #[.slice none 0 0,.slice none 0 0,.int .i64 0,.int .i64 0,.slice none 0 0,.slice none 0 0] 30)=q13 at lA zV pC hHeld fC ⊢;refine rd [2] (rc (fun K hK=>?_) .nil);go_simp;go_at_call 133;refine(zFp _ _ lo hi W.pool _ ((Hp.out.pool.zcw gA).zcw lA) lE).mono ?_;rintro e jF ⟨u0,u1,rfl,nC,vA⟩;obtain⟨b0,d0,b1,d1,rfl,rfl⟩:=nC.zc4;have zP:W0.heap.size<=q13.heap.size/\q13.heap.size<=jF.heap.size:=⟨lA.size,vA.size⟩;have jB:Below W0.heap.size W0 jF:=zA lA vA;have dF:=pC.zcw vA;have fJ:=vA.size;obtain⟨x0,x1,x2,x3,x4,x5⟩:=(HX.out.zcw jB).c
      (try go_wp2_with fail)
      refine hK.out _ _ (by(try dsimp only);go_keep) ?_;clear hK K hHeld;intro hHeld
      try simp only[Act.put,s1,s2,s3]
      clear x0 x1 x2 x3 x4 x5;refine rd [9] (rc (fun K hK=>?_) .nil);go_simp;go_at_call 134;refine(zEJ a2 W.sn c2 (zG9 W.zc1 cB W.sn) _ (zHh _ _ _) (zJy _ _ _ sC.out) tD (fun h0=>?_)).mono ?_
      · obtain⟨b,off,ha,hc⟩:=tC.out h0
        exact⟨b,off,ha,fun j u hj=>((zA gA jB).cell (zH (hc j u hj))).trans (hc j u hj)⟩
      rintro e iD ⟨bJ,rfl,jE,oA,-⟩;have kB:Below W0.heap.size W0 iD:=zA jB oA;obtain⟨bS,eA,fA,rfl,nS,lS,aF⟩:=zFt jE iD.heap.size (Nat.le_refl _);have zS:jF.heap.size<=iD.heap.size:=oA.size;have rE:=nC.zcw oA;have eF:=dF.zcw oA;have gJ:=oA.size;obtain⟨x0,x1,x2,x3,x4,x5⟩:=(HX.out.zcw kB).c
      (try go_wp2_with fail)
      refine hK.out _ _ (by(try dsimp only);go_keep) ?_;clear hK K hHeld;intro hHeld
      try simp only[Act.put,s1,s2,s3]
      clear x0 x1 x2 x3 x4 x5;refine rd [12] (rc (fun K hK=>?_) .nil);go_simp;go_at_call 135;refine(zCv a3 W.pn c3 (zEf W.zcy pA W.pn) _ (zFE _ _ _) (zGW _ _ _ vB.out) vC (fun h0=>?_)).mono ?_
      · obtain⟨b,off,ha,hc⟩:=aC.out h0
        exact⟨b,off,ha,fun j u hj=>((zA gA kB).cell (zH (hc j u hj))).trans (hc j u hj)⟩
      rintro e pB ⟨cJ,rfl,kE,kA,-⟩;have lB:Below W0.heap.size W0 pB:=zA kB kA;obtain⟨bZ,bA,cA,rfl,nZ,lZ,iF⟩:=zDh kE pB.heap.size (Nat.le_refl _);have zZ:iD.heap.size<=pB.heap.size:=kA.size;have sE:=rE.zcw kA;have bF:=aF.zcw kA;have rC:=eF.zcw kA;have iJ:=kA.size;obtain⟨x0,x1,x2,x3,x4,x5⟩:=(HX.out.zcw lB).c
      (try go_wp2_with fail)
      refine hK.out _ _ (by(try dsimp only);go_keep) ?_;clear hK K hHeld;intro hHeld
      try simp only[Act.put,s1,s2,s3]
      clear x0 x1 x2 x3 x4 x5;refine tk 13 (h:=?_);refine rd [15] (rc (fun K hK=>?_) .nil);have hT:=zJ.put6 pB (q0.heap.size) (.slice b0 W.pool.n d0) (.slice b1 W.pool.hn d1) (.int .i64 W.time) (.int .i64 W.next) (.slice eA W.sn fA) (.slice bA W.pn cA);have mA:Below W0.heap.size W0 (put6 pB (q0.heap.size) (.slice b0 W.pool.n d0) (.slice b1 W.pool.hn d1) (.int .i64 W.time) (.int .i64 W.next) (.slice eA W.sn fA) (.slice bA W.pn cA)):=lB.trans (hT.zcw (B:=W0.heap.size) lB.size (fun k e=>by omega));have kV:=rC.put (.slice b0 W.pool.n d0) (.slice b1 W.pool.hn d1) (.int .i64 W.time) (.int .i64 W.next) (.slice eA W.sn fA) (.slice bA W.pn cA);obtain⟨⟨y0,kF⟩,⟨y1,lF⟩,⟨y2,mF⟩,⟨y3,nF⟩,⟨y4,oF⟩,⟨y5,pF⟩⟩:=rC;obtain⟨x0,x1,x2,x3,x4,x5⟩:=(HX.out.zcw mA).c;go_simp
      (try go_wp2_with fail)
      refine hK.out _ _ (by(try dsimp only);go_keep) ?_;clear hK K hHeld;intro hHeld
      try simp only[Act.put,s1,s2,s3]
      clear x0 x1 x2 x3 x4 x5;refine wpAnyH_done (by kernel_rfl) ?_ _;have dA:(put6 pB (q0.heap.size) (.slice b0 W.pool.n d0) (.slice b1 W.pool.hn d1) (.int .i64 W.time) (.int .i64 W.next) (.slice eA W.sn fA) (.slice bA W.pn cA)).heap.size=pB.heap.size:=(by simp only[World.size_setCell]);go_wp2_with fail
      go_meet
      case rel=>
        refine⟨_,_,_,_,_,_,_,_,_,_,_,bS,bZ,rfl,kV,sE.zcx hT (fun k e=>by omega),fun h0=>⟨(lS h0).1,by have:=lS h0;omega⟩,fun h0=>⟨(lZ h0).1,by have:=lZ h0;omega,fun h1=>by have:=lZ h0;have:=lS h1;omega⟩,nS,nZ,(bF.turned0 hT (fun q e h0 e2=>by have:=lS h0;omega)).weak (by rw[dA];omega),(iF.turned0 hT (fun q e h0 e2=>by have:=lZ h0;omega)).weak (by rw[dA];omega),by omega,fun h0=>by have:=lS h0;omega,fun h0=>by have:=lZ h0;omega,by omega,by omega,by omega,by rw[dA];omega,by rw[dA];omega,mA⟩
  case rest=>
    obtain⟨X,b0,d0,b1,d1,aS,cS,aZ,cZ,l,h,bS,bZ,rfl,kV,kP,hS,hZ,nS,nZ,kS,kZ,kI,dG,eG,z1,z2,z3,z4,z5,fG⟩:=hcut;have jD:=yH kV;have sF:=yH kP;have dC:=yH hS;have bB:=yH hZ;have jH:=gA.size;have jI:=vF.out;have HS:=yH kS;have HZ:=yH kZ;have fE:=kS.lt;have kC:=kZ.lt;clear kV kP hS hZ kS kZ HX lE sC vB tC aC;obtain⟨x0,x1,x2,x3,x4,x5⟩:=jD.out.c;go_wp2;clear x0 x1 x2 x3 x4 x5
    go_loopw [4,5,25] (fun _ _ i wr=>∃(k:Nat) (kb:Nat->Nat) (kv:Nat->Value),k<=W.sn/\i = .int .i64 k/\zBb wr bS wc.heap.size W.sn k W.zc1 kb kv cB/\zAM wr X (.slice b0 W.pool.n d0) (.slice b1 W.pool.hn d1) (.int .i64 W.time) (.int .i64 W.next) (.slice aS W.sn cS) (.slice aZ W.pn cZ)/\wc.heap.size<=wr.heap.size/\zAE wr l h (.slice b0 W.pool.n d0) (.slice b1 W.pool.hn d1) W.pool/\zAq wr bZ wc.heap.size W.pn 0 W.zcy (fun _=>0) pA pA/\Below W0.heap.size W0 wr) (fun _ _ i _=>W.sn - (intOf i).toNat)
    case atStart=>exact⟨0,_,_,Nat.zero_le _,rfl,HS.out,jD.out,Nat.le_refl _,sF.out,HZ.out,fG⟩
    case round=>
      obtain⟨k,kb,kv,hk,rfl,hh,hI⟩:=hrel;have Hh:=yH hh;have HI:=yH hI;clear hh hI;by_cases iA:k<W.sn
      · have eE:(k:Int)<(W.sn:Int):=by omega
        have dH:=HI.out.2.1;have fH:=Hh.out.lt (by omega);obtain rfl:=(dC.out (by omega)).1;obtain⟨-,da,dc,aB,-⟩:=id (eB.out k iA).1;have hD:=(eB.out k iA).1;rw[aB]at hD;have HD:=yH hD;clear hD;obtain⟨⟨h0,g0⟩,⟨h1,g1⟩,⟨h2,g2⟩,⟨h3,g3⟩,⟨h4,g4⟩,⟨h5,g5⟩⟩:=Hh.out.zc8 k iA;rw[if_neg (by omega),aB]at h5;obtain⟨x0,x1,x2,x3,x4,x5⟩:=HI.out.1.c;have ha:=zD wr (.cells #[.string (W.zc1 k).name,.int .i64 (W.zc1 k).origin,.int .i64 (W.zc1 k).zc2,.int .i64 (W.zc1 k).rs,.int .i64 (W.zc1 k).rb,.slice da (W.zc1 k).dn dc] 72);have hy:=zAM.new wr (.string (W.zc1 k).name) (.int .i64 (W.zc1 k).origin) (.int .i64 (W.zc1 k).zc2) (.int .i64 (W.zc1 k).rs) (.int .i64 (W.zc1 k).rb) (.slice da (W.zc1 k).dn dc) 72;have mE:(wr.alloc (.cells #[.string (W.zc1 k).name,.int .i64 (W.zc1 k).origin,.int .i64 (W.zc1 k).zc2,.int .i64 (W.zc1 k).rs,.int .i64 (W.zc1 k).rb,.slice da (W.zc1 k).dn dc] 72)).heap.size=wr.heap.size+1:=World.size_alloc _ _;have HY:=yH hy;have HA:=yH ha;clear hy;go_wp2_with fail;clear h0 g0 h1 g1 h2 g2 h3 g3 h4 g4 h5 g5 x0 x1 x2 x3 x4 x5;have sA:=yH (Hh.out.zcw HA.out);have mC:=zA gA (zA HI.out.2.2.2.2 HA.out);have cC:=yH (HD.out.zcw mC);have rA:=yH (HI.out.1.zcw HA.out);have hV:wr.heap.size<wr.heap.size+1:=(by omega);generalize wr.alloc (.cells #[.string (W.zc1 k).name,.int .i64 (W.zc1 k).origin,.int .i64 (W.zc1 k).zc2,.int .i64 (W.zc1 k).rs,.int .i64 (W.zc1 k).rb,.slice da (W.zc1 k).dn dc] 72)=W1 at HY HA sA mC cC rA mE ⊢;obtain⟨x0,x1,x2,x3,x4,x5⟩:=rA.out.c;obtain⟨y0,y1,y2,y3,y4,y5⟩:=HY.out.c;obtain⟨⟨h0,g0⟩,⟨h1,g1⟩,⟨h2,g2⟩,⟨h3,g3⟩,⟨h4,g4⟩,⟨h5,g5⟩⟩:=sA.out.zc8 k iA;rw[if_neg (by omega),aB]at h5;have e1:X≠bS:=dG (by omega);have bH:=e1.symm;have e2:wr.heap.size≠bS:=(by omega);have cH:=e2.symm;go_region_held3 (fun w'=>w'.cell? ⟨X,4,none⟩=some (.slice (some ⟨bS,0,none⟩) W.sn cS)/\w'.cell? ⟨wr.heap.size,5,none⟩=some (.slice da (W.zc1 k).dn dc)) (go_keep)
          (first
            | (go_at_call 136
               refine(zFq _ (W.zc1 k).dn lo hi (W.zc1 k).ds (W.zc1 k).db _ (cC.out.zcw (Below.refl _ _).drew) (kD.out k iA)).mono ?_;rintro e w2 ⟨⟨nv,nb,rfl,lC,nB⟩,tA⟩;have aA:=qU tA;obtain⟨_,na,nc,rfl,_⟩:=id lC;obtain⟨z0,z1,z2,z3,z4,z5⟩:=(rA.out.zcw aA).c;obtain⟨v0,v1,v2,v3,v4,v5⟩:=(HY.out.zcw aA).c;obtain⟨⟨p0,bI⟩,⟨p1,cI⟩,⟨p2,dI⟩,⟨p3,eI⟩,⟨p4,fI⟩,⟨p5,gI⟩⟩:=(sA.out.zcw aA).zc8 k iA;rw[if_neg (by omega),aB]at p5))
        have oH:=aA.size;have oD:=yH (sA.out.next iA (by omega) aA lC (fun h0=>by have:=nB h0;have hd:W1.drew.heap.size=W1.heap.size:=rfl;omega));have hT:=zJ.put w2 bS (k*6+5) (.slice na (W.zc1 k).dn nc);have hB:=zA HA.out aA;have mD:=yH (HI.out.2.2.2.1);go_wp2;go_roundw
        case rel=>exact⟨k+1,_,_,by omega,by go_num,oD.out,(rA.out.zcw aA).zcx hT (fun e=>(dG (by omega)) e),by simp only[World.size_setCell];omega,(HI.out.2.2.1.zcw hB).zcx hT (fun q e=>by have:=(dC.out (by omega)).2;omega),(mD.out.zcw hB).zcx hT (fun q e=>⟨fun h0 e2=>by have:=(bB.out h0).2.2 (by omega);omega,by omega⟩) (Nat.zero_le _),(zA HI.out.2.2.2.2 hB).setCell (by show W0.heap.size<=bS;have:=(dC.out (by omega)).2;omega) _⟩
        case measure=>simp[intOf];omega
      · obtain rfl:k=W.sn:=by omega
        generalize wr=wA at Hh HI ⊢;generalize kb=kbS at Hh;generalize kv=kvS at Hh;have eH:=HI.out.2.1;have aH:=yH Hh.out;have vG:=yH (show ∀j,j<W.sn->0<(W.zc1 j).dn->wc.heap.size<=kbS j/\kbS j<wA.heap.size from Hh.out.zc6);have bC:=yH HI.out.1;have nD:=yH HI.out.2.2.1;have aG:=yH (HI.out.2.2.2.1.weak eH);have bE:=HI.out.2.2.2.2;clear Hh HI HZ HS jD sF fG;have HZ:=aG;clear aG;obtain⟨x0,x1,x2,x3,x4,x5⟩:=bC.out.c;go_wp2;clear x0 x1 x2 x3 x4 x5
        go_loopw [6,7,42] (fun _ _ i wr=>∃(k:Nat) (kb:Nat->Nat) (kv:Nat->Value),k<=W.pn/\i = .int .i64 k/\zAq wr bZ wA.heap.size W.pn k W.zcy kb kv pA/\zAM wr X (.slice b0 W.pool.n d0) (.slice b1 W.pool.hn d1) (.int .i64 W.time) (.int .i64 W.next) (.slice aS W.sn cS) (.slice aZ W.pn cZ)/\wA.heap.size<=wr.heap.size/\zAE wr l h (.slice b0 W.pool.n d0) (.slice b1 W.pool.hn d1) W.pool/\zBb wr bS wc.heap.size W.sn W.sn W.zc1 kbS kvS cB/\Below W0.heap.size W0 wr) (fun _ _ i _=>W.pn - (intOf i).toNat)
        case atStart=>exact⟨0,_,_,Nat.zero_le _,rfl,HZ.out,bC.out,Nat.le_refl _,nD.out,aH.out,bE⟩
        case round=>
          obtain⟨k,kb,kv,hk,rfl,hh,hI⟩:=hrel;have Hh:=yH hh;have HI:=yH hI;clear hh hI;by_cases iA:k<W.pn
          · have eE:(k:Int)<(W.pn:Int):=by omega
            have dH:=HI.out.2.1;have fH:=Hh.out.lt (by omega);obtain rfl:=(bB.out (by omega)).1;obtain⟨-,da,dc,aB,-⟩:=id (fB.out k iA).1;have hD:=(fB.out k iA).1;rw[aB]at hD;have HD:=yH hD;clear hD;obtain⟨⟨h0,g0⟩,⟨h1,g1⟩,⟨h2,g2⟩,⟨h3,g3⟩,⟨h4,g4⟩,⟨h5,g5⟩,⟨h6,g6⟩,⟨h7,g7⟩⟩:=Hh.out.zc8 k iA;rw[if_neg (by omega),aB]at h7;obtain⟨x0,x1,x2,x3,x4,x5⟩:=HI.out.1.c;have ha:=zD wr (.cells #[.int .i64 (W.zcy k).id,.string (W.zcy k).name,.string (W.zcy k).set,.int .i64 (W.zcy k).zc2,.int .i64 (W.zcy k).time,.int .i64 (W.zcy k).rs,.int .i64 (W.zcy k).rb,.slice da (W.zcy k).dn dc] 75);have hy:=zVF.new wr (.int .i64 (W.zcy k).id) (.string (W.zcy k).name) (.string (W.zcy k).set) (.int .i64 (W.zcy k).zc2) (.int .i64 (W.zcy k).time) (.int .i64 (W.zcy k).rs) (.int .i64 (W.zcy k).rb) (.slice da (W.zcy k).dn dc) 75;have mE:(wr.alloc (.cells #[.int .i64 (W.zcy k).id,.string (W.zcy k).name,.string (W.zcy k).set,.int .i64 (W.zcy k).zc2,.int .i64 (W.zcy k).time,.int .i64 (W.zcy k).rs,.int .i64 (W.zcy k).rb,.slice da (W.zcy k).dn dc] 75)).heap.size=wr.heap.size+1:=World.size_alloc _ _;have HY:=yH hy;have HA:=yH ha;clear hy;go_wp2_with fail;clear h0 g0 h1 g1 h2 g2 h3 g3 h4 g4 h5 g5 h6 g6 h7 g7 x0 x1 x2 x3 x4 x5;have sA:=yH (Hh.out.zcw HA.out);have mC:=zA gA (zA HI.out.2.2.2.2 HA.out);have cC:=yH (HD.out.zcw mC);have rA:=yH (HI.out.1.zcw HA.out);have hV:wr.heap.size<wr.heap.size+1:=(by omega);generalize wr.alloc (.cells #[.int .i64 (W.zcy k).id,.string (W.zcy k).name,.string (W.zcy k).set,.int .i64 (W.zcy k).zc2,.int .i64 (W.zcy k).time,.int .i64 (W.zcy k).rs,.int .i64 (W.zcy k).rb,.slice da (W.zcy k).dn dc] 75)=W1 at HY HA sA mC cC rA mE ⊢;obtain⟨x0,x1,x2,x3,x4,x5⟩:=rA.out.c;obtain⟨⟨y0,-⟩,⟨y1,-⟩,⟨y2,-⟩,⟨y3,-⟩,⟨y4,-⟩,⟨y5,-⟩,⟨y6,-⟩,⟨y7,-⟩⟩:=HY.out;obtain⟨⟨h0,g0⟩,⟨h1,g1⟩,⟨h2,g2⟩,⟨h3,g3⟩,⟨h4,g4⟩,⟨h5,g5⟩,⟨h6,g6⟩,⟨h7,g7⟩⟩:=sA.out.zc8 k iA;rw[if_neg (by omega),aB]at h7;have e1:X≠bZ:=eG (by omega);have bH:=e1.symm;have e2:wr.heap.size≠bZ:=(by omega);have cH:=e2.symm;go_region_held3 (fun w'=>w'.cell? ⟨X,5,none⟩=some (.slice (some ⟨bZ,0,none⟩) W.pn cZ)/\w'.cell? ⟨wr.heap.size,7,none⟩=some (.slice da (W.zcy k).dn dc)) (go_keep)
              (first
                | (go_at_call 136
                   refine(zFq _ (W.zcy k).dn lo hi (W.zcy k).ds (W.zcy k).db _ (cC.out.zcw (Below.refl _ _).drew) (lD.out k iA)).mono ?_;rintro e w2 ⟨⟨nv,nb,rfl,lC,nB⟩,tA⟩;have aA:=qU tA;obtain⟨_,na,nc,rfl,_⟩:=id lC;obtain⟨z0,z1,z2,z3,z4,z5⟩:=(rA.out.zcw aA).c;obtain⟨⟨v0,-⟩,⟨v1,-⟩,⟨v2,-⟩,⟨v3,-⟩,⟨v4,-⟩,⟨v5,-⟩,⟨v6,-⟩,⟨v7,-⟩⟩:=HY.out.zcw aA;obtain⟨⟨p0,bI⟩,⟨p1,cI⟩,⟨p2,dI⟩,⟨p3,eI⟩,⟨p4,fI⟩,⟨p5,gI⟩,⟨p6,lI⟩,⟨p7,mI⟩⟩:=(sA.out.zcw aA).zc8 k iA;rw[if_neg (by omega),aB]at p7))
            have oH:=aA.size;have oD:=yH (sA.out.next iA (by omega) aA lC (fun h0=>by have:=nB h0;have hd:W1.drew.heap.size=W1.heap.size:=rfl;omega));have hT:=zJ.put w2 bZ (k*8+7) (.slice na (W.zcy k).dn nc);have hB:=zA HA.out aA;have mD:=yH (HI.out.2.2.2.1);go_wp2;go_roundw
            case rel=>exact⟨k+1,_,_,by omega,by go_num,oD.out,(rA.out.zcw aA).zcx hT (fun e=>(eG (by omega)) e),by simp only[World.size_setCell];omega,(HI.out.2.2.1.zcw hB).zcx hT (fun q e=>by have:=(bB.out (by omega)).2;omega),(mD.out.zcw hB).zcx hT (fun q e=>⟨fun h0 e2=>by have:=(bB.out (by omega)).2.2 h0;omega,by omega⟩) (Nat.le_refl _),(zA HI.out.2.2.2.2 hB).setCell (by show W0.heap.size<=bZ;have:=(bB.out (by omega)).2;omega) _⟩
            case measure=>simp[intOf];omega
          · obtain rfl:k=W.pn:=by omega
            have mB:=HI.out.2.2.2.2;have tF:=yH (HR.out.zcw mB);obtain⟨x0,x1,x2,x3,x4,x5⟩:=HI.out.1.c;obtain⟨⟨r0,nI⟩,⟨r1,oI⟩,⟨r2,pI⟩,⟨r3,rI⟩,⟨r4,sI⟩,⟨r5,tI⟩⟩:=tF.out;go_wp2;have hT:=zJ.put6 wr (w.heap.size+1) (.slice b0 W.pool.n d0) (.slice b1 W.pool.hn d1) (.int .i64 W.time) (.int .i64 W.next) (.slice aS W.sn cS) (.slice aZ W.pn cZ);have rB:=tF.out.put (.slice b0 W.pool.n d0) (.slice b1 W.pool.hn d1) (.int .i64 W.time) (.int .i64 W.next) (.slice aS W.sn cS) (.slice aZ W.pn cZ);have gH:=(HI.out.2.2.2.1.own rF.out.1 (fun h0=>(dC.out h0).1) nS (fun i hi=>(eB.out i hi).2));have iH:=(Hh.out.own rF.out.2 (fun h0=>(bB.out h0).1) nZ (fun i hi=>(fB.out i hi).2));have nH:=Hh.out.zc6;have fD:(put6 wr (w.heap.size+1) (.slice b0 W.pool.n d0) (.slice b1 W.pool.hn d1) (.int .i64 W.time) (.int .i64 W.next) (.slice aS W.sn cS) (.slice aZ W.pn cZ)).heap.size=wr.heap.size:=(by simp only[World.size_setCell]);have iI:=HI.out.2.1;have zS:∀q,zQM bS kbS W.sn W.zc1 q->h<=q/\q<wA.heap.size/\(q<wc.heap.size->0<W.sn/\q=bS):=by
              rintro q (⟨h0,rfl⟩ | ⟨i,hi,h0,rfl⟩)
              · exact⟨(dC.out h0).2,by have:=fE h0;omega,fun _=>⟨h0,rfl⟩⟩
              · have:=vG.out i hi h0;exact⟨by omega,by omega,fun hx=>by omega⟩
            have zZ:∀q,zLf bZ kb W.pn W.zcy q->h<=q/\q<wr.heap.size/\(q<wA.heap.size->0<W.pn/\q=bZ):=by
              rintro q (⟨h0,rfl⟩ | ⟨i,hi,h0,rfl⟩)
              · exact⟨(bB.out h0).2.1,by have:=kC h0;omega,fun _=>⟨h0,rfl⟩⟩
              · have:=nH i hi h0;exact⟨by omega,by omega,fun hx=>by omega⟩
            refine bodyPost_ret (v:=.agg #[.slice b0 W.pool.n d0,.slice b1 W.pool.hn d1,.int .i64 W.time,.int .i64 W.next,.slice aS W.sn cS,.slice aZ W.pn cZ]) (by simp[results,Tryz.results112,go_sem,rB.1.1,rB.2.1.1,rB.2.2.1.1,rB.2.2.2.1.1,rB.2.2.2.2.1.1,rB.2.2.2.2.2.1]) rfl ⟨_,_,_,_,rfl,?_,?_⟩
            · refine⟨fun q=>l<=q/\q<h,fun q=>zQM bS kbS W.sn W.zc1 q,fun q=>zLf bZ kb W.pn W.zcy q,⟨?_,?_,?_,?_,?_,?_⟩,?_⟩
              · exact(HI.out.2.2.1.isIn (S:=fun q=>l<=q/\q<h) (fun k h1 h2=>⟨h1,h2⟩)).zcx hT (fun k hk e=>by omega)
              · exact zEd.zcx ⟨bS,kbS,kvS,gH,HI.out.2.2.2.1.zc7,fun q hq=>hq⟩ hT (fun k hk e=>by have:=zS k hk;omega)
              · exact zDN.zcx ⟨bZ,kb,kv,iH,Hh.out.zc7,fun q hq=>hq⟩ hT (fun k hk e=>by have:=zZ k hk;omega)
              · exact fun k hk e=>by have:=zS k e;omega
              · exact fun k hk e=>by have:=zZ k e;omega
              · intro k hk e
                have h1:=zS k hk;have h2:=(zZ k e).2.2 h1.2.1;have h3:=h1.2.2 (by have:=kC h2.1;omega);have:=(bB.out h2.1).2.2 h3.1;omega
              · intro k hk
                rw[fD];rcases hk with hk | hk | hk
                · omega
                · have:=zS k hk;omega
                · have:=zZ k hk;omega
            · exact(zA gA mB).trans (hT.zcw (B:=w.heap.size) (zA gA mB).size (fun k e=>by omega))
theorem zGY(v0 v1 v2 v3:Value)(lo hi:Nat)(W:zB)(w:World)(h:zAF w lo hi v0 v1 v2 v3 W)(mA:yD W.pool<=1048576)(kA:W.sn<=1048576)(lA:W.pn<=1048576)(jA:zGQ W):Calls Tryz.prog 90 #[zB8 v0 v1 v2 v3 W] w (zEN W w):=by
 obtain⟨a0,bA,a1,cA,a2,dA,a3,eA,rfl,rfl,rfl,rfl⟩:=h.zc4;have Hp:=yH h;clear h;have ha:=zD w (.cells #[.slice a0 W.pool.n bA,.slice a1 W.pool.hn cA,.int .i64 W.time,.int .i64 W.next,.slice a2 W.sn dA,.slice a3 W.pn eA] 30);have hb:=zA ha (zD _ (.cells #[.slice none 0 0,.slice none 0 0,.int .i64 0,.int .i64 0,.slice none 0 0,.slice none 0 0] 30));obtain⟨x0,x1,x2,x3,x4,x5⟩:=(zAM.new w (.slice a0 W.pool.n bA) (.slice a1 W.pool.hn cA) (.int .i64 W.time) (.int .i64 W.next) (.slice a2 W.sn dA) (.slice a3 W.pn eA) 30).c;have HR:=zAM.new (w.alloc (.cells #[.slice a0 W.pool.n bA,.slice a1 W.pool.hn cA,.int .i64 W.time,.int .i64 W.next,.slice a2 W.sn dA,.slice a3 W.pn eA] 30)) (.slice none 0 0) (.slice none 0 0) (.int .i64 0) (.int .i64 0) (.slice none 0 0) (.slice none 0 0) 30;rw[World.size_alloc]at HR;have hz:((w.alloc (.cells #[.slice a0 W.pool.n bA,.slice a1 W.pool.hn cA,.int .i64 W.time,.int .i64 W.next,.slice a2 W.sn dA,.slice a3 W.pn eA] 30)).alloc (.cells #[.slice none 0 0,.slice none 0 0,.int .i64 0,.int .i64 0,.slice none 0 0,.slice none 0 0] 30)).heap.size=w.heap.size+2:=by rw[World.size_alloc,World.size_alloc]
 go_enter Tryz.func90,Tryz.ntmps90;go_wp2_with fail;clear x0 x1 x2 x3 x4 x5;generalize (w.alloc (.cells #[.slice a0 W.pool.n bA,.slice a1 W.pool.hn cA,.int .i64 W.time,.int .i64 W.next,.slice a2 W.sn dA,.slice a3 W.pn eA] 30)).alloc (.cells #[.slice none 0 0,.slice none 0 0,.int .i64 0,.int .i64 0,.slice none 0 0,.slice none 0 0] 30)=W2 at hb HR hz ⊢;clear ha;refine(zLq _ _ _ _ lo hi W W2 (Hp.out.zcw hb) mA kA lA jA).mono ?_;rintro e w3 ⟨z0,z1,z2,z3,rfl,ho,gA⟩;obtain⟨b0,d0,b1,d1,b2,d2,b3,d3,rfl,rfl,rfl,rfl⟩:=ho.zc4;have fA:=HR.zcw gA;have Ho:=yH ho;clear ho HR;have aA:=fA.put (.slice b0 W.pool.n d0) (.slice b1 W.pool.hn d1) (.int .i64 W.time) (.int .i64 W.next) (.slice b2 W.sn d2) (.slice b3 W.pn d3);have hT:=zJ.put6 w3 (w.heap.size+1) (.slice b0 W.pool.n d0) (.slice b1 W.pool.hn d1) (.int .i64 W.time) (.int .i64 W.next) (.slice b2 W.sn d2) (.slice b3 W.pn d3);obtain⟨⟨y0,f0⟩,⟨y1,f1⟩,⟨y2,f2⟩,⟨y3,f3⟩,⟨y4,f4⟩,⟨y5,f5⟩⟩:=fA;go_wp2_with fail;have iA:=zA hb gA;refine bodyPost_ret (v:=.agg #[.slice b0 W.pool.n d0,.slice b1 W.pool.hn d1,.int .i64 W.time,.int .i64 W.next,.slice b2 W.sn d2,.slice b3 W.pn d3]) (by simp[results,Tryz.results90,go_sem,aA.1.1,aA.2.1.1,aA.2.2.1.1,aA.2.2.2.1.1,aA.2.2.2.2.1.1,aA.2.2.2.2.2.1]) rfl ⟨_,_,_,_,rfl,?_,?_⟩
 ·have:=hT.size;exact(Ho.out.zcx hT (fun k e=>by omega)).wide (by omega) (by omega)
 ·exact iA.trans (hT.zcw (B:=w.heap.size) iA.size (fun k e=>by omega))
open Go.Extern.Stop Go.Stop Go.Extern
def zLa(w:World)(b:Nat)(p:Nat->Addr):Prop:=∀k,k<7->w.cell? ⟨b,k*2,none⟩=some (zBF (p k))/\w.cell? ⟨b,k*2+1,none⟩=some (.int .i64 (zJK k))
theorem zLa.zcw{w w':World}{b:Nat}{p:Nat->Addr}(h:zLa w b p)(t:Below w.heap.size w w'):zLa w' b p:=
 fun k hk=>⟨(t.cell (zH (h k hk).1)).trans (h k hk).1,(t.cell (zH (h k hk).2)).trans (h k hk).2⟩
theorem zLa.new(p:Nat->Addr)(w:World):zLa (w.alloc (.cells (zYa p) 135)) w.heap.size p:=
 fun k hk=>⟨(zG (heap_alloc_new _ _) (zUw p hk).1).1,(zG (heap_alloc_new _ _) (zUw p hk).2).1⟩
theorem zSU(p:Nat->Addr)(i:Nat)(hi:i<7)(w:World)(h:zG1 w p):Calls Tryz.prog 49 #[zBF (p i)] w fun e w'=>e = .returned (.int .i64 (zJK i))/\Below w.heap.size w w':=by
 have HE:=zT1 h;clear h;have ha:=zD w (.cells (zYa p) 135);have HR:=zT1 (zLa.new p w);go_enter Tryz.func49,Tryz.ntmps49;go_wp2_with fail;refine(zP3 p _ HE.out).mono ?_;rintro e wa ⟨rfl,rfl⟩;go_wp2
 go_loopw [7] (fun i' wr=>∃k:Nat,k<=i/\i' = .int .i64 k/\zLa wr w.heap.size p/\Below w.heap.size w wr) (fun i _=>7 - (intOf i).toNat)
 case atStart=>exact⟨0,Nat.zero_le _,rfl,HR.out,ha⟩
 case round=>
  obtain⟨k,hk,rfl,hR,hb⟩:=hrel;have fA:(k:Int)<7:=(by omega);obtain⟨q0,q1⟩:=hR k (by omega);have eA:=zT1 hR;clear hR;have hn:=zD wr (.cells #[zBF (p k),.int .i64 (zJK k)] 135);have aA:=zA hb hn;have bA:=zT1 (eA.out.zcw hn);have z0:(wr.alloc (.cells #[zBF (p k),.int .i64 (zJK k)] 135)).cell? ⟨wr.heap.size,0,none⟩=some (zBF (p k)):=(zG (heap_alloc_new _ _) rfl).1;have z1:(wr.alloc (.cells #[zBF (p k),.int .i64 (zJK k)] 135)).cell? ⟨wr.heap.size,1,none⟩=some (.int .i64 (zJK k)):=(zG (heap_alloc_new _ _) rfl).1;go_wp2_with fail;generalize wr.alloc (.cells #[zBF (p k),.int .i64 (zJK k)] 135)=W5 at z0 z1 hn aA bA ⊢;clear q0 q1;by_cases he:k=i
  ·subst he;refine(zZm (p k) _).mono ?_;rintro e wz ⟨rfl,rfl⟩;go_wp2;go_ret;exact⟨rfl,aA⟩
  ·obtain⟨ca,ta,cA⟩:=(HE.out.zcw aA).row i hi;obtain⟨cb,tb,dA⟩:=(HE.out.zcw aA).row k (by omega);refine(zXP (p i) (p k) ca cb ta tb _ (HE.out.ne i k hi (by omega) (Ne.symm he)) cA dA).mono ?_;rintro e wz ⟨rfl,rfl⟩;clear cA dA;go_wp2;go_roundw
   case rel=>exact⟨k+1,by omega,by go_num,bA.out,aA⟩
   case measure=>simp[intOf];omega
theorem zca{fn:Func}{k b:Nat}{tmps:Array Value}{W:World}{v0 v1 v2 v3 v4 v5 v6 v7 v8 v9 aA bA cA:Value}(hf:fn.results=#[.cell k 35])(hk:tmps.getD k undef = .pointer (some ⟨b,0,none⟩))(h:zDo W b v0 v1 v2 v3 v4 v5 v6 v7 v8 v9 aA bA cA):(results fn tmps).run Tryz.prog W = .ok (.agg #[v0,v1,v2,v3,v4,v5,v6,v7,v8,v9,aA,bA,cA]) W:=by
 obtain⟨r0,r1,r2,r3,r4,r5,r6,r7,r8,r9,dA,eA,fA⟩:=h.c;simp[results,hf,Array.getD_eq_getD_getElem?]at hk ⊢;simp[hk,go_sem,r0,r1,r2,r3,r4,r5,r6,r7,r8,r9,dA,eA,fA]
theorem zRs{fn:Func}{R:Ending->World->Prop}{a:Act}{w wz:World}{b k:Nat}{y0 y1 y2 y3 y4 y5 y6 y7 y8 y9 aA bA cA:Value}(c:Int)(hf:fn.results=#[.cell k 35])(hk:a.tmps.getD k undef = .pointer (some ⟨b,0,none⟩))(hd:a.defers = [])(hy:zDo wz b y0 y1 y2 y3 y4 y5 y6 y7 y8 y9 aA bA cA)(hb:Below w.heap.size w wz)(hl:w.heap.size<=b)
  (hR:∀e W,zEl (zAj c) w e W->R e W):bodyPost Tryz.prog fn R .ret a (put13 wz b (.slice none 0 0) (.slice none 0 0) (.int .i64 0) (.int .i64 0) (.slice none 0 0) (.slice none 0 0) (.slice none 0 0) (.slice none 0 0) (.int .i64 0) (.int .i64 0) (.slice none 0 0) (.slice none 0 0) (.int .i64 c)):=
 bodyPost_ret (zca hf hk (hy.put _ _ _ _ _ _ _ _ _ _ _ _ _)) hd (hR _ _ ⟨_,_,_,_,_,_,_,_,rfl,zYI (Nat.le_trans hb.size (zJ.put13 ..).size),hb.trans ((zJ.put13 ..).zcw (B:=w.heap.size) hb.size (fun k e=>by omega))⟩)
end Go.Proofs.YtbplmbafodlboaaGreatDoor
