/- A part of the proof. -/
import Derived.Test.YtibhefllijahkaaGreatDoorF19
set_option linter.unusedVariables false
set_option maxRecDepth 20000
set_option maxHeartbeats 4000000
namespace Go.Proofs.YtibhefllijahkaaGreatDoor
noncomputable section
open Go.RowKit Go.Maps
theorem zDB(v0 v1 v2 v3:Value)(lo hi:Nat)(W:A5)(w:World)(h:BR w lo hi v0 v1 v2 v3 W)(lF:Az W.pool<=1048576)(fF:W.sn<=1048576)(kD:W.pn<=1048576)(eF:Je W):Calls Tryz.prog 58 #[BS v0 v1 v2 v3 W] w (ze W w):=by
 obtain⟨a0,c0,a1,c1,a2,c2,a3,c3,rfl,rfl,rfl,rfl⟩:=h.C5;have Hp:=B7 h;obtain⟨kA,vE,jH⟩:=h.A3.values;obtain⟨Z,aF,kH⟩:=h.A1.values;have fC:=B7 vE;have iC:=B7 aF;have fD:=B7 (show ∀i,i<W.sn->(kA i).oneCell'=true from fun i hi=>by obtain⟨-,a,c,e,-⟩:=(vE i hi).1;rw[e];rfl);have vB:=B7 (show ∀i,i<W.pn->(Z i).oneCell'=true from fun i hi=>by obtain⟨-,a,c,e,-⟩:=(aF i hi).1;rw[e];rfl);have gD:=B7 jH;have aC:=B7 kH;have pG:=B7 eF.1;have rG:=B7 eF.2;have sG:=B7 (show W.sn<=maxLen/\W.pn<=maxLen from⟨h.A3.1,h.A1.1⟩);clear h vE aF jH kH eF;have dI:∀A B:World,A=w.alloc (.cells #[.slice a0 W.pool.n c0,.slice a1 W.pool.hn c1,.int .i64 W.time,.int .i64 W.next,.slice a2 W.sn c2,.slice a3 W.pn c3] 30)->B=A.alloc (.cells #[.slice none 0 0,.slice none 0 0,.int .i64 0,.int .i64 0,.slice none 0 0,.slice none 0 0] 30)->Aj B w.heap.size (.slice a0 W.pool.n c0) (.slice a1 W.pool.hn c1) (.int .i64 W.time) (.int .i64 W.next) (.slice a2 W.sn c2) (.slice a3 W.pn c3)/\Aj B (w.heap.size+1) (.slice none 0 0) (.slice none 0 0) (.int .i64 0) (.int .i64 0) (.slice none 0 0) (.slice none 0 0)/\Below w.heap.size w B/\B.heap.size=w.heap.size+2:=by
  rintro A B ea eb;have G:=A9 w (.cells #[.slice a0 W.pool.n c0,.slice a1 W.pool.hn c1,.int .i64 W.time,.int .i64 W.next,.slice a2 W.sn c2,.slice a3 W.pn c3] 30);have m:=Aj.new w (.slice a0 W.pool.n c0) (.slice a1 W.pool.hn c1) (.int .i64 W.time) (.int .i64 W.next) (.slice a2 W.sn c2) (.slice a3 W.pn c3) 30;have z1:A.heap.size=w.heap.size+1:=(by rw[ea];exact World.size_alloc _ _);rw[<-ea]at G m;have b2:=A9 A (.cells #[.slice none 0 0,.slice none 0 0,.int .i64 0,.int .i64 0,.slice none 0 0,.slice none 0 0] 30);have o:=Aj.new A (.slice none 0 0) (.slice none 0 0) (.int .i64 0) (.int .i64 0) (.slice none 0 0) (.slice none 0 0) 30;have z2:B.heap.size=w.heap.size+2:=(by rw[eb,World.size_alloc,z1]);rw[<-eb,z1]at o;rw[<-eb]at b2;exact⟨m.A0 b2,o,A7 G b2,z2⟩
 obtain⟨hx,hr,H,pD⟩:=dI _ _ rfl rfl;have HX:=B7 hx;have HR:=B7 hr;have bH:=B7 pD;clear dI hx hr pD;go_enter Tryz.func58,Tryz.ntmps58;go_upto_region 1 with fail;generalize (w.alloc (.cells #[.slice a0 W.pool.n c0,.slice a1 W.pool.hn c1,.int .i64 W.time,.int .i64 W.next,.slice a2 W.sn c2,.slice a3 W.pn c3] 30)).alloc (.cells #[.slice none 0 0,.slice none 0 0,.int .i64 0,.int .i64 0,.slice none 0 0,.slice none 0 0] 30)=g at HX HR bH H ⊢
 go_cut [3] (fun v wc=>∃(X:Nat) (L:Option Addr) (M:Nat) (G:Option Addr) (N:Nat) (aS:Option Addr) (cS:Nat) (aZ:Option Addr) (cZ:Nat) (l h Q P:Nat),v = .pointer (some ⟨X,0,none⟩)/\Aj wc X (.slice L W.pool.n M) (.slice G W.pool.hn N) (.int .i64 W.time) (.int .i64 W.next) (.slice aS W.sn cS) (.slice aZ W.pn cZ)/\Cz wc l h (.slice L W.pool.n M) (.slice G W.pool.hn N) W.pool/\(0<W.sn->aS=some ⟨Q,0,none⟩/\h<=Q)/\(0<W.pn->aZ=some ⟨P,0,none⟩/\h<=P/\(0<W.sn->Q<P))/\W.sn<=cS/\W.pn<=cZ/\DQ wc Q wc.heap.size W.sn 0 W.A3 (fun _=>0) kA kA/\DO wc P wc.heap.size W.pn 0 W.A1 (fun _=>0) Z Z/\(X<l\/h<=X)/\(0<W.sn->X≠Q)/\(0<W.pn->X≠P)/\g.heap.size<=X/\g.heap.size<=l/\l<=h/\X<wc.heap.size/\h<=wc.heap.size/\CE wc 44 6 (.slice aS W.sn cS) W.sn/\CE wc 41 8 (.slice aZ W.pn cZ) W.pn/\Below g.heap.size g wc)
 case first=>
  obtain⟨r,m,o,s,t,x⟩:=HX.out.c;refine wp_region_held_drew (S:=(fun w'=>w'.cell? ⟨w.heap.size,0,none⟩=some (.slice a0 W.pool.n c0)/\w'.cell? ⟨w.heap.size,1,none⟩=some (.slice a1 W.pool.hn c1)/\w'.cell? ⟨w.heap.size,2,none⟩=some (.int .i64 W.time)/\w'.cell? ⟨w.heap.size,3,none⟩=some (.int .i64 W.next)/\w'.cell? ⟨w.heap.size,4,none⟩=some (.slice a2 W.sn c2)/\w'.cell? ⟨w.heap.size,5,none⟩=some (.slice a3 W.pn c3))) (by kernel_rfl) ?_ (fun hHeld=>?_)
  · (try dsimp only)
    go_keep
  have mB:Below g.heap.size g g.drew:=(Below.refl _ _).drew;clear r m o s t x;generalize g.drew=q0 at mB hHeld ⊢;refine tk 0 (h:=tk 1 (h:=tk 3 (h:=tk 4 (h:=tk 5 (h:=tk 6 (h:=tk 7 (h:=tk 8 (h:=tk 10 (h:=tk 11 (h:=?_))))))))));refine rd [2,14] (rc (fun K hK=>?_) (rc (fun K hK=>?_) .nil))
  · go_simp
    go_at_call 103;refine(ZK _ _ lo hi W.pool _ ((Hp.out.pool.A0 H).A0 mB) lF).mono ?_;rintro e q1 ⟨u0,u1,rfl,sF,jF⟩;obtain⟨L,M,G,N,rfl,rfl⟩:=sF.C5;have zP:g.heap.size<=q0.heap.size/\q0.heap.size<=q1.heap.size:=⟨mB.size,jF.size⟩;have lC:Below g.heap.size g q1:=A7 mB jF;have y1:=jF.size;obtain⟨r,m,o,s,t,x⟩:=(HX.out.A0 lC).c
    (try go_wp2_with fail)
    refine hK.out _ _ (by(try dsimp only);go_keep) ?_;clear hK K hHeld;intro hHeld
    try simp only[Act.put,s1,s2,s3]
    clear r m o s t x;refine rd [9,14] (rc (fun K hK=>?_) (rc (fun K hK=>?_) .nil))
    · go_simp
      go_at_call 104;refine(Rq a2 W.sn c2 (G5 W.A3 kA W.sn) _ (IG _ _ _) (RI _ _ _ fD.out) fF (fun d=>?_)).mono ?_
      · obtain⟨b,off,ha,hc⟩:=gD.out d
        exact⟨b,off,ha,fun j u O=>((A7 H lC).cell (AZ (hc j u O))).trans (hc j u O)⟩
      rintro e q2 ⟨v2,rfl,aI,oD,fI⟩;have eA:Below g.heap.size g q2:=A7 lC oD;obtain⟨Q,D,E,rfl,nS,Y,mJ⟩:=Rs aI q2.heap.size (Nat.le_refl _);have zS:q1.heap.size<=q2.heap.size:=oD.size;have nI:=IM aI fI;have dJ:=sF.A0 oD;have y2:=oD.size;obtain⟨r,m,o,s,t,x⟩:=(HX.out.A0 eA).c
      (try go_wp2_with fail)
      refine hK.out _ _ (by(try dsimp only);go_keep) ?_;clear hK K hHeld;intro hHeld
      try simp only[Act.put,s1,s2,s3]
      clear r m o s t x;refine rd [12,14] (rc (fun K hK=>?_) (rc (fun K hK=>?_) .nil))
      · go_simp
        go_at_call 105;refine(P3 a3 W.pn c3 (Ei W.A1 Z W.pn) _ (Gk _ _ _) (Ok _ _ _ vB.out) kD (fun d=>?_)).mono ?_
        · obtain⟨b,off,ha,hc⟩:=aC.out d
          exact⟨b,off,ha,fun j u O=>((A7 H eA).cell (AZ (hc j u O))).trans (hc j u O)⟩
        rintro e q3 ⟨v3,rfl,bI,nB,gI⟩;have gF:Below g.heap.size g q3:=A7 eA nB;obtain⟨P,y,z,rfl,nZ,V,dM⟩:=P5 bI q3.heap.size (Nat.le_refl _);have zZ:q2.heap.size<=q3.heap.size:=nB.size;have pL:=IM bI gI;have sL:=dJ.A0 nB;have aM:=mJ.A0 nB;have nL:=nI.A0 nB;have y3:=nB.size;obtain⟨r,m,o,s,t,x⟩:=(HX.out.A0 gF).c
        (try go_wp2_with fail)
        refine hK.out _ _ (by(try dsimp only);go_keep) ?_;clear hK K hHeld;intro hHeld
        try simp only[Act.put,s1,s2,s3]
        clear r m o s t x;refine tk 13 (h:=?_);refine rd [14] (rc (fun K hK=>?_) .nil);go_simp;have tA:=A9 q3 (.cells #[.slice none 0 0,.slice none 0 0,.int .i64 0,.int .i64 0,.slice none 0 0,.slice none 0 0] 30);have lD:Below g.heap.size g (q3.alloc (.cells #[.slice none 0 0,.slice none 0 0,.int .i64 0,.int .i64 0,.slice none 0 0,.slice none 0 0] 30)):=A7 gF tA;have tF:Aj (q3.alloc (.cells #[.slice none 0 0,.slice none 0 0,.int .i64 0,.int .i64 0,.slice none 0 0,.slice none 0 0] 30)) q3.heap.size (.slice none 0 0) (.slice none 0 0) (.int .i64 0) (.int .i64 0) (.slice none 0 0) (.slice none 0 0):=Aj.new _ _ _ _ _ _ _ _;have zV:g.heap.size<=q3.heap.size/\q3.heap.size+1=(q3.alloc (.cells #[.slice none 0 0,.slice none 0 0,.int .i64 0,.int .i64 0,.slice none 0 0,.slice none 0 0] 30)).heap.size:=⟨gF.size,(World.size_alloc _ _).symm⟩;have eJ:=sL.A0 tA;have nJ:=aM.A0 tA;have dK:=dM.A0 tA;have oI:=nL.A0 tA;have tI:=pL.A0 tA;obtain⟨r,m,o,s,t,x⟩:=(HX.out.A0 lD).c
        (try go_wp2_with fail)
        refine hK.out _ _ (by(try dsimp only);go_keep) ?_;clear hK K hHeld;intro hHeld
        try simp only[Act.put,s1,s2,s3]
        clear r m o s t x;generalize q3.alloc (.cells #[.slice none 0 0,.slice none 0 0,.int .i64 0,.int .i64 0,.slice none 0 0,.slice none 0 0] 30)=q4 at lD zV eJ nJ dK tF oI tI hHeld tA ⊢;refine rd [15] (rc (fun K hK=>?_) .nil);have J:=AI.put6 q4 (q3.heap.size) (.slice L W.pool.n M) (.slice G W.pool.hn N) (.int .i64 W.time) (.int .i64 W.next) (.slice D W.sn E) (.slice y W.pn z);have R:Below g.heap.size g (put6 q4 (q3.heap.size) (.slice L W.pool.n M) (.slice G W.pool.hn N) (.int .i64 W.time) (.int .i64 W.next) (.slice D W.sn E) (.slice y W.pn z)):=lD.trans (J.A0 (B:=g.heap.size) lD.size (fun k e=>by omega));have kV:=tF.put (.slice L W.pool.n M) (.slice G W.pool.hn N) (.int .i64 W.time) (.int .i64 W.next) (.slice D W.sn E) (.slice y W.pn z);obtain⟨⟨y0,bG⟩,⟨y1,cG⟩,⟨y2,dG⟩,⟨y3,eG⟩,⟨y4,fG⟩,⟨y5,gG⟩⟩:=tF;obtain⟨r,m,o,s,t,x⟩:=(HX.out.A0 R).c;go_simp
        (try go_wp2_with fail)
        refine hK.out _ _ (by(try dsimp only);go_keep) ?_;clear hK K hHeld;intro hHeld
        try simp only[Act.put,s1,s2,s3]
        clear r m o s t x;refine wpAnyH_done (by kernel_rfl) ?_ _;have C:(put6 q4 (q3.heap.size) (.slice L W.pool.n M) (.slice G W.pool.hn N) (.int .i64 W.time) (.int .i64 W.next) (.slice D W.sn E) (.slice y W.pn z)).heap.size=q4.heap.size:=(by simp only[World.size_setCell]);go_wp2_with fail
        go_meet
        case rel=>
         refine⟨_,_,_,_,_,_,_,_,_,_,_,Q,P,rfl,kV,eJ.AH J (fun k e=>by omega),fun d=>⟨(Y d).1,by have:=Y d;omega⟩,fun d=>⟨(V d).1,by have:=V d;omega,fun h1=>by have:=V d;have:=Y h1;omega⟩,nS,nZ,(nJ.turned0 J (fun q e d e2=>by have:=Y d;omega)).weak (by rw[C];omega),(dK.turned0 J (fun q e d e2=>by have:=V d;omega)).weak (by rw[C];omega),by omega,fun d=>by have:=Y d;omega,fun d=>by have:=V d;omega,by omega,by omega,by omega,by rw[C];omega,by rw[C];omega,((((((oI.set _ _).set _ _).set _ _).set _ _).set _ _).set _ _),((((((tI.set _ _).set _ _).set _ _).set _ _).set _ _).set _ _),R⟩
      · go_simp
        have tC:=A9 q2 (.cells #[.slice none 0 0,.slice none 0 0,.int .i64 0,.int .i64 0,.slice none 0 0,.slice none 0 0] 30);have mD:Below g.heap.size g (q2.alloc (.cells #[.slice none 0 0,.slice none 0 0,.int .i64 0,.int .i64 0,.slice none 0 0,.slice none 0 0] 30)):=A7 eA tC;have tJ:Aj (q2.alloc (.cells #[.slice none 0 0,.slice none 0 0,.int .i64 0,.int .i64 0,.slice none 0 0,.slice none 0 0] 30)) q2.heap.size (.slice none 0 0) (.slice none 0 0) (.int .i64 0) (.int .i64 0) (.slice none 0 0) (.slice none 0 0):=Aj.new _ _ _ _ _ _ _ _;have zV:g.heap.size<=q2.heap.size/\q2.heap.size+1=(q2.alloc (.cells #[.slice none 0 0,.slice none 0 0,.int .i64 0,.int .i64 0,.slice none 0 0,.slice none 0 0] 30)).heap.size:=⟨eA.size,(World.size_alloc _ _).symm⟩;have fJ:=dJ.A0 tC;have oJ:=mJ.A0 tC;have pI:=nI.A0 tC;obtain⟨r,m,o,s,t,x⟩:=(HX.out.A0 mD).c
        (try go_wp2_with fail)
        refine hK.out _ _ (by(try dsimp only);go_keep) ?_;clear hK K hHeld;intro hHeld
        try simp only[Act.put,s1,s2,s3]
        clear r m o s t x;generalize q2.alloc (.cells #[.slice none 0 0,.slice none 0 0,.int .i64 0,.int .i64 0,.slice none 0 0,.slice none 0 0] 30)=q6 at mD zV fJ oJ tJ pI hHeld tC ⊢;refine rd [12] (rc (fun K hK=>?_) .nil);go_simp;go_at_call 105;refine(P3 a3 W.pn c3 (Ei W.A1 Z W.pn) _ (Gk _ _ _) (Ok _ _ _ vB.out) kD (fun d=>?_)).mono ?_
        · obtain⟨b,off,ha,hc⟩:=aC.out d
          exact⟨b,off,ha,fun j u O=>((A7 H mD).cell (AZ (hc j u O))).trans (hc j u O)⟩
        rintro e q7 ⟨v7,rfl,cI,vA,iI⟩;have iF:Below g.heap.size g q7:=A7 mD vA;obtain⟨P,y,z,rfl,nZ,V,eM⟩:=P5 cI q7.heap.size (Nat.le_refl _);have zZ:q6.heap.size<=q7.heap.size:=vA.size;have rL:=IM cI iI;have tL:=fJ.A0 vA;have bM:=oJ.A0 vA;have vJ:=tJ.A0 vA;have oL:=pI.A0 vA;have y7:=vA.size;obtain⟨r,m,o,s,t,x⟩:=(HX.out.A0 iF).c
        (try go_wp2_with fail)
        refine hK.out _ _ (by(try dsimp only);go_keep) ?_;clear hK K hHeld;intro hHeld
        try simp only[Act.put,s1,s2,s3]
        clear r m o s t x;refine tk 13 (h:=?_);refine rd [15] (rc (fun K hK=>?_) .nil);have J:=AI.put6 q7 (q2.heap.size) (.slice L W.pool.n M) (.slice G W.pool.hn N) (.int .i64 W.time) (.int .i64 W.next) (.slice D W.sn E) (.slice y W.pn z);have R:Below g.heap.size g (put6 q7 (q2.heap.size) (.slice L W.pool.n M) (.slice G W.pool.hn N) (.int .i64 W.time) (.int .i64 W.next) (.slice D W.sn E) (.slice y W.pn z)):=iF.trans (J.A0 (B:=g.heap.size) iF.size (fun k e=>by omega));have kV:=vJ.put (.slice L W.pool.n M) (.slice G W.pool.hn N) (.int .i64 W.time) (.int .i64 W.next) (.slice D W.sn E) (.slice y W.pn z);obtain⟨⟨y0,bG⟩,⟨y1,cG⟩,⟨y2,dG⟩,⟨y3,eG⟩,⟨y4,fG⟩,⟨y5,gG⟩⟩:=vJ;obtain⟨r,m,o,s,t,x⟩:=(HX.out.A0 R).c;go_simp
        (try go_wp2_with fail)
        refine hK.out _ _ (by(try dsimp only);go_keep) ?_;clear hK K hHeld;intro hHeld
        try simp only[Act.put,s1,s2,s3]
        clear r m o s t x;refine wpAnyH_done (by kernel_rfl) ?_ _;have C:(put6 q7 (q2.heap.size) (.slice L W.pool.n M) (.slice G W.pool.hn N) (.int .i64 W.time) (.int .i64 W.next) (.slice D W.sn E) (.slice y W.pn z)).heap.size=q7.heap.size:=(by simp only[World.size_setCell]);go_wp2_with fail
        go_meet
        case rel=>
         refine⟨_,_,_,_,_,_,_,_,_,_,_,Q,P,rfl,kV,tL.AH J (fun k e=>by omega),fun d=>⟨(Y d).1,by have:=Y d;omega⟩,fun d=>⟨(V d).1,by have:=V d;omega,fun h1=>by have:=V d;have:=Y h1;omega⟩,nS,nZ,(bM.turned0 J (fun q e d e2=>by have:=Y d;omega)).weak (by rw[C];omega),(eM.turned0 J (fun q e d e2=>by have:=V d;omega)).weak (by rw[C];omega),by omega,fun d=>by have:=Y d;omega,fun d=>by have:=V d;omega,by omega,by omega,by omega,by rw[C];omega,by rw[C];omega,((((((oL.set _ _).set _ _).set _ _).set _ _).set _ _).set _ _),((((((rL.set _ _).set _ _).set _ _).set _ _).set _ _).set _ _),R⟩
    · go_simp
      have kF:=A9 q1 (.cells #[.slice none 0 0,.slice none 0 0,.int .i64 0,.int .i64 0,.slice none 0 0,.slice none 0 0] 30);have nD:Below g.heap.size g (q1.alloc (.cells #[.slice none 0 0,.slice none 0 0,.int .i64 0,.int .i64 0,.slice none 0 0,.slice none 0 0] 30)):=A7 lC kF;have aK:Aj (q1.alloc (.cells #[.slice none 0 0,.slice none 0 0,.int .i64 0,.int .i64 0,.slice none 0 0,.slice none 0 0] 30)) q1.heap.size (.slice none 0 0) (.slice none 0 0) (.int .i64 0) (.int .i64 0) (.slice none 0 0) (.slice none 0 0):=Aj.new _ _ _ _ _ _ _ _;have zV:g.heap.size<=q1.heap.size/\q1.heap.size+1=(q1.alloc (.cells #[.slice none 0 0,.slice none 0 0,.int .i64 0,.int .i64 0,.slice none 0 0,.slice none 0 0] 30)).heap.size:=⟨lC.size,(World.size_alloc _ _).symm⟩;have gJ:=sF.A0 kF;obtain⟨r,m,o,s,t,x⟩:=(HX.out.A0 nD).c
      (try go_wp2_with fail)
      refine hK.out _ _ (by(try dsimp only);go_keep) ?_;clear hK K hHeld;intro hHeld
      try simp only[Act.put,s1,s2,s3]
      clear r m o s t x;generalize q1.alloc (.cells #[.slice none 0 0,.slice none 0 0,.int .i64 0,.int .i64 0,.slice none 0 0,.slice none 0 0] 30)=q9 at nD zV gJ aK hHeld kF ⊢;refine rd [9] (rc (fun K hK=>?_) .nil);go_simp;go_at_call 104;refine(Rq a2 W.sn c2 (G5 W.A3 kA W.sn) _ (IG _ _ _) (RI _ _ _ fD.out) fF (fun d=>?_)).mono ?_
      · obtain⟨b,off,ha,hc⟩:=gD.out d
        exact⟨b,off,ha,fun j u O=>((A7 H nD).cell (AZ (hc j u O))).trans (hc j u O)⟩
      rintro e vD ⟨vO,rfl,eE,nA,nF⟩;have mC:Below g.heap.size g vD:=A7 nD nA;obtain⟨Q,D,E,rfl,nS,Y,iJ⟩:=Rs eE vD.heap.size (Nat.le_refl _);have zS:q9.heap.size<=vD.heap.size:=nA.size;have jI:=IM eE nF;have vI:=gJ.A0 nA;have pJ:=aK.A0 nA;have iP:=nA.size;obtain⟨r,m,o,s,t,x⟩:=(HX.out.A0 mC).c
      (try go_wp2_with fail)
      refine hK.out _ _ (by(try dsimp only);go_keep) ?_;clear hK K hHeld;intro hHeld
      try simp only[Act.put,s1,s2,s3]
      clear r m o s t x;refine rd [12] (rc (fun K hK=>?_) .nil);go_simp;go_at_call 105;refine(P3 a3 W.pn c3 (Ei W.A1 Z W.pn) _ (Gk _ _ _) (Ok _ _ _ vB.out) kD (fun d=>?_)).mono ?_
      · obtain⟨b,off,ha,hc⟩:=aC.out d
        exact⟨b,off,ha,fun j u O=>((A7 H mC).cell (AZ (hc j u O))).trans (hc j u O)⟩
      rintro e aB ⟨aP,rfl,fE,T,oF⟩;have nC:Below g.heap.size g aB:=A7 mC T;obtain⟨P,y,z,rfl,nZ,V,bK⟩:=P5 fE aB.heap.size (Nat.le_refl _);have zZ:vD.heap.size<=aB.heap.size:=T.size;have rI:=IM fE oF;have aJ:=vI.A0 T;have jJ:=iJ.A0 T;have kE:=pJ.A0 T;have kI:=jI.A0 T;have jP:=T.size;obtain⟨r,m,o,s,t,x⟩:=(HX.out.A0 nC).c
      (try go_wp2_with fail)
      refine hK.out _ _ (by(try dsimp only);go_keep) ?_;clear hK K hHeld;intro hHeld
      try simp only[Act.put,s1,s2,s3]
      clear r m o s t x;refine tk 13 (h:=?_);refine rd [15] (rc (fun K hK=>?_) .nil);have J:=AI.put6 aB (q1.heap.size) (.slice L W.pool.n M) (.slice G W.pool.hn N) (.int .i64 W.time) (.int .i64 W.next) (.slice D W.sn E) (.slice y W.pn z);have R:Below g.heap.size g (put6 aB (q1.heap.size) (.slice L W.pool.n M) (.slice G W.pool.hn N) (.int .i64 W.time) (.int .i64 W.next) (.slice D W.sn E) (.slice y W.pn z)):=nC.trans (J.A0 (B:=g.heap.size) nC.size (fun k e=>by omega));have kV:=kE.put (.slice L W.pool.n M) (.slice G W.pool.hn N) (.int .i64 W.time) (.int .i64 W.next) (.slice D W.sn E) (.slice y W.pn z);obtain⟨⟨y0,bG⟩,⟨y1,cG⟩,⟨y2,dG⟩,⟨y3,eG⟩,⟨y4,fG⟩,⟨y5,gG⟩⟩:=kE;obtain⟨r,m,o,s,t,x⟩:=(HX.out.A0 R).c;go_simp
      (try go_wp2_with fail)
      refine hK.out _ _ (by(try dsimp only);go_keep) ?_;clear hK K hHeld;intro hHeld
      try simp only[Act.put,s1,s2,s3]
      clear r m o s t x;refine wpAnyH_done (by kernel_rfl) ?_ _;have C:(put6 aB (q1.heap.size) (.slice L W.pool.n M) (.slice G W.pool.hn N) (.int .i64 W.time) (.int .i64 W.next) (.slice D W.sn E) (.slice y W.pn z)).heap.size=aB.heap.size:=(by simp only[World.size_setCell]);go_wp2_with fail
      go_meet
      case rel=>
       refine⟨_,_,_,_,_,_,_,_,_,_,_,Q,P,rfl,kV,aJ.AH J (fun k e=>by omega),fun d=>⟨(Y d).1,by have:=Y d;omega⟩,fun d=>⟨(V d).1,by have:=V d;omega,fun h1=>by have:=V d;have:=Y h1;omega⟩,nS,nZ,(jJ.turned0 J (fun q e d e2=>by have:=Y d;omega)).weak (by rw[C];omega),(bK.turned0 J (fun q e d e2=>by have:=V d;omega)).weak (by rw[C];omega),by omega,fun d=>by have:=Y d;omega,fun d=>by have:=V d;omega,by omega,by omega,by omega,by rw[C];omega,by rw[C];omega,((((((kI.set _ _).set _ _).set _ _).set _ _).set _ _).set _ _),((((((rI.set _ _).set _ _).set _ _).set _ _).set _ _).set _ _),R⟩
  · go_simp
    have cE:=A9 q0 (.cells #[.slice none 0 0,.slice none 0 0,.int .i64 0,.int .i64 0,.slice none 0 0,.slice none 0 0] 30);have mA:Below g.heap.size g (q0.alloc (.cells #[.slice none 0 0,.slice none 0 0,.int .i64 0,.int .i64 0,.slice none 0 0,.slice none 0 0] 30)):=A7 mB cE;have lE:Aj (q0.alloc (.cells #[.slice none 0 0,.slice none 0 0,.int .i64 0,.int .i64 0,.slice none 0 0,.slice none 0 0] 30)) q0.heap.size (.slice none 0 0) (.slice none 0 0) (.int .i64 0) (.int .i64 0) (.slice none 0 0) (.slice none 0 0):=Aj.new _ _ _ _ _ _ _ _;have zV:g.heap.size<=q0.heap.size/\q0.heap.size+1=(q0.alloc (.cells #[.slice none 0 0,.slice none 0 0,.int .i64 0,.int .i64 0,.slice none 0 0,.slice none 0 0] 30)).heap.size:=⟨mB.size,(World.size_alloc _ _).symm⟩;obtain⟨r,m,o,s,t,x⟩:=(HX.out.A0 mA).c
    (try go_wp2_with fail)
    refine hK.out _ _ (by(try dsimp only);go_keep) ?_;clear hK K hHeld;intro hHeld
    try simp only[Act.put,s1,s2,s3]
    clear r m o s t x;generalize q0.alloc (.cells #[.slice none 0 0,.slice none 0 0,.int .i64 0,.int .i64 0,.slice none 0 0,.slice none 0 0] 30)=q13 at mA zV lE hHeld cE ⊢;refine rd [2] (rc (fun K hK=>?_) .nil);go_simp;go_at_call 103;refine(ZK _ _ lo hi W.pool _ ((Hp.out.pool.A0 H).A0 mA) lF).mono ?_;rintro e vF ⟨u0,u1,rfl,jE,fB⟩;obtain⟨L,M,G,N,rfl,rfl⟩:=jE.C5;have zP:g.heap.size<=q13.heap.size/\q13.heap.size<=vF.heap.size:=⟨mA.size,fB.size⟩;have oC:Below g.heap.size g vF:=A7 mA fB;have rJ:=lE.A0 fB;have lP:=fB.size;obtain⟨r,m,o,s,t,x⟩:=(HX.out.A0 oC).c
    (try go_wp2_with fail)
    refine hK.out _ _ (by(try dsimp only);go_keep) ?_;clear hK K hHeld;intro hHeld
    try simp only[Act.put,s1,s2,s3]
    clear r m o s t x;refine rd [9] (rc (fun K hK=>?_) .nil);go_simp;go_at_call 104;refine(Rq a2 W.sn c2 (G5 W.A3 kA W.sn) _ (IG _ _ _) (RI _ _ _ fD.out) fF (fun d=>?_)).mono ?_
    · obtain⟨b,off,ha,hc⟩:=gD.out d
      exact⟨b,off,ha,fun j u O=>((A7 H oC).cell (AZ (hc j u O))).trans (hc j u O)⟩
    rintro e aE ⟨bP,rfl,gE,oA,pF⟩;have pC:Below g.heap.size g aE:=A7 oC oA;obtain⟨Q,D,E,rfl,nS,Y,kJ⟩:=Rs gE aE.heap.size (Nat.le_refl _);have zS:vF.heap.size<=aE.heap.size:=oA.size;have lI:=IM gE pF;have bJ:=jE.A0 oA;have sJ:=rJ.A0 oA;have mP:=oA.size;obtain⟨r,m,o,s,t,x⟩:=(HX.out.A0 pC).c
    (try go_wp2_with fail)
    refine hK.out _ _ (by(try dsimp only);go_keep) ?_;clear hK K hHeld;intro hHeld
    try simp only[Act.put,s1,s2,s3]
    clear r m o s t x;refine rd [12] (rc (fun K hK=>?_) .nil);go_simp;go_at_call 105;refine(P3 a3 W.pn c3 (Ei W.A1 Z W.pn) _ (Gk _ _ _) (Ok _ _ _ vB.out) kD (fun d=>?_)).mono ?_
    · obtain⟨b,off,ha,hc⟩:=aC.out d
      exact⟨b,off,ha,fun j u O=>((A7 H pC).cell (AZ (hc j u O))).trans (hc j u O)⟩
    rintro e bB ⟨cP,rfl,iE,U,rF⟩;have rC:Below g.heap.size g bB:=A7 pC U;obtain⟨P,y,z,rfl,nZ,V,cK⟩:=P5 iE bB.heap.size (Nat.le_refl _);have zZ:aE.heap.size<=bB.heap.size:=U.size;have sI:=IM iE rF;have cJ:=bJ.A0 U;have lJ:=kJ.A0 U;have mE:=sJ.A0 U;have mI:=lI.A0 U;have nP:=U.size;obtain⟨r,m,o,s,t,x⟩:=(HX.out.A0 rC).c
    (try go_wp2_with fail)
    refine hK.out _ _ (by(try dsimp only);go_keep) ?_;clear hK K hHeld;intro hHeld
    try simp only[Act.put,s1,s2,s3]
    clear r m o s t x;refine tk 13 (h:=?_);refine rd [15] (rc (fun K hK=>?_) .nil);have J:=AI.put6 bB (q0.heap.size) (.slice L W.pool.n M) (.slice G W.pool.hn N) (.int .i64 W.time) (.int .i64 W.next) (.slice D W.sn E) (.slice y W.pn z);have R:Below g.heap.size g (put6 bB (q0.heap.size) (.slice L W.pool.n M) (.slice G W.pool.hn N) (.int .i64 W.time) (.int .i64 W.next) (.slice D W.sn E) (.slice y W.pn z)):=rC.trans (J.A0 (B:=g.heap.size) rC.size (fun k e=>by omega));have kV:=mE.put (.slice L W.pool.n M) (.slice G W.pool.hn N) (.int .i64 W.time) (.int .i64 W.next) (.slice D W.sn E) (.slice y W.pn z);obtain⟨⟨y0,bG⟩,⟨y1,cG⟩,⟨y2,dG⟩,⟨y3,eG⟩,⟨y4,fG⟩,⟨y5,gG⟩⟩:=mE;obtain⟨r,m,o,s,t,x⟩:=(HX.out.A0 R).c;go_simp
    (try go_wp2_with fail)
    refine hK.out _ _ (by(try dsimp only);go_keep) ?_;clear hK K hHeld;intro hHeld
    try simp only[Act.put,s1,s2,s3]
    clear r m o s t x;refine wpAnyH_done (by kernel_rfl) ?_ _;have C:(put6 bB (q0.heap.size) (.slice L W.pool.n M) (.slice G W.pool.hn N) (.int .i64 W.time) (.int .i64 W.next) (.slice D W.sn E) (.slice y W.pn z)).heap.size=bB.heap.size:=(by simp only[World.size_setCell]);go_wp2_with fail
    go_meet
    case rel=>
     refine⟨_,_,_,_,_,_,_,_,_,_,_,Q,P,rfl,kV,cJ.AH J (fun k e=>by omega),fun d=>⟨(Y d).1,by have:=Y d;omega⟩,fun d=>⟨(V d).1,by have:=V d;omega,fun h1=>by have:=V d;have:=Y h1;omega⟩,nS,nZ,(lJ.turned0 J (fun q e d e2=>by have:=Y d;omega)).weak (by rw[C];omega),(cK.turned0 J (fun q e d e2=>by have:=V d;omega)).weak (by rw[C];omega),by omega,fun d=>by have:=Y d;omega,fun d=>by have:=V d;omega,by omega,by omega,by omega,by rw[C];omega,by rw[C];omega,((((((mI.set _ _).set _ _).set _ _).set _ _).set _ _).set _ _),((((((sI.set _ _).set _ _).set _ _).set _ _).set _ _).set _ _),R⟩
 case rest=>
  obtain⟨X,L,M,G,N,aS,cS,aZ,cZ,l,h,Q,P,rfl,kV,kP,hS,hZ,nS,nZ,kS,kZ,rN,nH,oH,z1,z2,z3,z4,z5,rA,rB,pH⟩:=hcut;have oE:=B7 kV;have tG:=B7 kP;have eC:=B7 hS;have jA:=B7 hZ;have eN:=H.size;have oN:=bH.out;have HS:=B7 kS;have HZ:=B7 kZ;have vH:=kS.lt;have dE:=kZ.lt;clear kV kP hS hZ kS kZ HX lF fD vB gD aC;obtain⟨r,m,o,s,t,x⟩:=oE.out.c;go_wp2;clear r m o s t x
  go_loopw [4,5,25] (fun _ _ i wr=>∃(k:Nat) (kb:Nat->Nat) (kv:Nat->Value),k<=W.sn/\i = .int .i64 k/\DQ wr Q wc.heap.size W.sn k W.A3 kb kv kA/\Aj wr X (.slice L W.pool.n M) (.slice G W.pool.hn N) (.int .i64 W.time) (.int .i64 W.next) (.slice aS W.sn cS) (.slice aZ W.pn cZ)/\wc.heap.size<=wr.heap.size/\Cz wr l h (.slice L W.pool.n M) (.slice G W.pool.hn N) W.pool/\DO wr P wc.heap.size W.pn 0 W.A1 (fun _=>0) Z Z/\(Below g.heap.size g wr/\CE wr 44 6 (.slice aS W.sn cS) W.sn/\CE wr 41 8 (.slice aZ W.pn cZ) W.pn/\∀j,j<k->CE wr 38 2 (kv j) (W.A3 j).dn)) (fun _ _ i _=>W.sn - (intOf i).toNat)
  case atStart=>exact⟨0,_,_,Nat.zero_le _,rfl,HS.out,oE.out,Nat.le_refl _,tG.out,HZ.out,pH,rA,rB,fun j O=>absurd O (Nat.not_lt_zero _)⟩
  case round=>
   obtain⟨k,kb,kv,hk,rfl,hh,hI⟩:=hrel;have Hh:=B7 hh;have F:=B7 hI;clear hh hI;by_cases I:k<W.sn
   · have tH:(k:Int)<(W.sn:Int):=by omega
     have eL:=F.out.2.1;have gL:=Hh.out.lt (by omega);obtain rfl:=(eC.out (by omega)).1;obtain⟨-,da,dc,fA,-⟩:=id (fC.out k I).1;have hD:=(fC.out k I).1;rw[fA]at hD;have HD:=B7 hD;clear hD;obtain⟨⟨d,g0⟩,⟨h1,g1⟩,⟨h2,g2⟩,⟨h3,g3⟩,⟨h4,g4⟩,⟨h5,g5⟩⟩:=Hh.out.Dv k I;rw[if_neg (by omega),fA]at h5;obtain⟨r,m,o,s,t,x⟩:=F.out.1.c;have ha:=A9 wr (.cells #[.string (W.A3 k).name,.int .i64 (W.A3 k).origin,.int .i64 (W.A3 k).A6,.int .i64 (W.A3 k).rs,.int .i64 (W.A3 k).rb,.slice da (W.A3 k).dn dc] 44);have hy:=Aj.new wr (.string (W.A3 k).name) (.int .i64 (W.A3 k).origin) (.int .i64 (W.A3 k).A6) (.int .i64 (W.A3 k).rs) (.int .i64 (W.A3 k).rb) (.slice da (W.A3 k).dn dc) 44;have mF:(wr.alloc (.cells #[.string (W.A3 k).name,.int .i64 (W.A3 k).origin,.int .i64 (W.A3 k).A6,.int .i64 (W.A3 k).rs,.int .i64 (W.A3 k).rb,.slice da (W.A3 k).dn dc] 44)).heap.size=wr.heap.size+1:=World.size_alloc _ _;have HY:=B7 hy;have HA:=B7 ha;clear hy;go_wp2_with fail;clear d g0 h1 g1 h2 g2 h3 g3 h4 g4 h5 g5 r m o s t x;have dA:=B7 (Hh.out.A0 HA.out);have bD:=A7 H (A7 F.out.2.2.2.2.1 HA.out);have cC:=B7 (HD.out.A0 bD);have cA:=B7 (F.out.1.A0 HA.out);have hV:wr.heap.size<wr.heap.size+1:=(by omega);generalize wr.alloc (.cells #[.string (W.A3 k).name,.int .i64 (W.A3 k).origin,.int .i64 (W.A3 k).A6,.int .i64 (W.A3 k).rs,.int .i64 (W.A3 k).rb,.slice da (W.A3 k).dn dc] 44)=W1 at HY HA dA bD cC cA mF ⊢;obtain⟨r,m,o,s,t,x⟩:=cA.out.c;obtain⟨y0,y1,y2,y3,y4,y5⟩:=HY.out.c;obtain⟨⟨d,g0⟩,⟨h1,g1⟩,⟨h2,g2⟩,⟨h3,g3⟩,⟨h4,g4⟩,⟨h5,g5⟩⟩:=dA.out.Dv k I;rw[if_neg (by omega),fA]at h5;have e1:X≠Q:=nH (by omega);have bL:=e1.symm;have e2:wr.heap.size≠Q:=(by omega);have cL:=e2.symm;go_region_held3 (fun w'=>w'.cell? ⟨X,4,none⟩=some (.slice (some ⟨Q,0,none⟩) W.sn cS)/\w'.cell? ⟨wr.heap.size,5,none⟩=some (.slice da (W.A3 k).dn dc)) (go_keep)
      (first
        | (go_at_call 106
           refine(ZU _ (W.A3 k).dn lo hi (W.A3 k).ds (W.A3 k).db _ (cC.out.A0 (Below.refl _ _).drew) (pG.out k I)).mono ?_;rintro e w2 ⟨⟨nv,nb,rfl,pA,vC,aD⟩,eA⟩;have p:=Cp eA;obtain⟨_,na,nc,rfl,_⟩:=id vC;obtain⟨z0,z1,z2,z3,z4,z5⟩:=(cA.out.A0 p).c;obtain⟨v0,v1,v2,v3,v4,v5⟩:=(HY.out.A0 p).c;obtain⟨⟨p0,iM⟩,⟨p1,jM⟩,⟨p2,kM⟩,⟨p3,lM⟩,⟨p4,mM⟩,⟨p5,nM⟩⟩:=(dA.out.A0 p).Dv k I;rw[if_neg (by omega),fA]at p5))
     have mL:=p.size;have tE:=B7 (dA.out.next I (by omega) p vC (fun d=>by have:=aD d;have hd:W1.drew.heap.size=W1.heap.size:=rfl;omega));have J:=AI.put w2 Q (k*6+5) (.slice na (W.A3 k).dn nc);have hB:=A7 HA.out p;have pE:=B7 (F.out.2.2.2.1);have iA:=B7 (F.out.2.2.2.2.2);have rE:=B7 pA;clear pA;go_wp2;go_roundw
     case rel=>
      refine⟨k+1,_,_,by omega,by go_num,tE.out,(cA.out.A0 p).AH J (fun e=>(nH (by omega)) e),by simp only[World.size_setCell];omega,(F.out.2.2.1.A0 hB).AH J (fun q e=>by have:=(eC.out (by omega)).2;omega),(pE.out.A0 hB).AH J (fun q e=>⟨fun d e2=>by have:=(jA.out d).2.2 (by omega);omega,by omega⟩) (Nat.zero_le _),(A7 F.out.2.2.2.2.1 hB).setCell (by show g.heap.size<=Q;have:=(eC.out (by omega)).2;omega) _,(iA.out.1.A0 hB).set _ _,(iA.out.2.1.A0 hB).set _ _,fun j O=>?_⟩;by_cases e:j=k
      · subst e
        simp only[if_true];exact rE.out.set _ _
      · simp only[if_neg e]
        exact((iA.out.2.2 j (by omega)).A0 hB).set _ _
     case measure=>simp[intOf];omega
   · obtain rfl:k=W.sn:=by omega
     generalize wr=wA at Hh F ⊢;generalize kb=kbS at Hh;generalize kv=kvS at Hh F;have fL:=F.out.2.1;have tK:=B7 Hh.out;have sK:=B7 (show ∀j,j<W.sn->0<(W.A3 j).dn->wc.heap.size<=kbS j/\kbS j<wA.heap.size from Hh.out.Bn);have bE:=B7 F.out.1;have vG:=B7 F.out.2.2.1;have cH:=B7 (F.out.2.2.2.1.weak fL);have rH:=F.out.2.2.2.2.1;have dC:=B7 F.out.2.2.2.2.2;clear Hh F HZ HS oE tG pH;have HZ:=cH;clear cH;obtain⟨r,m,o,s,t,x⟩:=bE.out.c;go_wp2;clear r m o s t x
     go_loopw [6,7,42] (fun _ _ i wr=>∃(k:Nat) (kb:Nat->Nat) (kv:Nat->Value),k<=W.pn/\i = .int .i64 k/\DO wr P wA.heap.size W.pn k W.A1 kb kv Z/\Aj wr X (.slice L W.pool.n M) (.slice G W.pool.hn N) (.int .i64 W.time) (.int .i64 W.next) (.slice aS W.sn cS) (.slice aZ W.pn cZ)/\wA.heap.size<=wr.heap.size/\Cz wr l h (.slice L W.pool.n M) (.slice G W.pool.hn N) W.pool/\DQ wr Q wc.heap.size W.sn W.sn W.A3 kbS kvS kA/\(Below g.heap.size g wr/\CE wr 44 6 (.slice aS W.sn cS) W.sn/\CE wr 41 8 (.slice aZ W.pn cZ) W.pn/\(∀j,j<W.sn->CE wr 38 2 (kvS j) (W.A3 j).dn)/\∀j,j<k->CE wr 38 2 (kv j) (W.A1 j).dn)) (fun _ _ i _=>W.pn - (intOf i).toNat)
     case atStart=>exact⟨0,_,_,Nat.zero_le _,rfl,HZ.out,bE.out,Nat.le_refl _,vG.out,tK.out,rH,dC.out.1,dC.out.2.1,dC.out.2.2,fun j O=>absurd O (Nat.not_lt_zero _)⟩
     case round=>
      obtain⟨k,kb,kv,hk,rfl,hh,hI⟩:=hrel;have Hh:=B7 hh;have F:=B7 hI;clear hh hI;by_cases I:k<W.pn
      · have tH:(k:Int)<(W.pn:Int):=by omega
        have eL:=F.out.2.1;have gL:=Hh.out.lt (by omega);obtain rfl:=(jA.out (by omega)).1;obtain⟨-,da,dc,fA,-⟩:=id (iC.out k I).1;have hD:=(iC.out k I).1;rw[fA]at hD;have HD:=B7 hD;clear hD;obtain⟨⟨d,g0⟩,⟨h1,g1⟩,⟨h2,g2⟩,⟨h3,g3⟩,⟨h4,g4⟩,⟨h5,g5⟩,⟨h6,g6⟩,⟨h7,g7⟩⟩:=Hh.out.Dv k I;rw[if_neg (by omega),fA]at h7;obtain⟨r,m,o,s,t,x⟩:=F.out.1.c;have ha:=A9 wr (.cells #[.int .i64 (W.A1 k).id,.string (W.A1 k).name,.string (W.A1 k).set,.int .i64 (W.A1 k).A6,.int .i64 (W.A1 k).time,.int .i64 (W.A1 k).rs,.int .i64 (W.A1 k).rb,.slice da (W.A1 k).dn dc] 41);have hy:=KH.new wr (.int .i64 (W.A1 k).id) (.string (W.A1 k).name) (.string (W.A1 k).set) (.int .i64 (W.A1 k).A6) (.int .i64 (W.A1 k).time) (.int .i64 (W.A1 k).rs) (.int .i64 (W.A1 k).rb) (.slice da (W.A1 k).dn dc) 41;have mF:(wr.alloc (.cells #[.int .i64 (W.A1 k).id,.string (W.A1 k).name,.string (W.A1 k).set,.int .i64 (W.A1 k).A6,.int .i64 (W.A1 k).time,.int .i64 (W.A1 k).rs,.int .i64 (W.A1 k).rb,.slice da (W.A1 k).dn dc] 41)).heap.size=wr.heap.size+1:=World.size_alloc _ _;have HY:=B7 hy;have HA:=B7 ha;clear hy;go_wp2_with fail;clear d g0 h1 g1 h2 g2 h3 g3 h4 g4 h5 g5 h6 g6 h7 g7 r m o s t x;have dA:=B7 (Hh.out.A0 HA.out);have bD:=A7 H (A7 F.out.2.2.2.2.1 HA.out);have cC:=B7 (HD.out.A0 bD);have cA:=B7 (F.out.1.A0 HA.out);have hV:wr.heap.size<wr.heap.size+1:=(by omega);generalize wr.alloc (.cells #[.int .i64 (W.A1 k).id,.string (W.A1 k).name,.string (W.A1 k).set,.int .i64 (W.A1 k).A6,.int .i64 (W.A1 k).time,.int .i64 (W.A1 k).rs,.int .i64 (W.A1 k).rb,.slice da (W.A1 k).dn dc] 41)=W1 at HY HA dA bD cC cA mF ⊢;obtain⟨r,m,o,s,t,x⟩:=cA.out.c;obtain⟨⟨y0,-⟩,⟨y1,-⟩,⟨y2,-⟩,⟨y3,-⟩,⟨y4,-⟩,⟨y5,-⟩,⟨y6,-⟩,⟨y7,-⟩⟩:=HY.out;obtain⟨⟨d,g0⟩,⟨h1,g1⟩,⟨h2,g2⟩,⟨h3,g3⟩,⟨h4,g4⟩,⟨h5,g5⟩,⟨h6,g6⟩,⟨h7,g7⟩⟩:=dA.out.Dv k I;rw[if_neg (by omega),fA]at h7;have e1:X≠P:=oH (by omega);have bL:=e1.symm;have e2:wr.heap.size≠P:=(by omega);have cL:=e2.symm;go_region_held3 (fun w'=>w'.cell? ⟨X,5,none⟩=some (.slice (some ⟨P,0,none⟩) W.pn cZ)/\w'.cell? ⟨wr.heap.size,7,none⟩=some (.slice da (W.A1 k).dn dc)) (go_keep)
         (first
           | (go_at_call 106
              refine(ZU _ (W.A1 k).dn lo hi (W.A1 k).ds (W.A1 k).db _ (cC.out.A0 (Below.refl _ _).drew) (rG.out k I)).mono ?_;rintro e w2 ⟨⟨nv,nb,rfl,pA,vC,aD⟩,eA⟩;have p:=Cp eA;obtain⟨_,na,nc,rfl,_⟩:=id vC;obtain⟨z0,z1,z2,z3,z4,z5⟩:=(cA.out.A0 p).c;obtain⟨⟨v0,-⟩,⟨v1,-⟩,⟨v2,-⟩,⟨v3,-⟩,⟨v4,-⟩,⟨v5,-⟩,⟨v6,-⟩,⟨v7,-⟩⟩:=HY.out.A0 p;obtain⟨⟨p0,iM⟩,⟨p1,jM⟩,⟨p2,kM⟩,⟨p3,lM⟩,⟨p4,mM⟩,⟨p5,nM⟩,⟨p6,fO⟩,⟨p7,iO⟩⟩:=(dA.out.A0 p).Dv k I;rw[if_neg (by omega),fA]at p7))
        have mL:=p.size;have tE:=B7 (dA.out.next I (by omega) p vC (fun d=>by have:=aD d;have hd:W1.drew.heap.size=W1.heap.size:=rfl;omega));have J:=AI.put w2 P (k*8+7) (.slice na (W.A1 k).dn nc);have hB:=A7 HA.out p;have pE:=B7 (F.out.2.2.2.1);have iA:=B7 (F.out.2.2.2.2.2);have rE:=B7 pA;clear pA;go_wp2;go_roundw
        case rel=>
         refine⟨k+1,_,_,by omega,by go_num,tE.out,(cA.out.A0 p).AH J (fun e=>(oH (by omega)) e),by simp only[World.size_setCell];omega,(F.out.2.2.1.A0 hB).AH J (fun q e=>by have:=(jA.out (by omega)).2;omega),(pE.out.A0 hB).AH J (fun q e=>⟨fun d e2=>by have:=(jA.out (by omega)).2.2 d;omega,by omega⟩) (Nat.le_refl _),(A7 F.out.2.2.2.2.1 hB).setCell (by show g.heap.size<=P;have:=(jA.out (by omega)).2;omega) _,(iA.out.1.A0 hB).set _ _,(iA.out.2.1.A0 hB).set _ _,fun j O=>((iA.out.2.2.1 j O).A0 hB).set _ _,fun j O=>?_⟩;by_cases e:j=k
         · subst e
           simp only[if_true];exact rE.out.set _ _
         · simp only[if_neg e]
           exact((iA.out.2.2.2 j (by omega)).A0 hB).set _ _
        case measure=>simp[intOf];omega
      · obtain rfl:k=W.pn:=by omega
        have sC:=F.out.2.2.2.2.1;have aH:=B7 (HR.out.A0 sC);obtain⟨r,m,o,s,t,x⟩:=F.out.1.c;obtain⟨⟨r0,jO⟩,⟨r1,kO⟩,⟨r2,lO⟩,⟨r3,mO⟩,⟨r4,nO⟩,⟨r5,oO⟩⟩:=aH.out;go_wp2;have J:=AI.put6 wr (w.heap.size+1) (.slice L W.pool.n M) (.slice G W.pool.hn N) (.int .i64 W.time) (.int .i64 W.next) (.slice aS W.sn cS) (.slice aZ W.pn cZ);have iB:=aH.out.put (.slice L W.pool.n M) (.slice G W.pool.hn N) (.int .i64 W.time) (.int .i64 W.next) (.slice aS W.sn cS) (.slice aZ W.pn cZ);have iL:=(F.out.2.2.2.1.own sG.out.1 (fun d=>(eC.out d).1) nS (fun i hi=>(fC.out i hi).2));have jL:=(Hh.out.own sG.out.2 (fun d=>(jA.out d).1) nZ (fun i hi=>(iC.out i hi).2));have kL:=Hh.out.Bn;have pD:(put6 wr (w.heap.size+1) (.slice L W.pool.n M) (.slice G W.pool.hn N) (.int .i64 W.time) (.int .i64 W.next) (.slice aS W.sn cS) (.slice aZ W.pn cZ)).heap.size=wr.heap.size:=(by simp only[World.size_setCell]);have nN:=F.out.2.1;have zS:∀q,EN Q kbS W.sn W.A3 q->h<=q/\q<wA.heap.size/\(q<wc.heap.size->0<W.sn/\q=Q):=by
         rintro q (⟨d,rfl⟩ | ⟨i,hi,d,rfl⟩)
         · exact⟨(eC.out d).2,by have:=vH d;omega,fun _=>⟨d,rfl⟩⟩
         · have:=sK.out i hi d;exact⟨by omega,by omega,fun hx=>by omega⟩
        have zZ:∀q,Io P kb W.pn W.A1 q->h<=q/\q<wr.heap.size/\(q<wA.heap.size->0<W.pn/\q=P):=by
         rintro q (⟨d,rfl⟩ | ⟨i,hi,d,rfl⟩)
         · exact⟨(jA.out d).2.1,by have:=dE d;omega,fun _=>⟨d,rfl⟩⟩
         · have:=kL i hi d;exact⟨by omega,by omega,fun hx=>by omega⟩
        refine bodyPost_ret (v:=.agg #[.slice L W.pool.n M,.slice G W.pool.hn N,.int .i64 W.time,.int .i64 W.next,.slice aS W.sn cS,.slice aZ W.pn cZ]) (by simp[results,Tryz.results58,go_sem,iB.1.1,iB.2.1.1,iB.2.2.1.1,iB.2.2.2.1.1,iB.2.2.2.2.1.1,iB.2.2.2.2.2.1]) rfl ⟨_,_,_,_,rfl,?_,?_⟩
        · refine⟨fun q=>l<=q/\q<h,fun q=>EN Q kbS W.sn W.A3 q,fun q=>Io P kb W.pn W.A1 q,⟨?_,?_,?_,?_,?_,?_⟩,?_⟩
          · exact(F.out.2.2.1.isIn (S:=fun q=>l<=q/\q<h) (fun k h1 h2=>⟨h1,h2⟩)).AH J (fun k hk e=>by omega)
          · exact GX.put6 ⟨Q,kbS,kvS,iL,F.out.2.2.2.1.Bi,fun q hq=>hq,F.out.2.2.2.2.2.1,F.out.2.2.2.2.2.2.2.1⟩ _ _ _ _ _ _ _ (fun e=>by have:=zS _ e;omega)
          · exact Gi.put6 ⟨P,kb,kv,jL,Hh.out.Bi,fun q hq=>hq,F.out.2.2.2.2.2.2.1,F.out.2.2.2.2.2.2.2.2⟩ _ _ _ _ _ _ _ (fun e=>by have:=zZ _ e;omega)
          · exact fun k hk e=>by have:=zS k e;omega
          · exact fun k hk e=>by have:=zZ k e;omega
          · intro k hk e
            have h1:=zS k hk;have h2:=(zZ k e).2.2 h1.2.1;have h3:=h1.2.2 (by have:=dE h2.1;omega);have:=(jA.out h2.1).2.2 h3.1;omega
          · intro k hk
            rw[pD];rcases hk with hk | hk | hk
            · omega
            · have:=zS k hk;omega
            · have:=zZ k hk;omega
        · exact(A7 H sC).trans (J.A0 (B:=w.heap.size) (A7 H sC).size (fun k e=>by omega))
theorem ZT{P:Program}{w w1:World}{c:Array Oper}{o:Oper}{a:Act}{K:Act->World->Prop}{Q:Exit->Act->World->Prop}{E:Prop}(d:o.guard=none)(s x:Operand)(t:TypeId)
 (i:o.op = .call {callee:=.builtin .append,args:=#[s,x],argTypes:=#[t,t]}) (vs g e:Value) (hs:a.eval s=vs) (k:a.eval x=g) (b:(Builtin.append_ #[t,t] o.type #[vs,g]).run P w = .ok e w1)
 (h:K (a.put o.dst e) w1):if Region.wanted o (yielded c a.tmps)=true then Oper.wp P o a w K Q else E:=by
 have j:Region.wanted o (yielded c a.tmps)=true:=by simp[Region.wanted,d]
 rw[if_pos j];unfold Oper.wp;simp[execOp,i,resolve,invoke,builtin,hs,k,b,Result.andThen];exact h
def Gn(G:Nat->Value)(i n:Nat):List Value:=(List.range n).map (fun j=>G (i+j))
theorem QP(G:Nat->Value)(i n:Nat):(Gn G i n).length=n:=by simp[Gn]
variable{i n:Nat}
theorem Sv{G:Nat->Value}{j:Nat}(h:j<n):(Gn G i n)[j]?=some (G (i+j)):=by simp[Gn,h]
theorem yi:Tryz.prog.underlying 28=some (.slice 41):=by kernel_rfl
theorem zEX(w:World)(base:Nat)(v:Value)(n:Nat)(xs:List Value)(a:w.ownsRow base 41 8 v n xs)(x:base<=w.heap.size)(o:Option Addr)(b off i m c:Nat)(G:Nat->Value)(p:0<m->o=some ⟨b,off+i,none⟩)(r:∀j,j<m*8->w.cell? ⟨b,off+(i+j),none⟩=some (G (i+j))/\(G (i+j)).oneCell'=true)(hn:n+m<=1000)(ty:TypeId) :
 ∃l w',(Builtin.append_ #[28,28] ty #[v,.slice o m c]).run Tryz.prog w = .ok l w'/\w'.ownsRow base 41 8 l (n+m) (xs ++ Gn G i (m*8))/\w.grownBy w' v.ownBlock:=by
 obtain⟨i0,e,k⟩:=Option.map_eq_some_iff.1 Vv;simp only[Prod.mk.injEq]at k;obtain⟨z,hs,q⟩:=k;by_cases t:0<m
 ·obtain rfl:=p t;have d:∀j,(⟨b,off+i,none⟩:Addr).add j=⟨b,off+(i+j),none⟩:=fun j=>by
   unfold Addr.add;split
   ·simp_all
   ·simp[Nat.add_assoc]
  obtain⟨l,B,y,r1,A,_⟩:=run_append_own (P:=Tryz.prog) w base 28 ty 41 i0 _ 8 96 yi e z hs q rfl (by decide) v n xs a ⟨b,off+i,none⟩ m c (Gn G i (m*8)) (QP _ _ _) (fun j u g=>by
   have h:j<m*8:=by
    have:=(List.getElem?_eq_some_iff.1 g).1
    rwa [QP]at this
   rw[Sv h]at g;cases g;rw[d];exact(r j h).1) (fun u s=>by
   unfold Gn at s;obtain⟨j,g,rfl⟩:=List.mem_map.1 s;exact(r j (List.mem_range.1 g)).2) (by unfold maxLen;omega) (by omega) x
  exact⟨l,B,y,r1,A⟩
 ·obtain rfl:m=0:=(by omega);exact⟨v,w,ZS (P:=Tryz.prog) (w:=w) base 28 ty 41 i0 8 c o yi e v n xs a,by simpa[Gn]using a,World.grownBy.refl _ _⟩
variable{k:Nat}
theorem DD.nth{w:World}{bs:Nat}{kb:Nat->Nat}{kv:Nat->Value}{v:Value}{f:Nat->AM}(h:DD w bs kb kv v n f)(d:k<n):∃off c,v = .slice (some ⟨bs,off,none⟩) n c/\Ff w bs (off+k*6) (kb k) (kv k) (f k):=by
 obtain⟨_,a,c,hv,_,e⟩:=h;obtain⟨off,b,h⟩:=e (by omega);exact⟨off,c,by rw[hv,b],h k d⟩
def del{α : Type}(f:Nat->α)(k:Nat):Nat->α:=fun i=>if i<k then f i else f (i+1)
def SD(W:A5)(x:Int)(i:Nat):Prop:=i<W.pn/\(W.A1 i).A6=x/\(∀j,j<W.pn->j≠i->(W.A1 j).A6≠x)/\∀j,j<W.sn->(W.A3 j).A6≠x
def SE(W:A5)(x:Int)(i:Nat):Prop:=i<W.sn/\(W.A3 i).A6=x/\(∀j,j<W.sn->j≠i->(W.A3 j).A6≠x)/\∀j,j<W.pn->(W.A1 j).A6≠x
theorem MM{f:Nat->Int}{x:Int}:∀{n:Nat},Di f x n=0->∀j,j<n->f j≠x
 | 0,_,j,hj=>absurd hj (Nat.not_lt_zero _)
 | n+1,h,j,hj=>by
  by_cases e:f n=x
  ·rw[Uu e]at h;omega
  ·rw[UA e]at h;by_cases a:j=n
   ·rw[a];exact e
   ·exact MM h j (by omega)
variable{f:Nat->Int}
theorem VU{x:Int}(hi:i<n)(h:f i=x):1<=Di f x n:=by
 rcases Nat.eq_zero_or_pos (Di f x n)with a | a
 ·exact absurd h (MM a i hi)
 ·exact a
theorem Qa{f:Nat->Int}{x:Int}:∀{n:Nat},Di f x n=1->∃i,i<n/\f i=x/\∀j,j<n->j≠i->f j≠x
 | 0,h=>absurd h (by simp[Di])
 | n+1,h=>by
  by_cases e:f n=x
  ·rw[Uu e]at h;exact⟨n,by omega,e,fun j g a=>MM (n:=n) (by omega) j (by omega)⟩
  ·rw[UA e]at h;obtain⟨i,hi,c,d⟩:=Qa h;refine⟨i,by omega,c,fun j g a=>?_⟩;by_cases b:j=n
   ·rw[b];exact e
   ·exact d j (by omega) a
variable{W:A5}
theorem zH0{x:Int}(h:N8 W x=1):(∃i,SD W x i)\/∃i,SE W x i:=by
 unfold N8 at h;rcases Nat.eq_zero_or_pos (Di (fun i=>(W.A3 i).A6) x W.sn)with a | a
 ·rw[a,Nat.zero_add]at h;obtain⟨i,hi,b,c⟩:=Qa h;exact Or.inl ⟨i,hi,b,c,MM a⟩
 ·obtain⟨i,hi,b,c⟩:=Qa (f:=fun i=>(W.A3 i).A6) (x:=x) (n:=W.sn) (by omega);exact Or.inr ⟨i,hi,b,c,MM (f:=fun i=>(W.A1 i).A6) (n:=W.pn) (by omega)⟩
def sdY(W:A5)(g:AL)(n:Nat)(f h:Nat->Int):List (Int×Int):=Bz f h (AC W g.A6).time n
def sdO(W:A5)(g:AL)(n:Nat)(f h:Nat->Int):List (Int×Int):=Ce f h (AC W g.A6).time n
def sdD(W:A5)(g:AL)(n:Nat)(f h:Nat->Int):List (Int×Int):=Dx g.dn g.ds g.db ++ sdO W g n f h
def NG(W:A5)(g s:AL):AL:={s with A6:=g.A6,dn:=(sdD W g s.dn s.ds s.db).length,ds:=AO (sdD W g s.dn s.ds s.db),db:=AS (sdD W g s.dn s.ds s.db)}
def N0(W:A5)(g:AL)(s:AM):AM:={s with A6:=g.A6,dn:=(sdD W g s.dn s.ds s.db).length,ds:=AO (sdD W g s.dn s.ds s.db),db:=AS (sdD W g s.dn s.ds s.db)}
def Sd(W:A5)(k i:Nat):Nat->AL:=fun j=>if j=i then NG W (W.A1 k) (W.A1 i)else W.A1 j
def Se(W:A5)(k i:Nat):Nat->AM:=fun j=>if j=i then N0 W (W.A1 k) (W.A3 i)else W.A3 j
def IP(W:A5)(k i:Nat):List (Int×Int):=sdY W (W.A1 k) (W.A1 i).dn (W.A1 i).ds (W.A1 i).db
def GJ(W:A5)(k i:Nat):List (Int×Int):=sdY W (W.A1 k) (W.A3 i).dn (W.A3 i).ds (W.A3 i).db
def yq(W:A5)(k i:Nat):A5:={W with pool:=Bd W.pool (IP W k i),pn:=W.pn - 1,A1:=del (Sd W k i) k}
def yr(W:A5)(k i:Nat):A5:={W with pool:=Bd W.pool (GJ W k i),A3:=Se W k i,pn:=W.pn - 1,A1:=del W.A1 k}
theorem zEU{g:Nat->Int}{x:Int×Int}(h:x∈Dx n f g):∃j,j<n/\f j=x.1/\g j=x.2:=by
 unfold Dx at h;obtain⟨j,a,rfl⟩:=List.mem_map.1 h;exact⟨j,List.mem_range.1 a,rfl,rfl⟩
theorem OE(c:Ak W)(hi:i<memN W)(t:Int):Bq (AB W i).dn (AB W i).ds (AB W i).db/\Lm W.pool (Bz (AB W i).ds (AB W i).db t (AB W i).dn):=by
 have o:EP W i:=by
  by_cases s:i<W.pn
  ·exact c.dead i s
  ·have:=(c.A3 (i - W.pn) (by unfold memN at hi;omega)).2
   rwa [show W.pn+(i - W.pn)=i by omega]at this
 obtain⟨k,-,-,g⟩:=o;refine⟨k,?_⟩;have p:Lm W.pool (Dx (AB W i).dn (AB W i).ds (AB W i).db):=by
  refine⟨c.right,fun x u=>?_,?_⟩
  ·obtain⟨j,r,m,n⟩:=zEU u;have h:=Jp.1 (g j r);rw[m,n]at h;unfold BU at h;have:=Fs c.right (Ld c.A1 (AB W i).A6) (List.mem_filter.1 h).1;exact⟨this.1,this.2.2⟩
  ·unfold Dx;rw[List.map_map];unfold List.Nodup;rw[List.pairwise_map];refine List.pairwise_iff_getElem.2 fun a b q l d=>?_
   rw[List.length_range]at q l;rw[List.getElem_range,List.getElem_range];exact fun e=>k.2.2 b l a d e
 exact p.sub (R3 _ _ _ _)
theorem Kz{x:ByteArray}(h:B3 W x):∃k,Bl W x k:=by
 obtain⟨k,c,hn⟩:=h
 induction k using Nat.strongRecOn with
 | _ k ih=>
  by_cases e:∃j,j<k/\(W.A3 j).name=x
  ·obtain⟨j,a,b⟩:=e;exact ih j a (by omega) b
  ·exact⟨k,c,hn,fun j a b=>e ⟨j,a,b⟩⟩
variable{Q:Nat->Prop}{ei:Nat->Nat}
theorem Et.all{a b:Prop}{m:Nat}(h:Et W a b m Q ei none):∀j,j<m->Q j:=by
 rcases h with⟨_,e⟩ | ⟨_,_,e⟩ | ⟨_,_,_,k,d,_,_,e⟩ | ⟨_,_,_,c,_⟩
 ·cases e
 ·cases e
 ·cases e
 ·exact c
theorem Et.impl{a b:Prop}{m:Nat}(h:Et W a b m Q ei none):CF W:=by
 rcases h with⟨_,e⟩ | ⟨_,_,e⟩ | ⟨_,_,_,k,g,_,_,e⟩ | ⟨_,c,_,d,_⟩
 ·cases e
 ·cases e
 ·cases e
 ·exact c
def lwD(p:A8)(xs xb:Int)(k:Nat):ByteArray:=if Nil (CT p xs xb k) (Cb p xs xb k)then⟨#[]⟩else(p.s (CT p xs xb k).toNat).data
theorem QH{p:A8}{xs xb:Int}(h:Nil xs xb):lwD p xs xb k=⟨#[]⟩:=by
 have hn:Nil (Ca p xs xb k) (D9 p xs xb k):=⟨if_pos h,if_pos h⟩;exact if_pos ⟨if_pos hn,if_pos hn⟩
theorem QG{p:A8}{xs xb:Int}(hn:Nil (Ca p xs xb k) (D9 p xs xb k)):lwD p xs xb k=⟨#[]⟩:=if_pos ⟨if_pos hn,if_pos hn⟩
end
end Go.Proofs.YtibhefllijahkaaGreatDoor
