/- A part of the proof. -/
import Derived.Test.YtddigaohmfpepaaGreatDoorF13
import Derived.Stop.IfaceNil
set_option linter.unusedVariables false
set_option maxRecDepth 20000
set_option maxHeartbeats 4000000
namespace Go.Proofs.YtddigaohmfpepaaGreatDoor
noncomputable section
open Go.RowKit Go.Maps
theorem zCz(v0 v1 v2 v3:Value)(lo hi:Nat)(W:A6)(w:World)(h:C7 w lo hi v0 v1 v2 v3 W)(jF:Ap W.pool<=1048576)(dF:W.sn<=1048576)(jD:W.pn<=1048576)(cF:JX W):Calls Tryz.prog 59 #[Cc v0 v1 v2 v3 W] w (zQ W w):=by
 obtain⟨a0,c0,a1,c1,a2,c2,a3,c3,rfl,rfl,rfl,rfl⟩:=h.form;have Hp:=AT h;obtain⟨jA,sE,gH⟩:=h.A2.values;obtain⟨Y,tE,iH⟩:=h.A3.values;have eC:=AT sE;have fC:=AT tE;have eD:=AT (show ∀i,i<W.sn->(jA i).oneCell'=true from fun i hi=>by obtain⟨-,a,c,e,-⟩:=(sE i hi).1;rw[e];rfl);have tB:=AT (show ∀i,i<W.pn->(Y i).oneCell'=true from fun i hi=>by obtain⟨-,a,c,e,-⟩:=(tE i hi).1;rw[e];rfl);have fD:=AT gH;have vB:=AT iH;have nG:=AT cF.1;have oG:=AT cF.2;have pG:=AT (show W.sn<=maxLen/\W.pn<=maxLen from⟨h.A2.1,h.A3.1⟩);clear h sE tE gH iH cF;have bI:∀A B:World,A=w.alloc (.cells #[.slice a0 W.pool.n c0,.slice a1 W.pool.hn c1,A0 W.time,A0 W.next,.slice a2 W.sn c2,.slice a3 W.pn c3] 30)->B=A.alloc (.cells #[A5,A5,A0 0,A0 0,A5,A5] 30)->At B w.heap.size (.slice a0 W.pool.n c0) (.slice a1 W.pool.hn c1) (A0 W.time) (A0 W.next) (.slice a2 W.sn c2) (.slice a3 W.pn c3)/\At B (w.heap.size+1) (A5) (A5) (A0 0) (A0 0) (A5) (A5)/\Below w.heap.size w B/\B.heap.size=w.heap.size+2:=by
  rintro A B ea eb;have F:=AB w (.cells #[.slice a0 W.pool.n c0,.slice a1 W.pool.hn c1,A0 W.time,A0 W.next,.slice a2 W.sn c2,.slice a3 W.pn c3] 30);have g:=At.new w (.slice a0 W.pool.n c0) (.slice a1 W.pool.hn c1) (A0 W.time) (A0 W.next) (.slice a2 W.sn c2) (.slice a3 W.pn c3) 30;have z1:A.heap.size=w.heap.size+1:=(by rw[ea];exact World.size_alloc _ _);rw[<-ea]at F g;have b2:=AB A (.cells #[A5,A5,A0 0,A0 0,A5,A5] 30);have m:=At.new A (A5) (A5) (A0 0) (A0 0) (A5) (A5) 30;have z2:B.heap.size=w.heap.size+2:=(by rw[eb,World.size_alloc,z1]);rw[<-eb,z1]at m;rw[<-eb]at b2;exact⟨g.A1 b2,m,A9 F b2,z2⟩
 obtain⟨hx,hr,G,oD⟩:=bI _ _ rfl rfl;have Z:=AT hx;have HR:=AT hr;have vG:=AT oD;clear bI hx hr oD;go_enter Tryz.func59,Tryz.ntmps59;go_upto_region 1 with fail;generalize (w.alloc (.cells #[.slice a0 W.pool.n c0,.slice a1 W.pool.hn c1,A0 W.time,A0 W.next,.slice a2 W.sn c2,.slice a3 W.pn c3] 30)).alloc (.cells #[A5,A5,A0 0,A0 0,A5,A5] 30)=f at Z HR vG G ⊢
 go_cut [3] (fun v wc=>∃(X:Nat) (J:Option Addr) (L:Nat) (F:Option Addr) (M:Nat) (aS:Option Addr) (cS:Nat) (aZ:Option Addr) (cZ:Nat) (l h P O:Nat),v = .pointer (some ⟨X,0,none⟩)/\At wc X (.slice J W.pool.n L) (.slice F W.pool.hn M) (A0 W.time) (A0 W.next) (.slice aS W.sn cS) (.slice aZ W.pn cZ)/\Bq wc l h (.slice J W.pool.n L) (.slice F W.pool.hn M) W.pool/\(0<W.sn->aS=some ⟨P,0,none⟩/\h<=P)/\(0<W.pn->aZ=some ⟨O,0,none⟩/\h<=O/\(0<W.sn->P<O))/\W.sn<=cS/\W.pn<=cZ/\De wc P wc.heap.size W.sn 0 W.A2 (fun _=>0) jA jA/\Di wc O wc.heap.size W.pn 0 W.A3 (fun _=>0) Y Y/\(X<l\/h<=X)/\(0<W.sn->X≠P)/\(0<W.pn->X≠O)/\f.heap.size<=X/\f.heap.size<=l/\l<=h/\X<wc.heap.size/\h<=wc.heap.size/\CN wc 46 6 (.slice aS W.sn cS) W.sn/\CN wc 41 8 (.slice aZ W.pn cZ) W.pn/\Below f.heap.size f wc)
 case first=>
  obtain⟨p,g,m,r,s,t⟩:=Z.out.c;refine wp_region_held_drew (S:=(fun w'=>w'.cell? ⟨w.heap.size,0,none⟩=some (.slice a0 W.pool.n c0)/\w'.cell? ⟨w.heap.size,1,none⟩=some (.slice a1 W.pool.hn c1)/\w'.cell? ⟨w.heap.size,2,none⟩=some (A0 W.time)/\w'.cell? ⟨w.heap.size,3,none⟩=some (A0 W.next)/\w'.cell? ⟨w.heap.size,4,none⟩=some (.slice a2 W.sn c2)/\w'.cell? ⟨w.heap.size,5,none⟩=some (.slice a3 W.pn c3))) (by kernel_rfl) ?_ (fun hHeld=>?_)
  · (try dsimp only)
    go_keep
  have lB:Below f.heap.size f f.drew:=(Below.refl _ _).drew;clear p g m r s t;generalize f.drew=q0 at lB hHeld ⊢;refine tk 0 (h:=tk 1 (h:=tk 3 (h:=tk 4 (h:=tk 5 (h:=tk 6 (h:=tk 7 (h:=tk 8 (h:=tk 10 (h:=tk 11 (h:=?_))))))))));refine rd [2,14] (rc (fun K hK=>?_) (rc (fun K hK=>?_) .nil))
  · go_simp
    go_at_call 115;refine(Ov _ _ lo hi W.pool _ ((Hp.out.pool.A1 G).A1 lB) jF).mono ?_;rintro e q1 ⟨u0,u1,rfl,pF,gF⟩;obtain⟨J,L,F,M,rfl,rfl⟩:=pF.form;have zP:f.heap.size<=q0.heap.size/\q0.heap.size<=q1.heap.size:=⟨lB.size,gF.size⟩;have kC:Below f.heap.size f q1:=A9 lB gF;have y1:=gF.size;obtain⟨p,g,m,r,s,t⟩:=(Z.out.A1 kC).c
    (try go_wp2_with fail)
    refine hK.out _ _ (by(try dsimp only);go_keep) ?_;clear hK K hHeld;intro hHeld
    try simp only[Act.put,s1,s2,s3]
    clear p g m r s t;refine rd [9,14] (rc (fun K hK=>?_) (rc (fun K hK=>?_) .nil))
    · go_simp
      go_at_call 116;refine(Re a2 W.sn c2 (Fz W.A2 jA W.sn) _ (OD _ _ _) (R8 _ _ _ eD.out) dF (fun d=>?_)).mono ?_
      · obtain⟨b,off,ha,hc⟩:=fD.out d
        exact⟨b,off,ha,fun j u N=>((A9 G kC).cell (AV (hc j u N))).trans (hc j u N)⟩
      rintro e q2 ⟨v2,rfl,tH,nD,dI⟩;have dA:Below f.heap.size f q2:=A9 kC nD;obtain⟨P,C,D,rfl,nS,V,kJ⟩:=Rg tH q2.heap.size (Nat.le_refl _);have zS:q1.heap.size<=q2.heap.size:=nD.size;have lI:=J8 tH dI;have bJ:=pF.A1 nD;have y2:=nD.size;obtain⟨p,g,m,r,s,t⟩:=(Z.out.A1 dA).c
      (try go_wp2_with fail)
      refine hK.out _ _ (by(try dsimp only);go_keep) ?_;clear hK K hHeld;intro hHeld
      try simp only[Act.put,s1,s2,s3]
      clear p g m r s t;refine rd [12,14] (rc (fun K hK=>?_) (rc (fun K hK=>?_) .nil))
      · go_simp
        go_at_call 117;refine(P0 a3 W.pn c3 (Et W.A3 Y W.pn) _ (Gj _ _ _) (Oe _ _ _ tB.out) jD (fun d=>?_)).mono ?_
        · obtain⟨b,off,ha,hc⟩:=vB.out d
          exact⟨b,off,ha,fun j u N=>((A9 G dA).cell (AV (hc j u N))).trans (hc j u N)⟩
        rintro e q3 ⟨v3,rfl,vH,mB,eI⟩;have eF:Below f.heap.size f q3:=A9 dA mB;obtain⟨O,x,y,rfl,nZ,U,bM⟩:=P2 vH q3.heap.size (Nat.le_refl _);have zZ:q2.heap.size<=q3.heap.size:=mB.size;have nL:=J8 vH eI;have pL:=bJ.A1 mB;have tL:=kJ.A1 mB;have lL:=lI.A1 mB;have y3:=mB.size;obtain⟨p,g,m,r,s,t⟩:=(Z.out.A1 eF).c
        (try go_wp2_with fail)
        refine hK.out _ _ (by(try dsimp only);go_keep) ?_;clear hK K hHeld;intro hHeld
        try simp only[Act.put,s1,s2,s3]
        clear p g m r s t;refine tk 13 (h:=?_);refine rd [14] (rc (fun K hK=>?_) .nil);go_simp;have sA:=AB q3 (.cells #[A5,A5,A0 0,A0 0,A5,A5] 30);have kD:Below f.heap.size f (q3.alloc (.cells #[A5,A5,A0 0,A0 0,A5,A5] 30)):=A9 eF sA;have rF:At (q3.alloc (.cells #[A5,A5,A0 0,A0 0,A5,A5] 30)) q3.heap.size (A5) (A5) (A0 0) (A0 0) (A5) (A5):=At.new _ _ _ _ _ _ _ _;have zV:f.heap.size<=q3.heap.size/\q3.heap.size+1=(q3.alloc (.cells #[A5,A5,A0 0,A0 0,A5,A5] 30)).heap.size:=⟨eF.size,(World.size_alloc _ _).symm⟩;have cJ:=pL.A1 sA;have lJ:=tL.A1 sA;have bK:=bM.A1 sA;have mI:=lL.A1 sA;have rI:=nL.A1 sA;obtain⟨p,g,m,r,s,t⟩:=(Z.out.A1 kD).c
        (try go_wp2_with fail)
        refine hK.out _ _ (by(try dsimp only);go_keep) ?_;clear hK K hHeld;intro hHeld
        try simp only[Act.put,s1,s2,s3]
        clear p g m r s t;generalize q3.alloc (.cells #[A5,A5,A0 0,A0 0,A5,A5] 30)=q4 at kD zV cJ lJ bK rF mI rI hHeld sA ⊢;refine rd [15] (rc (fun K hK=>?_) .nil);have I:=AC.put6 q4 (q3.heap.size) (.slice J W.pool.n L) (.slice F W.pool.hn M) (A0 W.time) (A0 W.next) (.slice C W.sn D) (.slice x W.pn y);have Q:Below f.heap.size f (put6 q4 (q3.heap.size) (.slice J W.pool.n L) (.slice F W.pool.hn M) (A0 W.time) (A0 W.next) (.slice C W.sn D) (.slice x W.pn y)):=kD.trans (I.A1 (B:=f.heap.size) kD.size (fun k e=>by omega));have kV:=rF.put (.slice J W.pool.n L) (.slice F W.pool.hn M) (A0 W.time) (A0 W.next) (.slice C W.sn D) (.slice x W.pn y);obtain⟨⟨y0,vF⟩,⟨y1,aG⟩,⟨y2,bG⟩,⟨y3,cG⟩,⟨y4,dG⟩,⟨y5,eG⟩⟩:=rF;obtain⟨p,g,m,r,s,t⟩:=(Z.out.A1 Q).c;go_simp
        (try go_wp2_with fail)
        refine hK.out _ _ (by(try dsimp only);go_keep) ?_;clear hK K hHeld;intro hHeld
        try simp only[Act.put,s1,s2,s3]
        clear p g m r s t;refine wpAnyH_done (by kernel_rfl) ?_ _;have z:(put6 q4 (q3.heap.size) (.slice J W.pool.n L) (.slice F W.pool.hn M) (A0 W.time) (A0 W.next) (.slice C W.sn D) (.slice x W.pn y)).heap.size=q4.heap.size:=(by simp only[World.size_setCell]);go_wp2_with fail
        go_meet
        case rel=>
         refine⟨_,_,_,_,_,_,_,_,_,_,_,P,O,rfl,kV,cJ.AD I (fun k e=>by omega),fun d=>⟨(V d).1,by have:=V d;omega⟩,fun d=>⟨(U d).1,by have:=U d;omega,fun h1=>by have:=U d;have:=V h1;omega⟩,nS,nZ,(lJ.turned0 I (fun q e d e2=>by have:=V d;omega)).weak (by rw[z];omega),(bK.turned0 I (fun q e d e2=>by have:=U d;omega)).weak (by rw[z];omega),by omega,fun d=>by have:=V d;omega,fun d=>by have:=U d;omega,by omega,by omega,by omega,by rw[z];omega,by rw[z];omega,((((((mI.set _ _).set _ _).set _ _).set _ _).set _ _).set _ _),((((((rI.set _ _).set _ _).set _ _).set _ _).set _ _).set _ _),Q⟩
      · go_simp
        have sC:=AB q2 (.cells #[A5,A5,A0 0,A0 0,A5,A5] 30);have lD:Below f.heap.size f (q2.alloc (.cells #[A5,A5,A0 0,A0 0,A5,A5] 30)):=A9 dA sC;have rJ:At (q2.alloc (.cells #[A5,A5,A0 0,A0 0,A5,A5] 30)) q2.heap.size (A5) (A5) (A0 0) (A0 0) (A5) (A5):=At.new _ _ _ _ _ _ _ _;have zV:f.heap.size<=q2.heap.size/\q2.heap.size+1=(q2.alloc (.cells #[A5,A5,A0 0,A0 0,A5,A5] 30)).heap.size:=⟨dA.size,(World.size_alloc _ _).symm⟩;have dJ:=bJ.A1 sC;have mJ:=kJ.A1 sC;have nI:=lI.A1 sC;obtain⟨p,g,m,r,s,t⟩:=(Z.out.A1 lD).c
        (try go_wp2_with fail)
        refine hK.out _ _ (by(try dsimp only);go_keep) ?_;clear hK K hHeld;intro hHeld
        try simp only[Act.put,s1,s2,s3]
        clear p g m r s t;generalize q2.alloc (.cells #[A5,A5,A0 0,A0 0,A5,A5] 30)=q6 at lD zV dJ mJ rJ nI hHeld sC ⊢;refine rd [12] (rc (fun K hK=>?_) .nil);go_simp;go_at_call 117;refine(P0 a3 W.pn c3 (Et W.A3 Y W.pn) _ (Gj _ _ _) (Oe _ _ _ tB.out) jD (fun d=>?_)).mono ?_
        · obtain⟨b,off,ha,hc⟩:=vB.out d
          exact⟨b,off,ha,fun j u N=>((A9 G lD).cell (AV (hc j u N))).trans (hc j u N)⟩
        rintro e q7 ⟨v7,rfl,aI,tA,fI⟩;have fF:Below f.heap.size f q7:=A9 lD tA;obtain⟨O,x,y,rfl,nZ,U,cM⟩:=P2 aI q7.heap.size (Nat.le_refl _);have zZ:q6.heap.size<=q7.heap.size:=tA.size;have oL:=J8 aI fI;have rL:=dJ.A1 tA;have vL:=mJ.A1 tA;have sJ:=rJ.A1 tA;have mL:=nI.A1 tA;have y7:=tA.size;obtain⟨p,g,m,r,s,t⟩:=(Z.out.A1 fF).c
        (try go_wp2_with fail)
        refine hK.out _ _ (by(try dsimp only);go_keep) ?_;clear hK K hHeld;intro hHeld
        try simp only[Act.put,s1,s2,s3]
        clear p g m r s t;refine tk 13 (h:=?_);refine rd [15] (rc (fun K hK=>?_) .nil);have I:=AC.put6 q7 (q2.heap.size) (.slice J W.pool.n L) (.slice F W.pool.hn M) (A0 W.time) (A0 W.next) (.slice C W.sn D) (.slice x W.pn y);have Q:Below f.heap.size f (put6 q7 (q2.heap.size) (.slice J W.pool.n L) (.slice F W.pool.hn M) (A0 W.time) (A0 W.next) (.slice C W.sn D) (.slice x W.pn y)):=fF.trans (I.A1 (B:=f.heap.size) fF.size (fun k e=>by omega));have kV:=sJ.put (.slice J W.pool.n L) (.slice F W.pool.hn M) (A0 W.time) (A0 W.next) (.slice C W.sn D) (.slice x W.pn y);obtain⟨⟨y0,vF⟩,⟨y1,aG⟩,⟨y2,bG⟩,⟨y3,cG⟩,⟨y4,dG⟩,⟨y5,eG⟩⟩:=sJ;obtain⟨p,g,m,r,s,t⟩:=(Z.out.A1 Q).c;go_simp
        (try go_wp2_with fail)
        refine hK.out _ _ (by(try dsimp only);go_keep) ?_;clear hK K hHeld;intro hHeld
        try simp only[Act.put,s1,s2,s3]
        clear p g m r s t;refine wpAnyH_done (by kernel_rfl) ?_ _;have z:(put6 q7 (q2.heap.size) (.slice J W.pool.n L) (.slice F W.pool.hn M) (A0 W.time) (A0 W.next) (.slice C W.sn D) (.slice x W.pn y)).heap.size=q7.heap.size:=(by simp only[World.size_setCell]);go_wp2_with fail
        go_meet
        case rel=>
         refine⟨_,_,_,_,_,_,_,_,_,_,_,P,O,rfl,kV,rL.AD I (fun k e=>by omega),fun d=>⟨(V d).1,by have:=V d;omega⟩,fun d=>⟨(U d).1,by have:=U d;omega,fun h1=>by have:=U d;have:=V h1;omega⟩,nS,nZ,(vL.turned0 I (fun q e d e2=>by have:=V d;omega)).weak (by rw[z];omega),(cM.turned0 I (fun q e d e2=>by have:=U d;omega)).weak (by rw[z];omega),by omega,fun d=>by have:=V d;omega,fun d=>by have:=U d;omega,by omega,by omega,by omega,by rw[z];omega,by rw[z];omega,((((((mL.set _ _).set _ _).set _ _).set _ _).set _ _).set _ _),((((((oL.set _ _).set _ _).set _ _).set _ _).set _ _).set _ _),Q⟩
    · go_simp
      have iF:=AB q1 (.cells #[A5,A5,A0 0,A0 0,A5,A5] 30);have mD:Below f.heap.size f (q1.alloc (.cells #[A5,A5,A0 0,A0 0,A5,A5] 30)):=A9 kC iF;have tJ:At (q1.alloc (.cells #[A5,A5,A0 0,A0 0,A5,A5] 30)) q1.heap.size (A5) (A5) (A0 0) (A0 0) (A5) (A5):=At.new _ _ _ _ _ _ _ _;have zV:f.heap.size<=q1.heap.size/\q1.heap.size+1=(q1.alloc (.cells #[A5,A5,A0 0,A0 0,A5,A5] 30)).heap.size:=⟨kC.size,(World.size_alloc _ _).symm⟩;have eJ:=pF.A1 iF;obtain⟨p,g,m,r,s,t⟩:=(Z.out.A1 mD).c
      (try go_wp2_with fail)
      refine hK.out _ _ (by(try dsimp only);go_keep) ?_;clear hK K hHeld;intro hHeld
      try simp only[Act.put,s1,s2,s3]
      clear p g m r s t;generalize q1.alloc (.cells #[A5,A5,A0 0,A0 0,A5,A5] 30)=q9 at mD zV eJ tJ hHeld iF ⊢;refine rd [9] (rc (fun K hK=>?_) .nil);go_simp;go_at_call 116;refine(Re a2 W.sn c2 (Fz W.A2 jA W.sn) _ (OD _ _ _) (R8 _ _ _ eD.out) dF (fun d=>?_)).mono ?_
      · obtain⟨b,off,ha,hc⟩:=fD.out d
        exact⟨b,off,ha,fun j u N=>((A9 G mD).cell (AV (hc j u N))).trans (hc j u N)⟩
      rintro e sD ⟨pO,rfl,cE,mA,lF⟩;have lC:Below f.heap.size f sD:=A9 mD mA;obtain⟨P,C,D,rfl,nS,V,fJ⟩:=Rg cE sD.heap.size (Nat.le_refl _);have zS:q9.heap.size<=sD.heap.size:=mA.size;have gI:=J8 cE lF;have sI:=eJ.A1 mA;have nJ:=tJ.A1 mA;have cP:=mA.size;obtain⟨p,g,m,r,s,t⟩:=(Z.out.A1 lC).c
      (try go_wp2_with fail)
      refine hK.out _ _ (by(try dsimp only);go_keep) ?_;clear hK K hHeld;intro hHeld
      try simp only[Act.put,s1,s2,s3]
      clear p g m r s t;refine rd [12] (rc (fun K hK=>?_) .nil);go_simp;go_at_call 117;refine(P0 a3 W.pn c3 (Et W.A3 Y W.pn) _ (Gj _ _ _) (Oe _ _ _ tB.out) jD (fun d=>?_)).mono ?_
      · obtain⟨b,off,ha,hc⟩:=vB.out d
        exact⟨b,off,ha,fun j u N=>((A9 G lC).cell (AV (hc j u N))).trans (hc j u N)⟩
      rintro e vA ⟨rO,rfl,dE,R,mF⟩;have mC:Below f.heap.size f vA:=A9 lC R;obtain⟨O,x,y,rfl,nZ,U,vJ⟩:=P2 dE vA.heap.size (Nat.le_refl _);have zZ:sD.heap.size<=vA.heap.size:=R.size;have oI:=J8 dE mF;have tI:=sI.A1 R;have gJ:=fJ.A1 R;have iE:=nJ.A1 R;have iI:=gI.A1 R;have dP:=R.size;obtain⟨p,g,m,r,s,t⟩:=(Z.out.A1 mC).c
      (try go_wp2_with fail)
      refine hK.out _ _ (by(try dsimp only);go_keep) ?_;clear hK K hHeld;intro hHeld
      try simp only[Act.put,s1,s2,s3]
      clear p g m r s t;refine tk 13 (h:=?_);refine rd [15] (rc (fun K hK=>?_) .nil);have I:=AC.put6 vA (q1.heap.size) (.slice J W.pool.n L) (.slice F W.pool.hn M) (A0 W.time) (A0 W.next) (.slice C W.sn D) (.slice x W.pn y);have Q:Below f.heap.size f (put6 vA (q1.heap.size) (.slice J W.pool.n L) (.slice F W.pool.hn M) (A0 W.time) (A0 W.next) (.slice C W.sn D) (.slice x W.pn y)):=mC.trans (I.A1 (B:=f.heap.size) mC.size (fun k e=>by omega));have kV:=iE.put (.slice J W.pool.n L) (.slice F W.pool.hn M) (A0 W.time) (A0 W.next) (.slice C W.sn D) (.slice x W.pn y);obtain⟨⟨y0,vF⟩,⟨y1,aG⟩,⟨y2,bG⟩,⟨y3,cG⟩,⟨y4,dG⟩,⟨y5,eG⟩⟩:=iE;obtain⟨p,g,m,r,s,t⟩:=(Z.out.A1 Q).c;go_simp
      (try go_wp2_with fail)
      refine hK.out _ _ (by(try dsimp only);go_keep) ?_;clear hK K hHeld;intro hHeld
      try simp only[Act.put,s1,s2,s3]
      clear p g m r s t;refine wpAnyH_done (by kernel_rfl) ?_ _;have z:(put6 vA (q1.heap.size) (.slice J W.pool.n L) (.slice F W.pool.hn M) (A0 W.time) (A0 W.next) (.slice C W.sn D) (.slice x W.pn y)).heap.size=vA.heap.size:=(by simp only[World.size_setCell]);go_wp2_with fail
      go_meet
      case rel=>
       refine⟨_,_,_,_,_,_,_,_,_,_,_,P,O,rfl,kV,tI.AD I (fun k e=>by omega),fun d=>⟨(V d).1,by have:=V d;omega⟩,fun d=>⟨(U d).1,by have:=U d;omega,fun h1=>by have:=U d;have:=V h1;omega⟩,nS,nZ,(gJ.turned0 I (fun q e d e2=>by have:=V d;omega)).weak (by rw[z];omega),(vJ.turned0 I (fun q e d e2=>by have:=U d;omega)).weak (by rw[z];omega),by omega,fun d=>by have:=V d;omega,fun d=>by have:=U d;omega,by omega,by omega,by omega,by rw[z];omega,by rw[z];omega,((((((iI.set _ _).set _ _).set _ _).set _ _).set _ _).set _ _),((((((oI.set _ _).set _ _).set _ _).set _ _).set _ _).set _ _),Q⟩
  · go_simp
    have aE:=AB q0 (.cells #[A5,A5,A0 0,A0 0,A5,A5] 30);have lA:Below f.heap.size f (q0.alloc (.cells #[A5,A5,A0 0,A0 0,A5,A5] 30)):=A9 lB aE;have jE:At (q0.alloc (.cells #[A5,A5,A0 0,A0 0,A5,A5] 30)) q0.heap.size (A5) (A5) (A0 0) (A0 0) (A5) (A5):=At.new _ _ _ _ _ _ _ _;have zV:f.heap.size<=q0.heap.size/\q0.heap.size+1=(q0.alloc (.cells #[A5,A5,A0 0,A0 0,A5,A5] 30)).heap.size:=⟨lB.size,(World.size_alloc _ _).symm⟩;obtain⟨p,g,m,r,s,t⟩:=(Z.out.A1 lA).c
    (try go_wp2_with fail)
    refine hK.out _ _ (by(try dsimp only);go_keep) ?_;clear hK K hHeld;intro hHeld
    try simp only[Act.put,s1,s2,s3]
    clear p g m r s t;generalize q0.alloc (.cells #[A5,A5,A0 0,A0 0,A5,A5] 30)=q13 at lA zV jE hHeld aE ⊢;refine rd [2] (rc (fun K hK=>?_) .nil);go_simp;go_at_call 115;refine(Ov _ _ lo hi W.pool _ ((Hp.out.pool.A1 G).A1 lA) jF).mono ?_;rintro e sF ⟨u0,u1,rfl,gE,eB⟩;obtain⟨J,L,F,M,rfl,rfl⟩:=gE.form;have zP:f.heap.size<=q13.heap.size/\q13.heap.size<=sF.heap.size:=⟨lA.size,eB.size⟩;have nC:Below f.heap.size f sF:=A9 lA eB;have oJ:=jE.A1 eB;have eP:=eB.size;obtain⟨p,g,m,r,s,t⟩:=(Z.out.A1 nC).c
    (try go_wp2_with fail)
    refine hK.out _ _ (by(try dsimp only);go_keep) ?_;clear hK K hHeld;intro hHeld
    try simp only[Act.put,s1,s2,s3]
    clear p g m r s t;refine rd [9] (rc (fun K hK=>?_) .nil);go_simp;go_at_call 116;refine(Re a2 W.sn c2 (Fz W.A2 jA W.sn) _ (OD _ _ _) (R8 _ _ _ eD.out) dF (fun d=>?_)).mono ?_
    · obtain⟨b,off,ha,hc⟩:=fD.out d
      exact⟨b,off,ha,fun j u N=>((A9 G nC).cell (AV (hc j u N))).trans (hc j u N)⟩
    rintro e tD ⟨sO,rfl,eE,nA,nF⟩;have oC:Below f.heap.size f tD:=A9 nC nA;obtain⟨P,C,D,rfl,nS,V,iJ⟩:=Rg eE tD.heap.size (Nat.le_refl _);have zS:sF.heap.size<=tD.heap.size:=nA.size;have jI:=J8 eE nF;have vI:=gE.A1 nA;have pJ:=oJ.A1 nA;have fP:=nA.size;obtain⟨p,g,m,r,s,t⟩:=(Z.out.A1 oC).c
    (try go_wp2_with fail)
    refine hK.out _ _ (by(try dsimp only);go_keep) ?_;clear hK K hHeld;intro hHeld
    try simp only[Act.put,s1,s2,s3]
    clear p g m r s t;refine rd [12] (rc (fun K hK=>?_) .nil);go_simp;go_at_call 117;refine(P0 a3 W.pn c3 (Et W.A3 Y W.pn) _ (Gj _ _ _) (Oe _ _ _ tB.out) jD (fun d=>?_)).mono ?_
    · obtain⟨b,off,ha,hc⟩:=vB.out d
      exact⟨b,off,ha,fun j u N=>((A9 G oC).cell (AV (hc j u N))).trans (hc j u N)⟩
    rintro e aB ⟨tO,rfl,fE,T,oF⟩;have pC:Below f.heap.size f aB:=A9 oC T;obtain⟨O,x,y,rfl,nZ,U,aK⟩:=P2 fE aB.heap.size (Nat.le_refl _);have zZ:tD.heap.size<=aB.heap.size:=T.size;have pI:=J8 fE oF;have aJ:=vI.A1 T;have jJ:=iJ.A1 T;have kE:=pJ.A1 T;have kI:=jI.A1 T;have iP:=T.size;obtain⟨p,g,m,r,s,t⟩:=(Z.out.A1 pC).c
    (try go_wp2_with fail)
    refine hK.out _ _ (by(try dsimp only);go_keep) ?_;clear hK K hHeld;intro hHeld
    try simp only[Act.put,s1,s2,s3]
    clear p g m r s t;refine tk 13 (h:=?_);refine rd [15] (rc (fun K hK=>?_) .nil);have I:=AC.put6 aB (q0.heap.size) (.slice J W.pool.n L) (.slice F W.pool.hn M) (A0 W.time) (A0 W.next) (.slice C W.sn D) (.slice x W.pn y);have Q:Below f.heap.size f (put6 aB (q0.heap.size) (.slice J W.pool.n L) (.slice F W.pool.hn M) (A0 W.time) (A0 W.next) (.slice C W.sn D) (.slice x W.pn y)):=pC.trans (I.A1 (B:=f.heap.size) pC.size (fun k e=>by omega));have kV:=kE.put (.slice J W.pool.n L) (.slice F W.pool.hn M) (A0 W.time) (A0 W.next) (.slice C W.sn D) (.slice x W.pn y);obtain⟨⟨y0,vF⟩,⟨y1,aG⟩,⟨y2,bG⟩,⟨y3,cG⟩,⟨y4,dG⟩,⟨y5,eG⟩⟩:=kE;obtain⟨p,g,m,r,s,t⟩:=(Z.out.A1 Q).c;go_simp
    (try go_wp2_with fail)
    refine hK.out _ _ (by(try dsimp only);go_keep) ?_;clear hK K hHeld;intro hHeld
    try simp only[Act.put,s1,s2,s3]
    clear p g m r s t;refine wpAnyH_done (by kernel_rfl) ?_ _;have z:(put6 aB (q0.heap.size) (.slice J W.pool.n L) (.slice F W.pool.hn M) (A0 W.time) (A0 W.next) (.slice C W.sn D) (.slice x W.pn y)).heap.size=aB.heap.size:=(by simp only[World.size_setCell]);go_wp2_with fail
    go_meet
    case rel=>
     refine⟨_,_,_,_,_,_,_,_,_,_,_,P,O,rfl,kV,aJ.AD I (fun k e=>by omega),fun d=>⟨(V d).1,by have:=V d;omega⟩,fun d=>⟨(U d).1,by have:=U d;omega,fun h1=>by have:=U d;have:=V h1;omega⟩,nS,nZ,(jJ.turned0 I (fun q e d e2=>by have:=V d;omega)).weak (by rw[z];omega),(aK.turned0 I (fun q e d e2=>by have:=U d;omega)).weak (by rw[z];omega),by omega,fun d=>by have:=V d;omega,fun d=>by have:=U d;omega,by omega,by omega,by omega,by rw[z];omega,by rw[z];omega,((((((kI.set _ _).set _ _).set _ _).set _ _).set _ _).set _ _),((((((pI.set _ _).set _ _).set _ _).set _ _).set _ _).set _ _),Q⟩
 case rest=>
  obtain⟨X,J,L,F,M,aS,cS,aZ,cZ,l,h,P,O,rfl,kV,kP,hS,hZ,nS,nZ,kS,kZ,oN,lH,mH,z1,z2,z3,z4,z5,rA,rB,nH⟩:=hcut;have mE:=AT kV;have rG:=AT kP;have dC:=AT hS;have iA:=AT hZ;have cN:=G.size;have lN:=vG.out;have HS:=AT kS;have HZ:=AT kZ;have sH:=kS.lt;have bE:=kZ.lt;clear kV kP hS hZ kS kZ Z jF eD tB fD vB;obtain⟨p,g,m,r,s,t⟩:=mE.out.c;go_wp2;clear p g m r s t
  go_loopw [4,5,25] (fun _ _ i wr=>∃(k:Nat) (kb:Nat->Nat) (kv:Nat->Value),k<=W.sn/\i=A0 k/\De wr P wc.heap.size W.sn k W.A2 kb kv jA/\At wr X (.slice J W.pool.n L) (.slice F W.pool.hn M) (A0 W.time) (A0 W.next) (.slice aS W.sn cS) (.slice aZ W.pn cZ)/\wc.heap.size<=wr.heap.size/\Bq wr l h (.slice J W.pool.n L) (.slice F W.pool.hn M) W.pool/\Di wr O wc.heap.size W.pn 0 W.A3 (fun _=>0) Y Y/\(Below f.heap.size f wr/\CN wr 46 6 (.slice aS W.sn cS) W.sn/\CN wr 41 8 (.slice aZ W.pn cZ) W.pn/\∀j,j<k->CN wr 38 2 (kv j) (W.A2 j).dn)) (fun _ _ i _=>W.sn - (intOf i).toNat)
  case atStart=>exact⟨0,_,_,Nat.zero_le _,rfl,HS.out,mE.out,Nat.le_refl _,rG.out,HZ.out,nH,rA,rB,fun j N=>absurd N (Nat.not_lt_zero _)⟩
  case round=>
   obtain⟨k,kb,kv,hk,rfl,hh,hI⟩:=hrel;have Hh:=AT hh;have E:=AT hI;clear hh hI;by_cases H:k<W.sn
   · have rH:(k:Int)<(W.sn:Int):=by omega
     have cL:=E.out.2.1;have eL:=Hh.out.lt (by omega);obtain rfl:=(dC.out (by omega)).1;obtain⟨-,da,dc,eA,-⟩:=id (eC.out k H).1;have hD:=(eC.out k H).1;rw[eA]at hD;have HD:=AT hD;clear hD;obtain⟨⟨d,g0⟩,⟨h1,g1⟩,⟨h2,g2⟩,⟨h3,g3⟩,⟨h4,g4⟩,⟨h5,g5⟩⟩:=Hh.out.E4 k H;rw[if_neg (by omega),eA]at h5;obtain⟨p,g,m,r,s,t⟩:=E.out.1.c;have ha:=AB wr (.cells #[.string (W.A2 k).name,A0 (W.A2 k).origin,A0 (W.A2 k).A8,A0 (W.A2 k).rs,A0 (W.A2 k).rb,.slice da (W.A2 k).dn dc] 46);have hy:=At.new wr (.string (W.A2 k).name) (A0 (W.A2 k).origin) (A0 (W.A2 k).A8) (A0 (W.A2 k).rs) (A0 (W.A2 k).rb) (.slice da (W.A2 k).dn dc) 46;have kF:(wr.alloc (.cells #[.string (W.A2 k).name,A0 (W.A2 k).origin,A0 (W.A2 k).A8,A0 (W.A2 k).rs,A0 (W.A2 k).rb,.slice da (W.A2 k).dn dc] 46)).heap.size=wr.heap.size+1:=World.size_alloc _ _;have HY:=AT hy;have HA:=AT ha;clear hy;go_wp2_with fail;clear d g0 h1 g1 h2 g2 h3 g3 h4 g4 h5 g5 p g m r s t;have cA:=AT (Hh.out.A1 HA.out);have aD:=A9 G (A9 E.out.2.2.2.2.1 HA.out);have bC:=AT (HD.out.A1 aD);have bA:=AT (E.out.1.A1 HA.out);have hV:wr.heap.size<wr.heap.size+1:=(by omega);generalize wr.alloc (.cells #[.string (W.A2 k).name,A0 (W.A2 k).origin,A0 (W.A2 k).A8,A0 (W.A2 k).rs,A0 (W.A2 k).rb,.slice da (W.A2 k).dn dc] 46)=W1 at HY HA cA aD bC bA kF ⊢;obtain⟨p,g,m,r,s,t⟩:=bA.out.c;obtain⟨y0,y1,y2,y3,y4,y5⟩:=HY.out.c;obtain⟨⟨d,g0⟩,⟨h1,g1⟩,⟨h2,g2⟩,⟨h3,g3⟩,⟨h4,g4⟩,⟨h5,g5⟩⟩:=cA.out.E4 k H;rw[if_neg (by omega),eA]at h5;have e1:X≠P:=lH (by omega);have vK:=e1.symm;have e2:wr.heap.size≠P:=(by omega);have aL:=e2.symm;go_region_held3 (fun w'=>w'.cell? ⟨X,4,none⟩=some (.slice (some ⟨P,0,none⟩) W.sn cS)/\w'.cell? ⟨wr.heap.size,5,none⟩=some (.slice da (W.A2 k).dn dc)) (go_keep)
      (first
        | (go_at_call 118
           refine(ZL _ (W.A2 k).dn lo hi (W.A2 k).ds (W.A2 k).db _ (bC.out.A1 (Below.refl _ _).drew) (nG.out k H)).mono ?_;rintro e w2 ⟨⟨nv,nb,rfl,oA,tC,vC⟩,dA⟩;have o:=Cp dA;obtain⟨_,na,nc,rfl,_⟩:=id tC;obtain⟨z0,z1,z2,z3,z4,z5⟩:=(bA.out.A1 o).c;obtain⟨v0,v1,v2,v3,v4,v5⟩:=(HY.out.A1 o).c;obtain⟨⟨p0,fM⟩,⟨p1,gM⟩,⟨p2,iM⟩,⟨p3,jM⟩,⟨p4,kM⟩,⟨p5,lM⟩⟩:=(cA.out.A1 o).E4 k H;rw[if_neg (by omega),eA]at p5))
     have kL:=o.size;have rE:=AT (cA.out.next H (by omega) o tC (fun d=>by have:=vC d;have hd:W1.drew.heap.size=W1.heap.size:=rfl;omega));have I:=AC.put w2 P (k*6+5) (.slice na (W.A2 k).dn nc);have hB:=A9 HA.out o;have nE:=AT (E.out.2.2.2.1);have gA:=AT (E.out.2.2.2.2.2);have oE:=AT oA;clear oA;go_wp2;go_roundw
     case rel=>
      refine⟨k+1,_,_,by omega,by go_num,rE.out,(bA.out.A1 o).AD I (fun e=>(lH (by omega)) e),by simp only[World.size_setCell];omega,(E.out.2.2.1.A1 hB).AD I (fun q e=>by have:=(dC.out (by omega)).2;omega),(nE.out.A1 hB).AD I (fun q e=>⟨fun d e2=>by have:=(iA.out d).2.2 (by omega);omega,by omega⟩) (Nat.zero_le _),(A9 E.out.2.2.2.2.1 hB).setCell (by show f.heap.size<=P;have:=(dC.out (by omega)).2;omega) _,(gA.out.1.A1 hB).set _ _,(gA.out.2.1.A1 hB).set _ _,fun j N=>?_⟩;by_cases e:j=k
      · subst e
        simp only[if_true];exact oE.out.set _ _
      · simp only[if_neg e]
        exact((gA.out.2.2 j (by omega)).A1 hB).set _ _
     case measure=>simp[intOf];omega
   · obtain rfl:k=W.sn:=by omega
     generalize wr=wA at Hh E ⊢;generalize kb=kbS at Hh;generalize kv=kvS at Hh E;have dL:=E.out.2.1;have rK:=AT Hh.out;have pK:=AT (show ∀j,j<W.sn->0<(W.A2 j).dn->wc.heap.size<=kbS j/\kbS j<wA.heap.size from Hh.out.C9);have vD:=AT E.out.1;have sG:=AT E.out.2.2.1;have aH:=AT (E.out.2.2.2.1.weak dL);have oH:=E.out.2.2.2.2.1;have cC:=AT E.out.2.2.2.2.2;clear Hh E HZ HS mE rG nH;have HZ:=aH;clear aH;obtain⟨p,g,m,r,s,t⟩:=vD.out.c;go_wp2;clear p g m r s t
     go_loopw [6,7,42] (fun _ _ i wr=>∃(k:Nat) (kb:Nat->Nat) (kv:Nat->Value),k<=W.pn/\i=A0 k/\Di wr O wA.heap.size W.pn k W.A3 kb kv Y/\At wr X (.slice J W.pool.n L) (.slice F W.pool.hn M) (A0 W.time) (A0 W.next) (.slice aS W.sn cS) (.slice aZ W.pn cZ)/\wA.heap.size<=wr.heap.size/\Bq wr l h (.slice J W.pool.n L) (.slice F W.pool.hn M) W.pool/\De wr P wc.heap.size W.sn W.sn W.A2 kbS kvS jA/\(Below f.heap.size f wr/\CN wr 46 6 (.slice aS W.sn cS) W.sn/\CN wr 41 8 (.slice aZ W.pn cZ) W.pn/\(∀j,j<W.sn->CN wr 38 2 (kvS j) (W.A2 j).dn)/\∀j,j<k->CN wr 38 2 (kv j) (W.A3 j).dn)) (fun _ _ i _=>W.pn - (intOf i).toNat)
     case atStart=>exact⟨0,_,_,Nat.zero_le _,rfl,HZ.out,vD.out,Nat.le_refl _,sG.out,rK.out,oH,cC.out.1,cC.out.2.1,cC.out.2.2,fun j N=>absurd N (Nat.not_lt_zero _)⟩
     case round=>
      obtain⟨k,kb,kv,hk,rfl,hh,hI⟩:=hrel;have Hh:=AT hh;have E:=AT hI;clear hh hI;by_cases H:k<W.pn
      · have rH:(k:Int)<(W.pn:Int):=by omega
        have cL:=E.out.2.1;have eL:=Hh.out.lt (by omega);obtain rfl:=(iA.out (by omega)).1;obtain⟨-,da,dc,eA,-⟩:=id (fC.out k H).1;have hD:=(fC.out k H).1;rw[eA]at hD;have HD:=AT hD;clear hD;obtain⟨⟨d,g0⟩,⟨h1,g1⟩,⟨h2,g2⟩,⟨h3,g3⟩,⟨h4,g4⟩,⟨h5,g5⟩,⟨h6,g6⟩,⟨h7,g7⟩⟩:=Hh.out.E4 k H;rw[if_neg (by omega),eA]at h7;obtain⟨p,g,m,r,s,t⟩:=E.out.1.c;have ha:=AB wr (.cells #[A0 (W.A3 k).id,.string (W.A3 k).name,.string (W.A3 k).set,A0 (W.A3 k).A8,A0 (W.A3 k).time,A0 (W.A3 k).rs,A0 (W.A3 k).rb,.slice da (W.A3 k).dn dc] 41);have hy:=Jx.new wr (A0 (W.A3 k).id) (.string (W.A3 k).name) (.string (W.A3 k).set) (A0 (W.A3 k).A8) (A0 (W.A3 k).time) (A0 (W.A3 k).rs) (A0 (W.A3 k).rb) (.slice da (W.A3 k).dn dc) 41;have kF:(wr.alloc (.cells #[A0 (W.A3 k).id,.string (W.A3 k).name,.string (W.A3 k).set,A0 (W.A3 k).A8,A0 (W.A3 k).time,A0 (W.A3 k).rs,A0 (W.A3 k).rb,.slice da (W.A3 k).dn dc] 41)).heap.size=wr.heap.size+1:=World.size_alloc _ _;have HY:=AT hy;have HA:=AT ha;clear hy;go_wp2_with fail;clear d g0 h1 g1 h2 g2 h3 g3 h4 g4 h5 g5 h6 g6 h7 g7 p g m r s t;have cA:=AT (Hh.out.A1 HA.out);have aD:=A9 G (A9 E.out.2.2.2.2.1 HA.out);have bC:=AT (HD.out.A1 aD);have bA:=AT (E.out.1.A1 HA.out);have hV:wr.heap.size<wr.heap.size+1:=(by omega);generalize wr.alloc (.cells #[A0 (W.A3 k).id,.string (W.A3 k).name,.string (W.A3 k).set,A0 (W.A3 k).A8,A0 (W.A3 k).time,A0 (W.A3 k).rs,A0 (W.A3 k).rb,.slice da (W.A3 k).dn dc] 41)=W1 at HY HA cA aD bC bA kF ⊢;obtain⟨p,g,m,r,s,t⟩:=bA.out.c;obtain⟨⟨y0,-⟩,⟨y1,-⟩,⟨y2,-⟩,⟨y3,-⟩,⟨y4,-⟩,⟨y5,-⟩,⟨y6,-⟩,⟨y7,-⟩⟩:=HY.out;obtain⟨⟨d,g0⟩,⟨h1,g1⟩,⟨h2,g2⟩,⟨h3,g3⟩,⟨h4,g4⟩,⟨h5,g5⟩,⟨h6,g6⟩,⟨h7,g7⟩⟩:=cA.out.E4 k H;rw[if_neg (by omega),eA]at h7;have e1:X≠O:=mH (by omega);have vK:=e1.symm;have e2:wr.heap.size≠O:=(by omega);have aL:=e2.symm;go_region_held3 (fun w'=>w'.cell? ⟨X,5,none⟩=some (.slice (some ⟨O,0,none⟩) W.pn cZ)/\w'.cell? ⟨wr.heap.size,7,none⟩=some (.slice da (W.A3 k).dn dc)) (go_keep)
         (first
           | (go_at_call 118
              refine(ZL _ (W.A3 k).dn lo hi (W.A3 k).ds (W.A3 k).db _ (bC.out.A1 (Below.refl _ _).drew) (oG.out k H)).mono ?_;rintro e w2 ⟨⟨nv,nb,rfl,oA,tC,vC⟩,dA⟩;have o:=Cp dA;obtain⟨_,na,nc,rfl,_⟩:=id tC;obtain⟨z0,z1,z2,z3,z4,z5⟩:=(bA.out.A1 o).c;obtain⟨⟨v0,-⟩,⟨v1,-⟩,⟨v2,-⟩,⟨v3,-⟩,⟨v4,-⟩,⟨v5,-⟩,⟨v6,-⟩,⟨v7,-⟩⟩:=HY.out.A1 o;obtain⟨⟨p0,fM⟩,⟨p1,gM⟩,⟨p2,iM⟩,⟨p3,jM⟩,⟨p4,kM⟩,⟨p5,lM⟩,⟨p6,bO⟩,⟨p7,dO⟩⟩:=(cA.out.A1 o).E4 k H;rw[if_neg (by omega),eA]at p7))
        have kL:=o.size;have rE:=AT (cA.out.next H (by omega) o tC (fun d=>by have:=vC d;have hd:W1.drew.heap.size=W1.heap.size:=rfl;omega));have I:=AC.put w2 O (k*8+7) (.slice na (W.A3 k).dn nc);have hB:=A9 HA.out o;have nE:=AT (E.out.2.2.2.1);have gA:=AT (E.out.2.2.2.2.2);have oE:=AT oA;clear oA;go_wp2;go_roundw
        case rel=>
         refine⟨k+1,_,_,by omega,by go_num,rE.out,(bA.out.A1 o).AD I (fun e=>(mH (by omega)) e),by simp only[World.size_setCell];omega,(E.out.2.2.1.A1 hB).AD I (fun q e=>by have:=(iA.out (by omega)).2;omega),(nE.out.A1 hB).AD I (fun q e=>⟨fun d e2=>by have:=(iA.out (by omega)).2.2 d;omega,by omega⟩) (Nat.le_refl _),(A9 E.out.2.2.2.2.1 hB).setCell (by show f.heap.size<=O;have:=(iA.out (by omega)).2;omega) _,(gA.out.1.A1 hB).set _ _,(gA.out.2.1.A1 hB).set _ _,fun j N=>((gA.out.2.2.1 j N).A1 hB).set _ _,fun j N=>?_⟩;by_cases e:j=k
         · subst e
           simp only[if_true];exact oE.out.set _ _
         · simp only[if_neg e]
           exact((gA.out.2.2.2 j (by omega)).A1 hB).set _ _
        case measure=>simp[intOf];omega
      · obtain rfl:k=W.pn:=by omega
        have rC:=E.out.2.2.2.2.1;have tG:=AT (HR.out.A1 rC);obtain⟨p,g,m,r,s,t⟩:=E.out.1.c;obtain⟨⟨r0,eO⟩,⟨r1,fO⟩,⟨r2,gO⟩,⟨r3,iO⟩,⟨r4,jO⟩,⟨r5,kO⟩⟩:=tG.out;go_wp2;have I:=AC.put6 wr (w.heap.size+1) (.slice J W.pool.n L) (.slice F W.pool.hn M) (A0 W.time) (A0 W.next) (.slice aS W.sn cS) (.slice aZ W.pn cZ);have gB:=tG.out.put (.slice J W.pool.n L) (.slice F W.pool.hn M) (A0 W.time) (A0 W.next) (.slice aS W.sn cS) (.slice aZ W.pn cZ);have fL:=(E.out.2.2.2.1.own pG.out.1 (fun d=>(dC.out d).1) nS (fun i hi=>(eC.out i hi).2));have gL:=(Hh.out.own pG.out.2 (fun d=>(iA.out d).1) nZ (fun i hi=>(fC.out i hi).2));have iL:=Hh.out.C9;have oD:(put6 wr (w.heap.size+1) (.slice J W.pool.n L) (.slice F W.pool.hn M) (A0 W.time) (A0 W.next) (.slice aS W.sn cS) (.slice aZ W.pn cZ)).heap.size=wr.heap.size:=(by simp only[World.size_setCell]);have kN:=E.out.2.1;have zS:∀q,Fy P kbS W.sn W.A2 q->h<=q/\q<wA.heap.size/\(q<wc.heap.size->0<W.sn/\q=P):=by
         rintro q (⟨d,rfl⟩ | ⟨i,hi,d,rfl⟩)
         · exact⟨(dC.out d).2,by have:=sH d;omega,fun _=>⟨d,rfl⟩⟩
         · have:=pK.out i hi d;exact⟨by omega,by omega,fun hx=>by omega⟩
        have zZ:∀q,Ii O kb W.pn W.A3 q->h<=q/\q<wr.heap.size/\(q<wA.heap.size->0<W.pn/\q=O):=by
         rintro q (⟨d,rfl⟩ | ⟨i,hi,d,rfl⟩)
         · exact⟨(iA.out d).2.1,by have:=bE d;omega,fun _=>⟨d,rfl⟩⟩
         · have:=iL i hi d;exact⟨by omega,by omega,fun hx=>by omega⟩
        refine bodyPost_ret (v:=.agg #[.slice J W.pool.n L,.slice F W.pool.hn M,A0 W.time,A0 W.next,.slice aS W.sn cS,.slice aZ W.pn cZ]) (by simp[results,Tryz.results59,go_sem,gB.1.1,gB.2.1.1,gB.2.2.1.1,gB.2.2.2.1.1,gB.2.2.2.2.1.1,gB.2.2.2.2.2.1]) rfl ⟨_,_,_,_,rfl,?_,?_⟩
        · refine⟨fun q=>l<=q/\q<h,fun q=>Fy P kbS W.sn W.A2 q,fun q=>Ii O kb W.pn W.A3 q,⟨?_,?_,?_,?_,?_,?_⟩,?_⟩
          · exact(E.out.2.2.1.isIn (S:=fun q=>l<=q/\q<h) (fun k h1 h2=>⟨h1,h2⟩)).AD I (fun k hk e=>by omega)
          · exact FC.put6 ⟨P,kbS,kvS,fL,E.out.2.2.2.1.Bn,fun q hq=>hq,E.out.2.2.2.2.2.1,E.out.2.2.2.2.2.2.2.1⟩ _ _ _ _ _ _ _ (fun e=>by have:=zS _ e;omega)
          · exact FH.put6 ⟨O,kb,kv,gL,Hh.out.Bn,fun q hq=>hq,E.out.2.2.2.2.2.2.1,E.out.2.2.2.2.2.2.2.2⟩ _ _ _ _ _ _ _ (fun e=>by have:=zZ _ e;omega)
          · exact fun k hk e=>by have:=zS k e;omega
          · exact fun k hk e=>by have:=zZ k e;omega
          · intro k hk e
            have h1:=zS k hk;have h2:=(zZ k e).2.2 h1.2.1;have h3:=h1.2.2 (by have:=bE h2.1;omega);have:=(iA.out h2.1).2.2 h3.1;omega
          · intro k hk
            rw[oD];rcases hk with hk | hk | hk
            · omega
            · have:=zS k hk;omega
            · have:=zZ k hk;omega
        · exact(A9 G rC).trans (I.A1 (B:=w.heap.size) (A9 G rC).size (fun k e=>by omega))
variable{w:World}
theorem Rq{P:Program}{w1:World}{c:Array Oper}{o:Oper}{a:Act}{K:Act->World->Prop}{Q:Exit->Act->World->Prop}{E:Prop}(d:o.guard=none)(s x:Operand)(t:TypeId)
 (g:o.op = .call {callee:=.builtin .append,args:=#[s,x],argTypes:=#[t,t]}) (vs f e:Value) (hs:a.eval s=vs) (j:a.eval x=f) (b:(Builtin.append_ #[t,t] o.type #[vs,f]).run P w = .ok e w1)
 (h:K (a.put o.dst e) w1):if Region.wanted o (yielded c a.tmps)=true then Oper.wp P o a w K Q else E:=by
 have i:Region.wanted o (yielded c a.tmps)=true:=by simp[Region.wanted,d]
 rw[if_pos i];unfold Oper.wp;simp[execOp,g,resolve,invoke,builtin,hs,j,b,Result.andThen];exact h
theorem zIv:Tryz.prog.underlying 28=some (.slice 41):=by kernel_rfl
theorem Yy(w:World){b b':Nat}(o o':Nat)(u c:Value)(e:b≠b'):(w.setCell ⟨b,o,none⟩ u).setCell ⟨b',o',none⟩ c=(w.setCell ⟨b',o',none⟩ c).setCell ⟨b,o,none⟩ u:=by
 unfold World.setCell;congr 1;refine Array.ext_getElem? fun i=>?_
 simp only[Array.getElem?_modify];by_cases a:b=i
 ·have d:¬b'=i:=(by omega);simp[a,d]
 ·simp[a]
variable{n k:Nat}{kv:Nat->Value}{v:Value}
theorem Dz.nth{bs:Nat}{kb:Nat->Nat}{f:Nat->Ab}(h:Dz w bs kb kv v n f)(d:k<n):∃off c,v = .slice (some ⟨bs,off,none⟩) n c/\EO w bs (off+k*6) (kb k) (kv k) (f k):=by
 obtain⟨_,a,c,hv,_,e⟩:=h;obtain⟨off,b,h⟩:=e (by omega);exact⟨off,c,by rw[hv,b],h k d⟩
variable{i:Nat}
theorem zC0{bs o nb:Nat}{f:Nat->Aa}(h:GU w bs o nb (kv i) (f i)):∀r,r<8->w.cell? ⟨bs,o+r,none⟩=some (O6 f kv i r)
 | 0,_=>h.c0.1
 | 1,_=>h.c1.1
 | 2,_=>h.c2.1
 | 3,_=>h.c3.1
 | 4,_=>h.c4.1
 | 5,_=>h.c5.1
 | 6,_=>h.c6.1
 | 7,_=>h.c7.1
 | n+8,h=>absurd h (by omega)
theorem zFu{b:Nat}{fs fb:Nat->Int}(h:CS w b v n fs fb):v.oneCell'=true:=by
 obtain⟨_,a,c,rfl,_⟩:=h;rfl
variable{Q:Nat->Prop}{W:A6}
theorem zBC(w:World)(lo hi:Nat){P R:Nat->Prop}{v0 v1 v3:Value}{b2 d c2:Nat}(X:GY w P Q R v0 v1 (.slice (some ⟨b2,d,none⟩) W.sn c2) v3 W)(l:∀j,P j\/Q j\/R j->lo<=j/\j<hi)(rA:hi<=w.heap.size)(tA:lo<=w.heap.size)(hk:k<W.sn)(hp:W.pn<20)(name set:ByteArray)(hn:name.size<=maxLen)(hs:set.size<=maxLen)(ty:TypeId) :
 ∃dv nb,EO w b2 (d+k*6) nb dv (W.A2 k)/\lo<=b2/\b2<hi/\∃g cap w',(Builtin.append_ #[28,28] ty #[v3,.slice (some ⟨w.heap.size,0,none⟩) 1 1]).run Tryz.prog (w.alloc (.cells #[A0 W.next,.string name,.string set,A0 (W.A2 k).A8,A0 W.time,A0 (W.A2 k).rs,A0 (W.A2 k).rb,dv] 41)) = .ok (.slice (some ⟨g,0,none⟩) (W.pn+1) cap) w'/\AC (fun j=>lo<=j/\j<hi/\j≠b2) w w'/\w.heap.size<w'.heap.size/\
  OC ((w'.setCell ⟨b2,d+k*6+2,none⟩ (A0 W.next)).setCell ⟨b2,d+k*6+5,none⟩ (A5)) lo hi (w.heap.size+1) w'.heap.size v0 v1 (.slice (some ⟨b2,d,none⟩) W.sn c2) (.slice (some ⟨g,0,none⟩) (W.pn+1) cap) (Co W k name set):=by
 obtain⟨hP,⟨bs,bA,b,hS,M,z,-,-⟩,⟨q,aB,L,hZ,N,B,A,-⟩,pq,pr,qr⟩:=X;obtain⟨off,c,hv,J⟩:=hS.nth hk;simp only[Value.slice.injEq,Option.some.injEq,Addr.mk.injEq,and_true,true_and]at hv;obtain⟨⟨rfl,rfl⟩,rfl⟩:=hv;have E:Q b2:=z _ (Or.inl ⟨by omega,rfl⟩);have o:=l b2 (Or.inr (Or.inl E));refine⟨b k,bA k,J,o.1,o.2,?_⟩;have n:=AB w (.cells #[A0 W.next,.string name,.string set,A0 (W.A2 k).A8,A0 W.time,A0 (W.A2 k).rs,A0 (W.A2 k).rb,b k] 41);have hz:(w.alloc (.cells #[A0 W.next,.string name,.string set,A0 (W.A2 k).A8,A0 W.time,A0 (W.A2 k).rs,A0 (W.A2 k).rb,b k] 41)).heap.size=w.heap.size+1:=World.size_alloc _ _;have p:∀j u,(JF (Ed W k name set) (b k))[j]?=some u->(w.alloc (.cells #[A0 W.next,.string name,.string set,A0 (W.A2 k).A8,A0 W.time,A0 (W.A2 k).rs,A0 (W.A2 k).rb,b k] 41)).cell? ((⟨w.heap.size,0,none⟩:Addr).add j)=some u:=fun j u i=>by
  have e:(⟨w.heap.size,0,none⟩:Addr).add j=⟨w.heap.size,j,none⟩:=by
   unfold Addr.add;split
   ·simp_all
   ·simp
  rw[e];refine(World.cell?_alloc_at _ _ _ _ rfl).trans ?_;rw[<-i];exact List.getElem?_toArray ..
 have G:∀u∈JF (Ed W k name set) (b k),u.oneCell'=true:=fun u hu=>by
  have t:=zFu J.dead;simp only[JF,List.mem_cons,List.not_mem_nil,or_false]at hu;rcases hu with rfl | rfl | rfl | rfl | rfl | rfl | rfl | rfl<;>first | rfl | exact t
 obtain⟨i0,V,K⟩:=Option.map_eq_some_iff.1 Xd;simp only[Prod.mk.injEq]at K;obtain⟨aA,Y,O⟩:=K;have x:=hP.A1 n;have y:=hS.A1 n;have r:=hZ.A1 n;have F:0<W.pn->v3.ownBlock=some q/\R q:=fun m=>by
  refine⟨?_,B _ (Or.inl ⟨m,rfl⟩)⟩;obtain⟨_,a,c,hv,_,Z⟩:=hZ;obtain⟨off,n,_⟩:=Z m;rw[hv,n];rfl
 generalize w.alloc (.cells #[A0 W.next,.string name,.string set,A0 (W.A2 k).A8,A0 W.time,A0 (W.A2 k).rs,A0 (W.A2 k).rb,b k] 41)=wa at n hz p x y r ⊢;obtain⟨g,cap,w',row,hr,H,S,I,T,U⟩:=CN.append (P:=Tryz.prog) 28 ty 41 i0 _ 8 96 lo zIv V aA Y O rfl (by decide) (A.A1 n) (Gj W.A3 L W.pn)
  (fun m g f=>by
   obtain⟨t,v⟩:=F m;rw[t]at f;injection f with f;exact f▸(l _ (Or.inr (Or.inr v))).1)
  (fun m g f j u i=>by
   have sA:j<W.pn*8:=by
    have:=(List.getElem?_eq_some_iff.1 i).1
    rwa [Gj]at this
   obtain⟨_,a,c,hv,_,Z⟩:=r;obtain⟨off,C,D⟩:=Z m;rcases A with⟨e,_⟩ | ⟨_,g',cA,nA,s,_⟩
   ·omega
   ·rw[hv,C]at s;simp only[Value.slice.injEq,Option.some.injEq,Addr.mk.injEq,and_true,true_and]at s;obtain⟨⟨rfl,rfl⟩,rfl⟩:=s;rw[hv,C]at f;obtain rfl:q=g:=(by injection f);have hd:j / 8<W.pn:=(by omega);have h8:=zC0 (D (j / 8) hd) (j % 8) (by omega);have e1:0+j / 8*8+j % 8=j:=(by omega);have e2:=G5 W.A3 L W.pn hd (show j % 8<8 by omega);rw[show j / 8*8+j % 8=j by omega,i]at e2;rw[e1]at h8;rw[h8,e2])
  ⟨w.heap.size,0,none⟩ 1 1 (JF (Ed W k name set) (b k)) rfl p G (by omega) (by unfold maxLen;omega) (by omega) (by omega)
 refine⟨g,cap,w',hr,?_,by have:=S.size;omega,?_⟩
 ·refine(AC.EF n).trans ((Ok S).mono ?_);intro j i;rcases I with h | ⟨m,h⟩
  ·rw[h]at i;cases i
  ·obtain⟨t,v⟩:=F m;rw[h,t]at i;injection i with i;subst i;exact⟨(l _ (Or.inr (Or.inr v))).1,(l _ (Or.inr (Or.inr v))).2,fun e=>qr b2 E (e▸v)⟩
 ·rw[<-hz];exact zBE (dv:=b k) x y M z r N B pq pr qr l (by omega) hk (by unfold maxLen;omega) hn hs H S I T (by omega) U
def del{α : Type}(f:Nat->α)(k:Nat):Nat->α:=fun i=>if i<k then f i else f (i+1)
def Rw(W:A6)(x:Int)(i:Nat):Prop:=i<W.pn/\(W.A3 i).A8=x/\(∀j,j<W.pn->j≠i->(W.A3 j).A8≠x)/\∀j,j<W.sn->(W.A2 j).A8≠x
def Rx(W:A6)(x:Int)(i:Nat):Prop:=i<W.sn/\(W.A2 i).A8=x/\(∀j,j<W.sn->j≠i->(W.A2 j).A8≠x)/\∀j,j<W.pn->(W.A3 j).A8≠x
theorem M3{f:Nat->Int}{x:Int}:∀{n:Nat},Ds f x n=0->∀j,j<n->f j≠x
 | 0,_,j,hj=>absurd hj (Nat.not_lt_zero _)
 | n+1,h,j,hj=>by
  by_cases e:f n=x
  ·rw[VH e]at h;omega
  ·rw[Tt e]at h;by_cases a:j=n
   ·rw[a];exact e
   ·exact M3 h j (by omega)
variable{f:Nat->Int}
theorem VG{x:Int}(hi:i<n)(h:f i=x):1<=Ds f x n:=by
 rcases Nat.eq_zero_or_pos (Ds f x n)with a | a
 ·exact absurd h (M3 a i hi)
 ·exact a
theorem QL{f:Nat->Int}{x:Int}:∀{n:Nat},Ds f x n=1->∃i,i<n/\f i=x/\∀j,j<n->j≠i->f j≠x
 | 0,h=>absurd h (by simp[Ds])
 | n+1,h=>by
  by_cases e:f n=x
  ·rw[VH e]at h;exact⟨n,by omega,e,fun j g a=>M3 (n:=n) (by omega) j (by omega)⟩
  ·rw[Tt e]at h;obtain⟨i,hi,c,d⟩:=QL h;refine⟨i,by omega,c,fun j g a=>?_⟩;by_cases b:j=n
   ·rw[b];exact e
   ·exact d j (by omega) a
theorem zH9{x:Int}(h:Ml W x=1):(∃i,Rw W x i)\/∃i,Rx W x i:=by
 unfold Ml at h;rcases Nat.eq_zero_or_pos (Ds (fun i=>(W.A2 i).A8) x W.sn)with a | a
 ·rw[a,Nat.zero_add]at h;obtain⟨i,hi,b,c⟩:=QL h;exact Or.inl ⟨i,hi,b,c,M3 a⟩
 ·obtain⟨i,hi,b,c⟩:=QL (f:=fun i=>(W.A2 i).A8) (x:=x) (n:=W.sn) (by omega);exact Or.inr ⟨i,hi,b,c,M3 (f:=fun i=>(W.A3 i).A8) (n:=W.pn) (by omega)⟩
def sdY(W:A6)(g:Aa)(n:Nat)(f h:Nat->Int):List (Int×Int):=Bl f h (AI W g.A8).time n
def sdO(W:A6)(g:Aa)(n:Nat)(f h:Nat->Int):List (Int×Int):=C6 f h (AI W g.A8).time n
def sdD(W:A6)(g:Aa)(n:Nat)(f h:Nat->Int):List (Int×Int):=Bu g.dn g.ds g.db ++ sdO W g n f h
def N6(W:A6)(g s:Aa):Aa:={s with A8:=g.A8,dn:=(sdD W g s.dn s.ds s.db).length,ds:=AN (sdD W g s.dn s.ds s.db),db:=AP (sdD W g s.dn s.ds s.db)}
def Md(W:A6)(g:Aa)(s:Ab):Ab:={s with A8:=g.A8,dn:=(sdD W g s.dn s.ds s.db).length,ds:=AN (sdD W g s.dn s.ds s.db),db:=AP (sdD W g s.dn s.ds s.db)}
def SP(W:A6)(k i:Nat):Nat->Aa:=fun j=>if j=i then N6 W (W.A3 k) (W.A3 i)else W.A3 j
def SQ(W:A6)(k i:Nat):Nat->Ab:=fun j=>if j=i then Md W (W.A3 k) (W.A2 i)else W.A2 j
def IF(W:A6)(k i:Nat):List (Int×Int):=sdY W (W.A3 k) (W.A3 i).dn (W.A3 i).ds (W.A3 i).db
def GD(W:A6)(k i:Nat):List (Int×Int):=sdY W (W.A3 k) (W.A2 i).dn (W.A2 i).ds (W.A2 i).db
def zB(W:A6)(k i:Nat):A6:={W with pool:=BJ W.pool (IF W k i),pn:=W.pn - 1,A3:=del (SP W k i) k}
def zC(W:A6)(k i:Nat):A6:={W with pool:=BJ W.pool (GD W k i),A2:=SQ W k i,pn:=W.pn - 1,A3:=del W.A3 k}
theorem zE1{g:Nat->Int}{x:Int×Int}(h:x∈Bu n f g):∃j,j<n/\f j=x.1/\g j=x.2:=by
 unfold Bu at h;obtain⟨j,a,rfl⟩:=List.mem_map.1 h;exact⟨j,List.mem_range.1 a,rfl,rfl⟩
theorem XM(c:B4 W)(hi:i<memN W)(t:Int):Cf (AA W i).dn (AA W i).ds (AA W i).db/\CT W.pool (Bl (AA W i).ds (AA W i).db t (AA W i).dn):=by
 have n:DU W i:=by
  by_cases r:i<W.pn
  ·exact c.dead i r
  ·have:=(c.A2 (i - W.pn) (by unfold memN at hi;omega)).2
   rwa [show W.pn+(i - W.pn)=i by omega]at this
 obtain⟨h,-,-,f⟩:=n;refine⟨h,?_⟩;have o:CT W.pool (Bu (AA W i).dn (AA W i).ds (AA W i).db):=by
  refine⟨c.right,fun x s=>?_,?_⟩
  ·obtain⟨j,q,l,m⟩:=zE1 s;have g:=Hu.1 (f j q);rw[l,m]at g;unfold BR at g;have:=ED c.right (LN c.A3 (AA W i).A8) (List.mem_filter.1 g).1;exact⟨this.1,this.2.2⟩
  ·unfold Bu;rw[List.map_map];unfold List.Nodup;rw[List.pairwise_map];refine List.pairwise_iff_getElem.2 fun a b p k d=>?_
   rw[List.length_range]at p k;rw[List.getElem_range,List.getElem_range];exact fun e=>h.2.2 b k a d e
 exact o.sub (MD _ _ _ _)
theorem Qr{x:ByteArray}(h:BL W x):∃k,Gs W x k:=by
 obtain⟨k,c,hn⟩:=h
 induction k using Nat.strongRecOn with
 | _ k ih=>
  by_cases e:∃j,j<k/\(W.A2 j).name=x
  ·obtain⟨j,a,b⟩:=e;exact ih j a (by omega) b
  ·exact⟨k,c,hn,fun j a b=>e ⟨j,a,b⟩⟩
variable{ei:Nat->Nat}
theorem FN.all{a b:Prop}{m:Nat}(h:FN W a b m Q ei none):∀j,j<m->Q j:=by
 rcases h with⟨_,e⟩ | ⟨_,_,e⟩ | ⟨_,_,_,k,d,_,_,e⟩ | ⟨_,_,_,c,_⟩
 ·cases e
 ·cases e
 ·cases e
 ·exact c
open Go.Extern.Stop Go.Stop Go.Extern
def Gr(w:World)(b:Nat)(p:Nat->Addr):Prop:=∀k,k<7->w.cell? ⟨b,k*2,none⟩=some (Af (p k))/\w.cell? ⟨b,k*2+1,none⟩=some (A0 (Ca k))
variable{p:Nat->Addr}
theorem Gr.A1{w':World}{b:Nat}(h:Gr w b p)(t:Below w.heap.size w w'):Gr w' b p:=
 fun k a=>⟨(t.cell (AV (h k a).1)).trans (h k a).1,(t.cell (AV (h k a).2)).trans (h k a).2⟩
theorem Gr.new(p:Nat->Addr)(w:World):Gr (w.alloc (.cells (L6 p) 160)) w.heap.size p:=
 fun k a=>⟨(Az (heap_alloc_new _ _) (Sm p a).1).1,(Az (heap_alloc_new _ _) (Sm p a).2).1⟩
theorem Y0(p:Nat->Addr)(i:Nat)(hi:i<7)(w:World)(h:D8 w p):Calls Tryz.prog 60 #[Af (p i)] w fun e w'=>e = .returned (A0 (Ca i))/\Below w.heap.size w w':=by
 have f:=AQ h;clear h;have q:=AB w (.cells (L6 p) 160);have m:=AQ (Gr.new p w);go_enter Tryz.func60,Tryz.ntmps60;go_wp2_with fail;refine(Yw p _ f.out).mono ?_;rintro e B ⟨rfl,rfl⟩;go_wp2
 go_loopw [7] (fun t wr=>∃k:Nat,k<=i/\t=A0 k/\Gr wr w.heap.size p/\Below w.heap.size w wr) (fun i _=>7 - (intOf i).toNat)
 case atStart=>exact⟨0,Nat.zero_le _,rfl,m.out,q⟩
 case round=>
  obtain⟨k,A,rfl,g,r⟩:=hrel;have s:(k:Int)<7:=(by omega);obtain⟨u,q1⟩:=g k (by omega);have j:=AQ g;clear g;have hn:=AB wr (.cells #[Af (p k),A0 (Ca k)] 160);have a:=A9 r hn;have b:=AQ (j.out.A1 hn);have y:(wr.alloc (.cells #[Af (p k),A0 (Ca k)] 160)).cell? ⟨wr.heap.size,0,none⟩=some (Af (p k)):=(Az (heap_alloc_new _ _) rfl).1;have z:(wr.alloc (.cells #[Af (p k),A0 (Ca k)] 160)).cell? ⟨wr.heap.size,1,none⟩=some (A0 (Ca k)):=(Az (heap_alloc_new _ _) rfl).1;go_wp2_with fail;generalize wr.alloc (.cells #[Af (p k),A0 (Ca k)] 160)=W5 at y z hn a b ⊢;clear u q1;by_cases l:k=i
  ·subst l;refine(zGr (p k) _).mono ?_;rintro e x ⟨rfl,rfl⟩;go_wp2;go_ret;exact⟨rfl,a⟩
  ·obtain⟨n,v,c⟩:=(f.out.A1 a).row i hi;obtain⟨o,tb,d⟩:=(f.out.A1 a).row k (by omega);refine(zEy (p i) (p k) n o v tb _ (f.out.ne i k hi (by omega) (Ne.symm l)) c d).mono ?_;rintro e x ⟨rfl,rfl⟩;clear c d;go_wp2;go_roundw
   case rel=>exact⟨k+1,by omega,by go_num,b.out,a⟩
   case measure=>simp[intOf];omega
theorem zGp(a:k<7)(hi:i<7)(h:k≠i):Ca k≠Ca i:=by
 revert h;revert k;revert i;decide
theorem zEg(k:Nat):Ca k≠0:=by unfold Ca;split<;>decide
def IU(p:Nat->Addr)(o:Bm)(C:Nat)(w:World)(e:Ending)(w':World):Prop:=
 (∃v,e = .returned v)/\Below C w w'/\C<w'.heap.size/\((o.code=0/\∃z0 z1 z2 z3,Bb w' C z0 z1 (A0 o.world.time) (A0 o.world.next) z2 z3 (A0 o.id) (A0 o.many) .nilIface/\EL w' (C+1) w'.heap.size z0 z1 z2 z3 o.world)\/(∃i,i<7/\o=BP (Ca i)/\∃z0 z1 z2 z3 z4 z5 z6 z7,Bb w' C z0 z1 z2 z3 z4 z5 z6 z7 (Af (p i))))
theorem qH(p:Nat->Addr)(tv nv qv:Value)(E:Nat)(l:Array Value)(H G m:Nat)(tx nx:Nat->ByteArray)(g:Nat->Nat)(lb:Nat->Array Value)(ei:Nat->Nat)(Q:Nat->Prop)(o:Bm)(v0 v1 v2 v3:Value)(lo hi:Nat)(W:A6)(w:World)(hE:D8 w p)(h:C7 w lo hi v0 v1 v2 v3 W)(iE:G4 W)(b1:Ap W.pool<=1048576)(b2:W.sn<=1048576)(b3:W.pn<=1048576)(b4:JX W)
 (ht:E3 w tv H tx) (hn:E3 w nv G nx) (hq:It w p qv m g lb ei) (rC:∀i,i<m->ei i<7) (eg:∀i,i<m->Enters Tryz.prog (g i)) (ed:Enters Tryz.prog E)
 (hQ:∀i,i<m->∀w',Below w.heap.size w w'->DE W->(∀j,j<i->Q j)->Calls Tryz.prog (g i) (#[Cc v0 v1 v2 v3 W] ++ lb i) w' fun e oE=>AJ (Q i) e/\Below w'.heap.size w' oE)
 (hD:∀C w' z0 z1 z2 z3,w.heap.size<=C->Below w.heap.size w w'->C<w'.heap.size->DE W->(¬∃i,i<H/\8000<(tx i).size)->(¬∃i,i<G/\¬BX (nx i))->(∀j,j<m->Q j)->D5 w' (C+1) w'.heap.size z0 z1 z2 z3 W->Bb w' C z0 z1 (A0 W.time) (A0 W.next) z2 z3 (A0 0) (A0 0) .nilIface->Calls Tryz.prog E (#[.pointer (some ⟨C,0,none⟩)] ++ l) w' (IU p o C w')) :
 Calls Tryz.prog 24 #[.agg #[tv,nv,qv,.func (.func E) #[] l],Cc v0 v1 v2 v3 W] w fun e w'=>∃r,FN W (∃i,i<H/\8000<(tx i).size) (∃i,i<G/\¬BX (nx i)) m Q ei r/\Iv (Ez r o) w e w':=by
 have Hp:=AQ h;have HE:=AQ hE;have Ht:=AQ ht;have Hn:=AQ hn;have Hq:=AQ hq;have HQ:=AQ hQ;have lD:=AQ hD;have Hg:=AQ eg;have oD:=AQ ed;have pD:=AQ rC;obtain⟨t1,ta,tc,rfl,-⟩:=ht;obtain⟨n1,na,nc,rfl,-⟩:=hn;obtain⟨m1,qa,qc,rfl,-⟩:=hq;clear h hE hQ eg hD ed rC;have pC:=AB w (.cells #[.slice ta H tc,.slice na G nc,.slice qa m qc,.func (.func E) #[] l] 70);have bB:=AB (w.alloc (.cells #[.slice ta H tc,.slice na G nc,.slice qa m qc,.func (.func E) #[] l] 70)) (.cells #[v0,v1,A0 W.time,A0 W.next,v2,v3] 30);have f:=AB ((w.alloc (.cells #[.slice ta H tc,.slice na G nc,.slice qa m qc,.func (.func E) #[] l] 70)).alloc (.cells #[v0,v1,A0 W.time,A0 W.next,v2,v3] 30)) (.cells #[A5,A5,A0 0,A0 0,A5,A5,A0 0,A0 0,A0 0] 34);have U:=A9 (A9 pC bB) f;have hd:=((JC.new w (.slice ta H tc) (.slice na G nc) (.slice qa m qc) (.func (.func E) #[] l) 70).A1 bB).A1 f;have hx:=(At.new (w.alloc (.cells #[.slice ta H tc,.slice na G nc,.slice qa m qc,.func (.func E) #[] l] 70)) (v0) (v1) (A0 W.time) (A0 W.next) (v2) (v3) 30).A1 f;have hr:=Bb.new ((w.alloc (.cells #[.slice ta H tc,.slice na G nc,.slice qa m qc,.func (.func E) #[] l] 70)).alloc (.cells #[v0,v1,A0 W.time,A0 W.next,v2,v3] 30)) (A5) (A5) (A0 0) (A0 0) (A5) (A5) (A0 0) (A0 0) (A0 0) 34;rw[World.size_alloc]at hx;rw[World.size_alloc,World.size_alloc]at hr;have hz:w.heap.size+3<=(((w.alloc (.cells #[.slice ta H tc,.slice na G nc,.slice qa m qc,.func (.func E) #[] l] 70)).alloc (.cells #[v0,v1,A0 W.time,A0 W.next,v2,v3] 30)).alloc (.cells #[A5,A5,A0 0,A0 0,A5,A5,A0 0,A0 0,A0 0] 34)).heap.size:=by rw[World.size_alloc,World.size_alloc,World.size_alloc];omega
 have HD:=AQ hd;have HX:=AQ hx;have R:=AQ hr;clear hd hx hr;have gE:=fun (w:World) (a:Addr)=>run_store Tryz.prog w a (.func (.func E) #[] l) .plain rfl
 obtain⟨⟨d0,-⟩,⟨d1,-⟩,⟨d2,-⟩,⟨d3,-⟩⟩:=HD.out;obtain⟨x0,x1,x2,x3,x4,x5⟩:=HX.out.c;go_enter Tryz.func24,Tryz.ntmps24;go_wp2_with fail;clear d0 d1 d2 d3 x0 x1 x2 x3 x4 x5 gE;generalize (((w.alloc (.cells #[.slice ta H tc,.slice na G nc,.slice qa m qc,.func (.func E) #[] l] 70)).alloc (.cells #[v0,v1,A0 W.time,A0 W.next,v2,v3] 30)).alloc (.cells #[A5,A5,A0 0,A0 0,A5,A5,A0 0,A0 0,A0 0] 34))=W1 at U HD HX R hz ⊢;clear pC bB f;refine(zBK p _ _ _ _ H G m tx nx g lb ei Q _ _ _ _ lo hi W W1 (HE.out.A1 U) (Hp.out.A1 U) iE (Ht.out.A1 U) (Hn.out.A1 U) (Hq.out.A1 U) Hg.out (fun i hi w' dE=>HQ.out i hi w' (A9 U dE))).mono ?_;rintro e S ⟨r,rfl,dA,f⟩;have z:=AQ dA;have mC:=A9 U f;have vG:=f.size;have kD:=AQ (HD.out.A1 f);have nD:=AQ (HX.out.A1 f);have vB:=AQ (R.out.A1 f);clear dA f U HD HX R;cases r with
 | some i=>
  have eB:i<7:=by
   rcases z.out with⟨_,e⟩ | ⟨_,_,e⟩ | ⟨_,_,_,k,hk,_,_,e⟩ | ⟨_,_,_,_,e⟩
   ·simp at e;omega
   ·simp at e;omega
   ·have:=pD.out k hk;simp at e;omega
   ·simp at e
  unfold SO;have s:=AB S (.cells #[A5,A5,A0 0,A0 0,A5,A5,A0 0,A0 0,Af (p i)] 84);have D:=AQ (Bb.new S (A5) (A5) (A0 0) (A0 0) (A5) (A5) (A0 0) (A0 0) (Af (p i)) 84);have R:=AQ (vB.out.A1 s);have A:=A9 mC s;obtain⟨-,-,-,-,-,-,-,-,⟨K,-⟩⟩:=D.out;go_wp2_with fail;clear K;generalize S.alloc (.cells #[A5,A5,A0 0,A0 0,A5,A5,A0 0,A0 0,Af (p i)] 84)=W3 at D R A ⊢;generalize S.heap.size=C at D ⊢;clear s;obtain⟨-,-,-,-,-,-,-,-,⟨K,-⟩⟩:=D.out;go_wp2_with fail;refine(Y0 p i eB _ (HE.out.A1 A)).mono ?_;rintro e wz ⟨rfl,N⟩;have M:=A9 A N;have J:=AQ (R.out.A1 N);clear K;obtain⟨⟨r0,g0⟩,⟨r1,g1⟩,⟨r2,g2⟩,⟨r3,g3⟩,⟨r4,g4⟩,⟨r5,g5⟩,⟨r6,g6⟩,⟨r7,g7⟩,⟨r8,g8⟩⟩:=J.out;go_wp2_with fail;have b:=J.out.put (A5) (A5) (A0 0) (A0 0) (A5) (A5) (A0 0) (A0 0) (A0 (Ca i));have I:=AC.put9 wz (w.heap.size+1+1) (A5) (A5) (A0 0) (A0 0) (A5) (A5) (A0 0) (A0 0) (A0 (Ca i));clear r0 r1 r2 r3 r4 r5 r6 r7 r8 g0 g1 g2 g3 g4 g5 g6 g7 g8;refine bodyPost_ret (v:=.agg #[A5,A5,A0 0,A0 0,A5,A5,A0 0,A0 0,A0 (Ca i)]) (by simp[results,Tryz.results24,go_sem,b.1.1,b.2.1.1,b.2.2.1.1,b.2.2.2.1.1,b.2.2.2.2.1.1,b.2.2.2.2.2.1.1,b.2.2.2.2.2.2.1.1,b.2.2.2.2.2.2.2.1.1,b.2.2.2.2.2.2.2.2.1]) rfl ⟨some i,z.out,?_⟩;exact⟨_,_,_,_,rfl,TQ,M.trans (I.A1 (B:=w.heap.size) M.size (fun k e=>by omega))⟩
 | none=>
  unfold SO;have s:=AB S (.cells #[A5,A5,A0 0,A0 0,A5,A5,A0 0,A0 0,.nilIface] 84);have D:=AQ (Bb.new S (A5) (A5) (A0 0) (A0 0) (A5) (A5) (A0 0) (A0 0) (.nilIface) 84);have nA:=AQ (vB.out.A1 s);have oA:=AQ (nD.out.A1 s);have mA:=AQ (kD.out.A1 s);have A:=A9 mC s;have tC:S.heap.size<(S.alloc (.cells #[A5,A5,A0 0,A0 0,A5,A5,A0 0,A0 0,.nilIface] 84)).heap.size:=(by rw[World.size_alloc];omega);obtain⟨-,-,-,-,-,-,-,-,⟨K,-⟩⟩:=D.out;obtain⟨x0,x1,x2,x3,x4,x5⟩:=oA.out.c;go_wp2_with fail;clear K x0 x1 x2 x3 x4 x5;generalize S.alloc (.cells #[A5,A5,A0 0,A0 0,A5,A5,A0 0,A0 0,.nilIface] 84)=W3 at D nA oA mA A tC ⊢;generalize sG:S.heap.size=C at D tC ⊢;clear s;refine(zCz _ _ _ _ lo hi W W3 (Hp.out.A1 A) b1 b2 b3 b4).mono ?_;rintro e w4 ⟨z0,z1,z2,z3,rfl,ho,F⟩;obtain⟨V,t,X,u,Y,x,Z,y,rfl,rfl,rfl,rfl⟩:=ho.form;have nC:=A9 A F;have aH:=F.size;have lA:=AQ (D.out.A1 F);have aC:=AQ (nA.out.A1 F);have tB:=AQ (mA.out.A1 F);have Ho:=AQ ho;clear ho D nA oA mA F;obtain⟨⟨c0,f0⟩,⟨c1,f1⟩,⟨c2,f2⟩,⟨c3,f3⟩,⟨c4,f4⟩,⟨c5,f5⟩,⟨c6,f6⟩,⟨c7,f7⟩,⟨K,f8⟩⟩:=lA.out;obtain⟨⟨d0,-⟩,⟨d1,-⟩,⟨d2,-⟩,⟨d3,-⟩⟩:=tB.out;have mF:C≠w.heap.size:=(by omega);have nF:w.heap.size≠C:=(by omega);have e0:∀(args:Array Value) (w:World),(callFunc E args).run Tryz.prog w = .ok (.enter E args) w:=oD.out;go_wp2_with fail;clear c0 c1 c2 c3 c4 c5 c6 c7 K f0 f1 f2 f3 f4 f5 f6 f7 f8 d0 d1 d2 d3 e0;have I:AC (fun k=>k=C) w4 ((((((w4.setCell ⟨C,0,none⟩ (.slice V W.pool.n t)).setCell ⟨C,1,none⟩ (.slice X W.pool.hn u)).setCell ⟨C,2,none⟩ (A0 W.time)).setCell ⟨C,3,none⟩ (A0 W.next)).setCell ⟨C,4,none⟩ (.slice Y W.sn x)).setCell ⟨C,5,none⟩ (.slice Z W.pn y)):=AC.put6 w4 C (.slice V W.pool.n t) (.slice X W.pool.hn u) (A0 W.time) (A0 W.next) (.slice Y W.sn x) (.slice Z W.pn y);have sA:Bb ((((((w4.setCell ⟨C,0,none⟩ (.slice V W.pool.n t)).setCell ⟨C,1,none⟩ (.slice X W.pool.hn u)).setCell ⟨C,2,none⟩ (A0 W.time)).setCell ⟨C,3,none⟩ (A0 W.next)).setCell ⟨C,4,none⟩ (.slice Y W.sn x)).setCell ⟨C,5,none⟩ (.slice Z W.pn y)) C (.slice V W.pool.n t) (.slice X W.pool.hn u) (A0 W.time) (A0 W.next) (.slice Y W.sn x) (.slice Z W.pn y) (A0 0) (A0 0) (.nilIface):=Bb.six lA.out (.slice V W.pool.n t) (.slice X W.pool.hn u) (A0 W.time) (A0 W.next) (.slice Y W.sn x) (.slice Z W.pn y);have aB:=aC.out.AD I (by omega);have tA:D5 ((((((w4.setCell ⟨C,0,none⟩ (.slice V W.pool.n t)).setCell ⟨C,1,none⟩ (.slice X W.pool.hn u)).setCell ⟨C,2,none⟩ (A0 W.time)).setCell ⟨C,3,none⟩ (A0 W.next)).setCell ⟨C,4,none⟩ (.slice Y W.sn x)).setCell ⟨C,5,none⟩ (.slice Z W.pn y)) W3.heap.size w4.heap.size (.slice V W.pool.n t) (.slice X W.pool.hn u) (.slice Y W.sn x) (.slice Z W.pn y) W:=Ho.out.put6 C (.slice V W.pool.n t) (.slice X W.pool.hn u) (A0 W.time) (A0 W.next) (.slice Y W.sn x) (.slice Z W.pn y) (Or.inl (by omega));have rA:=nC.trans (I.A1 (B:=w.heap.size) nC.size (fun k e=>by omega));have kE:=I.size;generalize ((((((w4.setCell ⟨C,0,none⟩ (.slice V W.pool.n t)).setCell ⟨C,1,none⟩ (.slice X W.pool.hn u)).setCell ⟨C,2,none⟩ (A0 W.time)).setCell ⟨C,3,none⟩ (A0 W.next)).setCell ⟨C,4,none⟩ (.slice Y W.sn x)).setCell ⟨C,5,none⟩ (.slice Z W.pn y))=W5 at sA aB tA rA kE ⊢;have bC:=AQ aB;clear aB I Ho lA aC tB;have P:(¬∃i,i<H/\8000<(tx i).size)/\DE W/\(¬∃i,i<G/\¬BX (nx i))/\(∀j,j<m->Q j):=by
   rcases z.out with⟨_,e⟩ | ⟨_,_,e⟩ | ⟨_,_,_,k,hk,_,_,e⟩ | ⟨h1,h2,h3,h4,e⟩
   ·cases e
   ·cases e
   ·cases e
   ·exact⟨h1,h2,h3,h4⟩
  refine(lD.out C W5 _ _ _ _ (by omega) rA (by omega) P.2.1 P.1 P.2.2.1 P.2.2.2 (tA.wide (by omega) (by omega)) sA).mono ?_;rintro e w6 ⟨⟨ve,rfl⟩,q,bH,cB⟩;have oC:Bb w6 (w.heap.size+1+1) (A5) (A5) (A0 0) (A0 0) (A5) (A5) (A0 0) (A0 0) (A0 0):=by
   obtain⟨r0,r1,r2,r3,r4,r5,r6,r7,r8⟩:=bC.out;have d:w.heap.size+1+1<C:=(by omega);exact⟨r0.under q d,r1.under q d,r2.under q d,r3.under q d,r4.under q d,r5.under q d,r6.under q d,r7.under q d,r8.under q d⟩
  have R:=AQ oC;have T:Below w.heap.size w w6:=rA.trans (q.mono (by omega));clear P sA tA bC oC;rcases cB with⟨O,z0,z1,z2,z3,L,vA⟩ | ⟨i,eB,ho,z0,z1,z2,z3,z4,z5,z6,z7,L⟩;rotate_left
  ·have D:=AQ L;clear L;obtain⟨-,-,-,-,-,-,-,-,⟨K,-⟩⟩:=D.out;go_wp2_with fail;refine(Y0 p i eB _ (HE.out.A1 T)).mono ?_;rintro e wz ⟨rfl,N⟩;have M:=A9 T N;have J:=AQ (R.out.A1 N);clear K;obtain⟨⟨r0,g0⟩,⟨r1,g1⟩,⟨r2,g2⟩,⟨r3,g3⟩,⟨r4,g4⟩,⟨r5,g5⟩,⟨r6,g6⟩,⟨r7,g7⟩,⟨r8,g8⟩⟩:=J.out;go_wp2_with fail;have b:=J.out.put (A5) (A5) (A0 0) (A0 0) (A5) (A5) (A0 0) (A0 0) (A0 (Ca i));have I:=AC.put9 wz (w.heap.size+1+1) (A5) (A5) (A0 0) (A0 0) (A5) (A5) (A0 0) (A0 0) (A0 (Ca i));clear r0 r1 r2 r3 r4 r5 r6 r7 r8 g0 g1 g2 g3 g4 g5 g6 g7 g8;refine bodyPost_ret (v:=.agg #[A5,A5,A0 0,A0 0,A5,A5,A0 0,A0 0,A0 (Ca i)]) (by simp[results,Tryz.results24,go_sem,b.1.1,b.2.1.1,b.2.2.1.1,b.2.2.2.1.1,b.2.2.2.2.1.1,b.2.2.2.2.2.1.1,b.2.2.2.2.2.2.1.1,b.2.2.2.2.2.2.2.1.1,b.2.2.2.2.2.2.2.2.1]) rfl ⟨none,z.out,?_⟩;show Iv o w _ _;rw[ho];exact⟨_,_,_,_,rfl,TQ,M.trans (I.A1 (B:=w.heap.size) M.size (fun k e=>by omega))⟩
  ·have Ho:=AQ vA;obtain⟨n0,fB,n1,gB,n2,iB,n3,jB,rfl,rfl,rfl,rfl⟩:=vA.form;have D:=AQ L;have pA:=AQ O;clear L vA O;obtain⟨c0,c1,c2,c3,c4,c5,c6,c7,K⟩:=D.out.c;obtain⟨⟨r0,g0⟩,⟨r1,g1⟩,⟨r2,g2⟩,⟨r3,g3⟩,⟨r4,g4⟩,⟨r5,g5⟩,⟨r6,g6⟩,⟨r7,g7⟩,⟨r8,g8⟩⟩:=R.out;have oF:C≠w.heap.size+1+1:=(by omega);have pF:w.heap.size+1+1≠C:=(by omega);go_wp2_with fail;have b:=R.out.put (.slice n0 o.world.pool.n fB) (.slice n1 o.world.pool.hn gB) (A0 o.world.time) (A0 o.world.next) (.slice n2 o.world.sn iB) (.slice n3 o.world.pn jB) (A0 o.id) (A0 o.many) (A0 0);have I:=AC.put9 w6 (w.heap.size+1+1) (.slice n0 o.world.pool.n fB) (.slice n1 o.world.pool.hn gB) (A0 o.world.time) (A0 o.world.next) (.slice n2 o.world.sn iB) (.slice n3 o.world.pn jB) (A0 o.id) (A0 o.many) (A0 0);clear r0 r1 r2 r3 r4 r5 r6 r7 r8 g0 g1 g2 g3 g4 g5 g6 g7 g8 c0 c1 c2 c3 c4 c5 c6 c7 K;refine bodyPost_ret (v:=.agg #[.slice n0 o.world.pool.n fB,.slice n1 o.world.pool.hn gB,A0 o.world.time,A0 o.world.next,.slice n2 o.world.sn iB,.slice n3 o.world.pn jB,A0 o.id,A0 o.many,A0 0]) (by simp[results,Tryz.results24,go_sem,b.1.1,b.2.1.1,b.2.2.1.1,b.2.2.2.1.1,b.2.2.2.2.1.1,b.2.2.2.2.2.1.1,b.2.2.2.2.2.2.1.1,b.2.2.2.2.2.2.2.1.1,b.2.2.2.2.2.2.2.2.1]) rfl ⟨none,z.out,?_⟩;show Iv o w _ _;have fE:=I.size;exact⟨_,_,_,_,by rw[<-pA.out],(Ho.out.AD I (fun k e=>by omega)).wide (by omega) fE,T.trans (I.A1 (B:=w.heap.size) T.size (fun k e=>by omega))⟩
theorem Ij{j:Nat}(h:j≠i):(j == i)=false:=by simpa using h
def BI(d:Nat->Nat)(x:Nat->Value):List Nat->Act->Act
 | [],a=>a
 | i :: r,a=>BI d x r (a.put (some (d i)) (x i))
theorem zFv(a:Act)(k:Nat)(u v:Value):(a.put (some k) u).put (some k) v=a.put (some k) v:=by
 unfold Act.put;simp[Array.setIfInBounds_setIfInBounds]
theorem zDx(a:Act){j:Nat}(u v:Value)(h:k≠j):(a.put (some k) u).put (some j) v=(a.put (some j) v).put (some k) u:=
 Act.put_comm a u v (fun d e b=>h (by injection e with e;injection b with b;omega))
theorem Vb(d:Nat->Nat)(x:Nat->Value)(k:Nat)(v:Value):∀(M:List Nat) (a:Act),(∀i∈M,d i≠k)->(BI d x M a).put (some k) v=BI d x M (a.put (some k) v)
 | [],_,_=>rfl
 | i :: r,a,h=>by
  show(BI d x r (a.put (some (d i)) (x i))).put (some k) v=BI d x r ((a.put (some k) v).put (some (d i)) (x i));rw[Vb d x k v r _ (fun j b=>h j (List.mem_cons_of_mem _ b)),zDx a _ _ (h i List.mem_cons_self)]
theorem YX{d:Nat->Nat}{x y:Nat->Value}:∀{M:List Nat} {a:Act},(∀i∈M,x i=y i)->BI d x M a=BI d y M a
 | [],_,_=>rfl
 | i :: r,a,h=>by
  show BI d x r (a.put (some (d i)) (x i))=BI d y r (a.put (some (d i)) (y i));rw[h i List.mem_cons_self];exact YX (fun j b=>h j (List.mem_cons_of_mem _ b))
def GF(x:Nat->Value)(i:Nat)(v:Value)(j:Nat):Value:=if j=i then v else x j
theorem Vc(d:Nat->Nat)(x:Nat->Value)(i:Nat)(v:Value):∀(M:List Nat) (a:Act),i∈M->M.Pairwise (fun p q=>d p≠d q)->(BI d x M a).put (some (d i)) v=BI d (GF x i v) M a
 | [],_,h,_=>by cases h
 | j :: r,a,h,c=>by
  obtain⟨g,k⟩:=List.pairwise_cons.1 c;show(BI d x r (a.put (some (d j)) (x j))).put (some (d i)) v=BI d (GF x i v) r (a.put (some (d j)) (GF x i v j));by_cases e:j=i
  ·subst e;have b:∀p∈r,d p≠d j:=fun p c e=>g p c e.symm
   rw[Vb d x (d j) v r _ b,zFv];have f:GF x j v j=v:=(by unfold GF;rw[if_pos rfl]);rw[f];refine YX (fun p c=>?_);unfold GF;rw[if_neg (fun e=>b p c (by rw[e]))]
  ·have f:GF x i v j=x j:=(by unfold GF;rw[if_neg e]);rw[f];rcases List.mem_cons.1 h with h | h
   ·exact absurd h.symm e
   ·exact Vc d x i v r _ h k
def DF(b:Nat->Bool):List Nat->Array Bool->Array Bool
 | [],l=>l
 | i :: r,l=>DF b r (if b i then l.setIfInBounds i true else l)
def Cl(b:Nat->Bool)(i:Nat)(j:Nat):Bool:=j == i || b j
theorem R4(b:Nat->Bool)(k:Nat):∀(M:List Nat) (l:Array Bool),(DF b M l).setIfInBounds k true=DF b M (l.setIfInBounds k true)
 | [],_=>rfl
 | i :: r,l=>by
  show(DF b r (if b i then l.setIfInBounds i true else l)).setIfInBounds k true=DF b r (if b i then(l.setIfInBounds k true).setIfInBounds i true else l.setIfInBounds k true);rw[R4 b k r];by_cases h:b i
  ·rw[if_pos h,if_pos h];by_cases e:i=k
   ·subst e;rfl
   ·rw[Array.setIfInBounds_comm _ _ e]
  ·rw[if_neg h,if_neg h]
theorem MM{b c:Nat->Bool}:∀{M:List Nat} {l:Array Bool},(∀i∈M,b i=c i)->DF b M l=DF c M l
 | [],_,_=>rfl
 | i :: r,l,h=>by
  show DF b r (if b i then _ else _)=DF c r (if c i then _ else _);rw[h i List.mem_cons_self];exact MM (fun j a=>h j (List.mem_cons_of_mem _ a))
theorem RM(b:Nat->Bool)(k:Nat):∀(M:List Nat) (l:Array Bool),k∈M->(DF b M l).setIfInBounds k true=DF (Cl b k) M l
 | [],_,h=>by cases h
 | i :: r,l,h=>by
  show(DF b r (if b i then l.setIfInBounds i true else l)).setIfInBounds k true=DF (Cl b k) r (if Cl b k i then l.setIfInBounds i true else l);by_cases e:i=k
  ·subst e;have a:Cl b i i=true:=(by unfold Cl;simp);rw[if_pos a,R4];have f:(if b i then l.setIfInBounds i true else l).setIfInBounds i true=l.setIfInBounds i true:=by
    by_cases c:b i
    ·rw[if_pos c,Array.setIfInBounds_setIfInBounds]
    ·rw[if_neg c]
   rw[f];by_cases d:i∈r
   ·rw[<-RM b i r _ d,R4,Array.setIfInBounds_setIfInBounds]
   ·refine MM (fun j g=>?_);unfold Cl;have:(j == i)=false:=Ij fun e=>d (e▸g)
    rw[this,Bool.false_or]
  ·have a:Cl b k i=b i:=by
    unfold Cl;have:(i == k)=false:=Ij e;rw[this,Bool.false_or]
   rw[a];rcases List.mem_cons.1 h with h | h
   ·exact absurd h.symm e
   ·exact RM b k r _ h
def PF:List Nat->List (Nat->Bool)
 | []=>[fun _=>false]
 | i :: r=>(PF r).flatMap fun b=>[b,Cl b i]
theorem Xh(c:Nat->Bool):∀M:List Nat,M.Nodup->∃b∈PF M,(∀i∈M,b i=c i)/\∀i,i∉M->b i=false
 | [],_=>⟨_,List.mem_singleton.2 rfl,fun i h=>(by cases h),fun _ _=>rfl⟩
 | i :: r,hn=>by
  obtain⟨f,l⟩:=List.nodup_cons.1 hn;obtain⟨b,g,k,d⟩:=Xh c r l;by_cases e:c i
  ·refine⟨Cl b i,List.mem_flatMap.2 ⟨b,g,by simp⟩,fun j a=>?_,fun j a=>?_⟩
   ·unfold Cl;rcases List.mem_cons.1 a with rfl | a
    ·simp[e]
    ·have:(j == i)=false:=Ij fun e=>f (e▸a)
     rw[this,Bool.false_or];exact k j a
   ·unfold Cl;have m:(j == i)=false:=Ij fun e=>a (e▸List.mem_cons_self)
    rw[m,Bool.false_or];exact d j (fun h=>a (List.mem_cons_of_mem _ h))
  ·refine⟨b,List.mem_flatMap.2 ⟨b,g,by simp⟩,fun j a=>?_,fun j a=>?_⟩
   ·rcases List.mem_cons.1 a with rfl | a
    ·rw[d j f];simpa using e
    ·exact k j a
   ·exact d j (fun h=>a (List.mem_cons_of_mem _ h))
theorem XL(b:Nat->Bool)(i:Nat):∀M:List Nat,M.Nodup->i∈M->b i=false->(M.countP fun j=>!b j)=(M.countP fun j=>!Cl b i j)+1
 | [],_,h,_=>by cases h
 | j :: r,hn,h,hbi=>by
  obtain⟨f,k⟩:=List.nodup_cons.1 hn;rw[List.countP_cons,List.countP_cons];rcases List.mem_cons.1 h with e | a
  ·subst e;have g:(r.countP fun j=>!b j)=r.countP fun j=>!Cl b i j:=by
    refine List.countP_congr fun p l=>?_
    unfold Cl;have:(p == i)=false:=Ij fun e=>f (e▸l)
    rw[this,Bool.false_or]
   have c:Cl b i i=true:=(by unfold Cl;simp);rw[g,hbi,c];simp
  ·have d:(j == i)=false:=Ij fun e=>f (e▸a)
   have c:Cl b i j=b j:=(by unfold Cl;rw[d,Bool.false_or]);have m:=XL b i r k a hbi;rw[c];omega
def Pw(md:Region.Mode)(ops:Array Oper)(M:List Nat)(D:Nat->List Nat)(l0:Array Bool):Bool:=
 (PF M).all fun b=>!(M.all fun i=>!b i || (D i).all b) || (M.all b || (!(Region.ready md ops (DF b M l0)).isEmpty && (Region.ready md ops (DF b M l0)).all fun i=>M.contains i && !b i && (D i).all b))
section
variable {P : Program} {md : Region.Mode} {ops : Array Oper} {Q : Exit -> Act -> World -> Prop} {S G : World -> Prop}
variable{M:List Nat}{D:Nat->List Nat}{d:Nat->Nat}{F:Nat->Value->World->Prop}{l0:Array Bool}
theorem zDj{a0:Act}{l:Nat}
 (A:Pw md ops M D l0=true) (hn:M.Nodup) (hd:M.Pairwise (fun p q=>d p≠d q)) (o:∀i∈M,∀j∈D i,j∈M)
 (hF:∀i v w w',F i v w->Below w.heap.size w w'->F i v w') (Z:∀w w',G w->Below w.heap.size w w'->G w')
 (s:∀i∈M,∀x w,S w->G w->(∀j∈D i,F j (x j) w)->∀K:Act->World->Prop,Shut (∀J v w',J=(BI d x M a0).put (some (d i)) v->S w'->F i v w'->Below w.heap.size w w'->K J w')->wpOp P ops Q i K (BI d x M a0) w)
 (B:∀x w,S w->G w->(∀i∈M,F i (x i) w)->wpAnyH P md ops Q S l (DF (fun _=>true) M l0) (BI d x M a0) w) :
 ∀(n:Nat) (b:Nat->Bool),(M.countP fun i=>!b i)=n->(∀i∈M,b i=true->∀j∈D i,b j=true)->∀x w,S w->G w->(∀i∈M,b i=true->F i (x i) w)->wpAnyH P md ops Q S (l+n) (DF b M l0) (BI d x M a0) w:=by
 intro n
 induction n with
 | zero=>
  intro b Y O x w N H E;have m:∀i∈M,b i=true:=fun i hi=>by
   have:=(List.countP_eq_zero.1 Y) i hi;simpa using this
  rw[MM (c:=fun _=>true) m];exact B x w N H (fun i hi=>E i hi (m i hi))
 | succ n ih=>
  intro b Y O x w N H E;obtain⟨c,U,f,bA⟩:=Xh b M hn;have C:=List.all_eq_true.1 A c U;have T:(M.all fun i=>!c i || (D i).all c)=true:=List.all_eq_true.2 fun i hi=>by
   rw[f i hi];by_cases e:b i=true
   ·have:(D i).all c=true:=List.all_eq_true.2 fun j k=>by rw[f j (o i hi j k)];exact O i hi e j k
    rw[this];simp
   ·have:b i=false:=(by simpa using e);rw[this];rfl
  have V:(M.all c)=false:=by
   cases h:M.all c with
   | false=>rfl
   | true=>
    have X:(M.countP fun i=>!b i)=0:=List.countP_eq_zero.2 fun i hi=>by rw[<-f i hi,List.all_eq_true.1 h i hi];simp
    omega
  rw[T,V]at C;simp only[Bool.not_true,Bool.false_or,Bool.and_eq_true]at C;rw[MM (c:=c) (fun i hi=>(f i hi).symm)];refine⟨fun X=>?_,fun i hi=>?_⟩
  ·rw[X]at C;simp at C
  ·have I:=List.all_eq_true.1 C.2 i hi;simp only[Bool.and_eq_true,Bool.not_eq_true']at I;have g:i∈M:=(by simpa using I.1.1);have R:b i=false:=(by rw[<-f i g];exact I.1.2);have t:∀j∈D i,b j=true:=fun j k=>by rw[<-f j (o i g j k)];exact List.all_eq_true.1 I.2 j k
   refine s i g x w N H (fun j k=>E j (o i g j k) (t j k)) _ ?_;intro J v w' ha u L y;refine⟨u,?_⟩;rw[ha,Vc d x i v M a0 g hd,RM c i M l0 g];have z:∀j∈M,Cl c i j=Cl b i j:=fun j k=>by unfold Cl;rw[f j k]
   rw[MM (c:=Cl b i) z];refine ih (Cl b i) ?_ ?_ (GF x i v) w' u (Z w w' H y) ?_
   ·have h1:(M.countP fun j=>!b j)=(M.countP fun j=>!Cl b i j)+1:=XL b i M hn g R;omega
   ·intro p W a j k;unfold Cl at a ⊢;by_cases e:p=i
    ·subst e;rw[t j k];simp
    ·have r:(p == i)=false:=Ij e;rw[r,Bool.false_or]at a;rw[O p W a j k];simp
   ·intro p W a;unfold GF;by_cases e:p=i
    ·subst e;rw[if_pos rfl];exact L
    ·rw[if_neg e];unfold Cl at a;have r:(p == i)=false:=Ij e;rw[r,Bool.false_or]at a;exact hF p _ w w' (E p W a) y
theorem zFb{a0:Act}{c:Nat}(n:Nat->Value)
 (e:Pw md ops M D l0=true) (hn:M.Nodup) (m:M.Pairwise (fun p q=>d p≠d q)) (k:∀i∈M,∀j∈D i,j∈M)
 (hF:∀i v w w',F i v w->Below w.heap.size w w'->F i v w') (o:∀w w',G w->Below w.heap.size w w'->G w')
 (b:∀i∈M,∀x w,S w->G w->(∀j∈D i,F j (x j) w)->∀K:Act->World->Prop,Shut (∀l v w',l=(BI d x M a0).put (some (d i)) v->S w'->F i v w'->Below w.heap.size w w'->K l w')->wpOp P ops Q i K (BI d x M a0) w)
 (g:∀x w,S w->G w->(∀i∈M,F i (x i) w)->wpAnyH P md ops Q S c (DF (fun _=>true) M l0) (BI d x M a0) w)
 {a:Act} {f:Nat} (t:a=BI d n M a0) (u:f=c+M.length) (s:S w) (y:G w):wpAnyH P md ops Q S f l0 a w:=by
 subst t u;have e0:DF (fun _=>false) M l0=l0:=by
  clear e hn m k b g
  induction M with
  | nil=>rfl
  | cons i r ih=>exact ih
 have:=zDj (P:=P) (Q:=Q) e hn m k hF o b g M.length (fun _=>false) (by simp[List.countP_true]) (fun i hi h=>by cases h) n w s y (fun i hi h=>by cases h)
 rwa [e0]at this
theorem zFw(a:Act)(k:Nat):a.put (some k) (a.tmps.getD k undef)=a:=by
 unfold Act.put;have:a.tmps.setIfInBounds k (a.tmps.getD k undef)=a.tmps:=by
  refine Array.ext_getElem? fun j=>?_
  rw[Array.getElem?_setIfInBounds];by_cases e:k=j
  ·subst e;by_cases h:k<a.tmps.size
   ·simp[h,Array.getD]
   ·simp[h]
  ·simp[e]
 cases a;simp only[this]
theorem Xi(d:Nat->Nat)(a:Act):∀M:List Nat,BI d (fun i=>a.tmps.getD (d i) undef) M a=a
 | []=>rfl
 | i :: r=>by
  show BI d _ r (a.put (some (d i)) (a.tmps.getD (d i) undef))=a;rw[zFw];exact Xi d a r
theorem Qh(M:List Nat)(D:Nat->List Nat)(d:Nat->Nat)(F:Nat->Value->World->Prop)(b:Nat){a:Act}
 (e:Pw md ops M D l0=true) (hn:M.Nodup) (m:M.Pairwise (fun p q=>d p≠d q)) (g:∀i∈M,∀j∈D i,j∈M)
 (hF:∀i v w w',F i v w->Below w.heap.size w w'->F i v w') (k:∀w w',G w->Below w.heap.size w w'->G w') (l:S w) (n:G w)
 (c:∀i∈M,∀x w,S w->G w->(∀j∈D i,F j (x j) w)->∀K:Act->World->Prop,Shut (∀h v w',h=(BI d x M a).put (some (d i)) v->S w'->F i v w'->Below w.heap.size w w'->K h w')->wpOp P ops Q i K (BI d x M a) w)
 (f:∀x w,S w->G w->(∀i∈M,F i (x i) w)->wpAnyH P md ops Q S b (DF (fun _=>true) M l0) (BI d x M a) w):wpAnyH P md ops Q S (b+M.length) l0 a w:=
 zFb (fun i=>a.tmps.getD (d i) undef) e hn m g hF k c f (Xi d a M).symm rfl l n
end
def D2(w:World)(lb:Array Value)(caps:List Value):Prop:=lb.size=caps.length/\∀(k:Nat) (u:Value),caps[k]?=some u->∃B,lb[k]?=some (.pointer (some ⟨B,0,none⟩))/\w.cell? ⟨B,0,none⟩=some u
variable{w':World}{lb:Array Value}{caps:List Value}
theorem D2.A1(h:D2 w lb caps)(t:Below w.heap.size w w'):D2 w' lb caps:=
 ⟨h.1,fun k u c=>by
  obtain⟨B,b,a⟩:=h.2 k u c;exact⟨B,b,(t.cell (AV a)).trans a⟩⟩
theorem D2.zero:D2 w #[] []:=⟨rfl,fun k u h=>by simp at h⟩
variable{u:Value}
theorem D2.one{B:Nat}(h:w.cell? ⟨B,0,none⟩=some u):D2 w #[.pointer (some ⟨B,0,none⟩)] [u]:=
 ⟨rfl,fun k x a=>by
  match k,a with
  | 0,a=>simp at a;subst a;exact⟨B,rfl,h⟩
  | k+1,a=>simp at a⟩
theorem D2.two{B C:Nat}(h:w.cell? ⟨B,0,none⟩=some u)(b:w.cell? ⟨C,0,none⟩=some v):D2 w #[.pointer (some ⟨B,0,none⟩),.pointer (some ⟨C,0,none⟩)] [u,v]:=
 ⟨rfl,fun k x a=>by
  match k,a with
  | 0,a=>simp at a;subst a;exact⟨B,rfl,h⟩
  | 1,a=>simp at a;subst a;exact⟨C,rfl,b⟩
  | k+2,a=>simp at a⟩
theorem D2.is0(h:D2 w lb []):lb=#[]:=Array.eq_empty_of_size_eq_zero h.1
theorem D2.is1(h:D2 w lb [u]):∃B,lb=#[.pointer (some ⟨B,0,none⟩)]/\w.cell? ⟨B,0,none⟩=some u:=by
 obtain⟨B,a,b⟩:=h.2 0 u rfl;refine⟨B,?_,b⟩;have hs:=h.1;obtain⟨l⟩:=lb
 match l,hs,a with
 | [x],_,a=>simp at a;rw[a]
theorem D2.is2(h:D2 w lb [u,v]):∃B C,lb=#[.pointer (some ⟨B,0,none⟩),.pointer (some ⟨C,0,none⟩)]/\w.cell? ⟨B,0,none⟩=some u/\w.cell? ⟨C,0,none⟩=some v:=by
 obtain⟨B,a,c⟩:=h.2 0 u rfl;obtain⟨C,b,d⟩:=h.2 1 v rfl;refine⟨B,C,?_,c,d⟩;have hs:=h.1;obtain⟨l⟩:=lb
 match l,hs,a,b with
 | [x,y],_,a,b=>simp at a b;rw[a,b]
def QAt(w:World)(p:Nat->Addr)(g i:Nat)(caps:List Value)(v:Value):Prop:=∃lb,v = .agg #[.func (.func g) #[] lb,Af (p i)]/\D2 w lb caps
theorem QAt.A1{g:Nat}(h:QAt w p g i caps v)(t:Below w.heap.size w w'):QAt w' p g i caps v:=by
 obtain⟨b,hv,a⟩:=h;exact⟨b,hv,a.A1 t⟩
variable{s:ByteArray}{t:TypeId}{f:Nat->ByteArray}
theorem zEK(hs:s.size<=maxLen)(a:f 0=s):E3 (w.alloc (.cells #[.string s] t)) (.slice (some ⟨w.heap.size,0,none⟩) 1 1) 1 f:=by
 refine⟨by omega,_,_,rfl,fun i hi=>?_,fun _=>⟨_,_,rfl,fun i hi=>?_⟩⟩
 ·obtain rfl:i=0:=(by omega);rw[a];exact hs
 ·obtain rfl:i=0:=(by omega);rw[a];exact World.cell?_alloc_at _ _ _ _ rfl
theorem Vr{u:ByteArray}(hs:s.size<=maxLen)(c:u.size<=maxLen)(a:f 0=s)(b:f 1=u):E3 (w.alloc (.cells #[.string s,.string u] t)) (.slice (some ⟨w.heap.size,0,none⟩) 2 2) 2 f:=by
 refine⟨by omega,_,_,rfl,fun i hi=>?_,fun _=>⟨_,_,rfl,fun i hi=>?_⟩⟩
 ·rcases(by omega:i=0\/i=1)with rfl | rfl
  ·rw[a];exact hs
  ·rw[b];exact c
 ·rcases(by omega:i=0\/i=1)with rfl | rfl
  ·rw[a];exact World.cell?_alloc_at _ _ _ _ rfl
  ·rw[b];exact World.cell?_alloc_at _ _ _ _ rfl
def Gw(w:World)(p:Nat->Addr)(m:Nat)(g ei:Nat->Nat)(caps:Nat->List Value)(v:Value):Prop:=∃lb:Nat->Array Value,It w p v m g lb ei/\∀k,k<m->D2 w (lb k) (caps k)
variable{g:Nat->Nat}{caps:Nat->List Value}
theorem Gw.A1{m:Nat}(h:Gw w p m g ei caps v)(t:Below w.heap.size w w'):Gw w' p m g ei caps v:=by
 obtain⟨d,a,b⟩:=h;exact⟨d,a.A1 t,fun k c=>(b k c).A1 t⟩
variable{a:Array Value}
theorem zHq(c:D2 w a (caps 0)):Gw (w.alloc (.cells #[.func (.func (g 0)) #[] a,Af (p (ei 0))] t)) p 1 g ei caps (.slice (some ⟨w.heap.size,0,none⟩) 1 1):=by
 have b:=AB w (.cells #[.func (.func (g 0)) #[] a,Af (p (ei 0))] t);refine⟨(fun i=>match i with  | _=>a),⟨by omega,_,_,rfl,fun _=>⟨_,_,rfl,fun i hi=>?_⟩⟩,fun i hi=>?_⟩
 ·obtain rfl:i=0:=(by omega);exact⟨World.cell?_alloc_at _ _ _ _ rfl,World.cell?_alloc_at _ _ _ _ rfl⟩
 ·obtain rfl:i=0:=(by omega);exact c.A1 b
theorem zHc{b c:Array Value}(e:D2 w a (caps 0))(f:D2 w b (caps 1))(h:D2 w c (caps 2)):Gw (w.alloc (.cells #[.func (.func (g 0)) #[] a,Af (p (ei 0)),.func (.func (g 1)) #[] b,Af (p (ei 1)),.func (.func (g 2)) #[] c,Af (p (ei 2))] t)) p 3 g ei caps (.slice (some ⟨w.heap.size,0,none⟩) 3 3):=by
 have d:=AB w (.cells #[.func (.func (g 0)) #[] a,Af (p (ei 0)),.func (.func (g 1)) #[] b,Af (p (ei 1)),.func (.func (g 2)) #[] c,Af (p (ei 2))] t);refine⟨(fun i=>match i with | 0=>a | 1=>b | _=>c),⟨by omega,_,_,rfl,fun _=>⟨_,_,rfl,fun i hi=>?_⟩⟩,fun i hi=>?_⟩
 ·rcases(by omega:i=0\/i=1\/i=2)with rfl | rfl | rfl
  all_goals exact⟨World.cell?_alloc_at _ _ _ _ rfl,World.cell?_alloc_at _ _ _ _ rfl⟩
 ·rcases(by omega:i=0\/i=1\/i=2)with rfl | rfl | rfl
  ·exact e.A1 d
  ·exact f.A1 d
  ·exact h.A1 d
theorem zAd(k v1 l m:Value)(lo hi:Nat)(W:A6)(name:ByteArray)(w:World)(h:C7 w lo hi k v1 l m W)(y:W.sn<=8)(z:name.size<=maxLen) :
 Calls Tryz.prog 54 #[Cc k v1 l m W,.string name] w fun e w'=>AJ (BL W name) e/\Below w.heap.size w w':=by
 have J:=A4 h;clear h;have u:=AB w (.cells #[k,v1,A0 W.time,A0 W.next,l,m] 30);obtain⟨N,O,P,Q,R,S⟩:=(At.new w (k) (v1) (A0 W.time) (A0 W.next) (l) (m) 30).c;go_enter Tryz.func54,Tryz.ntmps54;go_wp2_with fail;clear N O P Q R S;generalize w.alloc (.cells #[k,v1,A0 W.time,A0 W.next,l,m] 30)=W0 at u ⊢;refine(ZA k v1 l m lo hi W W0 (J.out.A1 u) y).mono ?_;rintro e I ⟨vd,rfl,g,t,r⟩;have s:∀i,i<W.sn->∃a n c,vd i = .slice a n c:=fun i hi'=>by
  obtain⟨_,K,L,hv,_⟩:=t i hi';exact⟨K,_,L,hv⟩
 obtain⟨F,B,C,D,E,G,H,sc,q⟩:=Vl s name;have o:=A4 q;have d:=A4 (U0 (W:=W) (vd:=vd));have j:=A4 g;have f:=A4 (Pn z);have p:=A9 u r;clear g t s r u q;obtain⟨M,A⟩:∃M,M=W0.heap.size+1:=⟨_,rfl⟩;rw[<-A]at j ⊢;clear A;by_cases b:BL W name
 ·skip;have v:=A4 (show Maps.has (putD (fun i=>DP (W.A2 i).name) (fun i=>Fm (vd i) (W.A2 i)) W.sn) (DP name)=true from(d.out name).2 b);have x:=A4 b;clear b;go_wp2_with (first
   | (at_lookup;refine P4 _ rfl _ _ 149 rfl 9 46 MT L9 (Nx _) M W.sn _ rfl j.out _ _ rfl f.out _ o.out true v.out ?_)
   | go_in)
  go_ret;exact⟨AJ.yes x.out,A9 p (AB I (.cells #[.string F,A0 B,A0 C,A0 D,A0 E,.slice G H sc] 46))⟩
 ·skip;have v:=A4 (show Maps.has (putD (fun i=>DP (W.A2 i).name) (fun i=>Fm (vd i) (W.A2 i)) W.sn) (DP name)=false from by rw[Bool.eq_false_iff];exact fun h=>b ((d.out name).1 h));have x:=A4 b;clear b;go_wp2_with (first
   | (at_lookup;refine P4 _ rfl _ _ 149 rfl 9 46 MT L9 (Nx _) M W.sn _ rfl j.out _ _ rfl f.out _ o.out false v.out ?_)
   | go_in)
  go_ret;exact⟨AJ.no x.out,A9 p (AB I (.cells #[.string F,A0 B,A0 C,A0 D,A0 E,.slice G H sc] 46))⟩
theorem Z3(b v1 d f:Value)(lo hi:Nat)(W:A6)(B:Nat)(name:ByteArray)(w:World)(h:C7 w lo hi b v1 d f W)(o:W.sn<=8)(p:name.size<=maxLen)(m:w.cell? ⟨B,0,none⟩=some (.string name)) :
 Calls Tryz.prog 53 #[Cc b v1 d f W,.pointer (some ⟨B,0,none⟩)] w fun e w'=>AJ (BL W name) e/\Below w.heap.size w w':=by
 have q:=A4 h;clear h;have i:=AB w (.cells #[b,v1,A0 W.time,A0 W.next,d,f] 30);have n:=(i.cell (AV m)).trans m;obtain⟨r,s,u,v,x,y⟩:=(At.new w (b) (v1) (A0 W.time) (A0 W.next) (d) (f) 30).c;go_enter Tryz.func53,Tryz.ntmps53;go_wp2_with fail;clear r s u v x y m n;generalize w.alloc (.cells #[b,v1,A0 W.time,A0 W.next,d,f] 30)=W0 at i ⊢;refine(zAd b v1 d f lo hi W name W0 (q.out.A1 i) o p).mono ?_;rintro e z ⟨⟨t,rfl,j⟩,l⟩;have g:=A9 i l;by_cases a:BL W name
 ·obtain rfl:t=true:=j.2 a;have k:=A4 a;clear j a;go_wp2;go_ret;exact⟨AJ.yes k.out,g⟩
 ·obtain rfl:t=false:=BQ j a;have k:=A4 a;clear j a;go_wp2;go_ret;exact⟨AJ.no k.out,g⟩
theorem Yz(p:Nat->Addr)(b:ByteArray)(w:World)(k:D8 w p) :
 Calls Tryz.prog 19 #[.string b] w fun e w'=>∃j:Nat,e = .returned (.agg #[.func (.func 53) #[] #[.pointer (some ⟨j,0,none⟩)],Af (p 2)])/\w'.cell? ⟨j,0,none⟩=some (.string b)/\Below w.heap.size w w':=by
 have d:=AB w (.cells #[.string b] 9);have i:=AB (w.alloc (.cells #[.string b] 9)) (.cells #[.nilFunc,.nilIface] 61);have l:=A9 (d) i;have c0:(w.alloc (.cells #[.string b] 9)).cell? ⟨w.heap.size,0,none⟩=some (.string b):=World.cell?_alloc_at _ _ _ _ rfl;have o:((w.alloc (.cells #[.string b] 9)).alloc (.cells #[.nilFunc,.nilIface] 61)).cell? ⟨0,0,none⟩=some (Af (p 2)):=(k.A1 l).cell 2 (by omega);have f:=AB (w.alloc (.cells #[.string b] 9)) (.cells #[.func (.func 53) #[] #[.pointer (some ⟨w.heap.size,0,none⟩)],Af (p 2)] 61);have h:=A9 (d) f;have g:=A4 ((f.cell (AV c0)).trans c0);clear c0;go_enter Tryz.func19,Tryz.ntmps19;have m:=fun (n:World) (a:Addr)=>run_store Tryz.prog n a (.func (.func 53) #[] #[.pointer (some ⟨w.heap.size,0,none⟩)]) .plain rfl
 go_wp2_with fail;have c:=Ad.new (w.alloc (.cells #[.string b] 9)) (.func (.func 53) #[] #[.pointer (some ⟨w.heap.size,0,none⟩)]) (Af (p 2)) 61;rw[World.size_alloc]at c;refine bodyPost_ret (v:=.agg #[.func (.func 53) #[] #[.pointer (some ⟨w.heap.size,0,none⟩)],Af (p 2)]) (by simp[results,Tryz.results19,go_sem,c.1.1,c.2.1]) rfl ⟨_,rfl,g.out,h⟩
end
end Go.Proofs.YtddigaohmfpepaaGreatDoor
