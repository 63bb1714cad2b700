/- A part of the proof. -/
import Derived.Test.YtnfjcaoclahfjaaGreatDoorF20
set_option linter.unusedVariables false
set_option maxRecDepth 20000
set_option maxHeartbeats 4000000
namespace Go.Proofs.YtnfjcaoclahfjaaGreatDoor
noncomputable section
open Go.RowKit Go.Maps
theorem zD3(v0 v1 v2 v3:Value)(lo hi:Nat)(W:A4)(w:World)(h:BM w lo hi v0 v1 v2 v3 W)(iF:As W.pool<=1048576)(cF:W.sn<=1048576)(jD:W.pn<=1048576)(bF:JQ W):Calls Tryz.prog 55 #[Bh v0 v1 v2 v3 W] w (zT W w):=by
 obtain⟨a0,c0,a1,c1,a2,c2,a3,c3,rfl,rfl,rfl,rfl⟩:=h.Bv;have Hp:=Al h;obtain⟨jA,rE,eH⟩:=h.A2.values;obtain⟨Y,sE,fH⟩:=h.A0.values;have eC:=Al rE;have fC:=Al sE;have eD:=Al (show ∀i,i<W.sn->(jA i).oneCell'=true from fun i hi=>by obtain⟨-,a,c,e,-⟩:=(rE i hi).1;rw[e];rfl);have tB:=Al (show ∀i,i<W.pn->(Y i).oneCell'=true from fun i hi=>by obtain⟨-,a,c,e,-⟩:=(sE i hi).1;rw[e];rfl);have fD:=Al eH;have vB:=Al fH;have lG:=Al bF.1;have mG:=Al bF.2;have nG:=Al (show W.sn<=maxLen/\W.pn<=maxLen from⟨h.A2.1,h.A0.1⟩);clear h rE sE eH fH bF;have vH:∀A B:World,A=w.alloc (.cells #[.slice a0 W.pool.n c0,.slice a1 W.pool.hn c1,.int .i64 W.time,.int .i64 W.next,.slice a2 W.sn c2,.slice a3 W.pn c3] 30)->B=A.alloc (.cells #[.slice none 0 0,.slice none 0 0,.int .i64 0,.int .i64 0,.slice none 0 0,.slice none 0 0] 30)->Af B w.heap.size (.slice a0 W.pool.n c0) (.slice a1 W.pool.hn c1) (.int .i64 W.time) (.int .i64 W.next) (.slice a2 W.sn c2) (.slice a3 W.pn c3)/\Af B (w.heap.size+1) (.slice none 0 0) (.slice none 0 0) (.int .i64 0) (.int .i64 0) (.slice none 0 0) (.slice none 0 0)/\Below w.heap.size w B/\B.heap.size=w.heap.size+2:=by
  rintro A B ea eb;have F:=A9 w (.cells #[.slice a0 W.pool.n c0,.slice a1 W.pool.hn c1,.int .i64 W.time,.int .i64 W.next,.slice a2 W.sn c2,.slice a3 W.pn c3] 30);have g:=Af.new w (.slice a0 W.pool.n c0) (.slice a1 W.pool.hn c1) (.int .i64 W.time) (.int .i64 W.next) (.slice a2 W.sn c2) (.slice a3 W.pn c3) 30;have z1:A.heap.size=w.heap.size+1:=(by rw[ea];exact World.size_alloc _ _);rw[<-ea]at F g;have b2:=A9 A (.cells #[.slice none 0 0,.slice none 0 0,.int .i64 0,.int .i64 0,.slice none 0 0,.slice none 0 0] 30);have m:=Af.new A (.slice none 0 0) (.slice none 0 0) (.int .i64 0) (.int .i64 0) (.slice none 0 0) (.slice none 0 0) 30;have z2:B.heap.size=w.heap.size+2:=(by rw[eb,World.size_alloc,z1]);rw[<-eb,z1]at m;rw[<-eb]at b2;exact⟨g.A1 b2,m,A8 F b2,z2⟩
 obtain⟨hx,hr,G,oD⟩:=vH _ _ rfl rfl;have Z:=Al hx;have HR:=Al hr;have sG:=Al oD;clear vH hx hr oD;go_enter Tryz.func55,Tryz.ntmps55;go_upto_region 1 with fail;generalize (w.alloc (.cells #[.slice a0 W.pool.n c0,.slice a1 W.pool.hn c1,.int .i64 W.time,.int .i64 W.next,.slice a2 W.sn c2,.slice a3 W.pn c3] 30)).alloc (.cells #[.slice none 0 0,.slice none 0 0,.int .i64 0,.int .i64 0,.slice none 0 0,.slice none 0 0] 30)=f at Z HR sG G ⊢
 go_cut [3] (fun v wc=>∃(X:Nat) (J:Option Addr) (L:Nat) (F:Option Addr) (M:Nat) (aS:Option Addr) (cS:Nat) (aZ:Option Addr) (cZ:Nat) (l h P O:Nat),v = .pointer (some ⟨X,0,none⟩)/\Af wc X (.slice J W.pool.n L) (.slice F W.pool.hn M) (.int .i64 W.time) (.int .i64 W.next) (.slice aS W.sn cS) (.slice aZ W.pn cZ)/\CF wc l h (.slice J W.pool.n L) (.slice F W.pool.hn M) W.pool/\(0<W.sn->aS=some ⟨P,0,none⟩/\h<=P)/\(0<W.pn->aZ=some ⟨O,0,none⟩/\h<=O/\(0<W.sn->P<O))/\W.sn<=cS/\W.pn<=cZ/\DG wc P wc.heap.size W.sn 0 W.A2 (fun _=>0) jA jA/\DF wc O wc.heap.size W.pn 0 W.A0 (fun _=>0) Y Y/\(X<l\/h<=X)/\(0<W.sn->X≠P)/\(0<W.pn->X≠O)/\f.heap.size<=X/\f.heap.size<=l/\l<=h/\X<wc.heap.size/\h<=wc.heap.size/\C3 wc 70 6 (.slice aS W.sn cS) W.sn/\C3 wc 43 8 (.slice aZ W.pn cZ) W.pn/\Below f.heap.size f wc)
 case first=>
  obtain⟨p,g,m,r,s,t⟩:=Z.out.c;refine wp_region_held_drew (S:=(fun w'=>w'.cell? ⟨w.heap.size,0,none⟩=some (.slice a0 W.pool.n c0)/\w'.cell? ⟨w.heap.size,1,none⟩=some (.slice a1 W.pool.hn c1)/\w'.cell? ⟨w.heap.size,2,none⟩=some (.int .i64 W.time)/\w'.cell? ⟨w.heap.size,3,none⟩=some (.int .i64 W.next)/\w'.cell? ⟨w.heap.size,4,none⟩=some (.slice a2 W.sn c2)/\w'.cell? ⟨w.heap.size,5,none⟩=some (.slice a3 W.pn c3))) (by kernel_rfl) ?_ (fun hHeld=>?_)
  · (try dsimp only)
    go_keep
  have lB:Below f.heap.size f f.drew:=(Below.refl _ _).drew;clear p g m r s t;generalize f.drew=q0 at lB hHeld ⊢;refine tk 0 (h:=tk 1 (h:=tk 3 (h:=tk 4 (h:=tk 5 (h:=tk 6 (h:=tk 7 (h:=tk 8 (h:=tk 10 (h:=tk 11 (h:=?_))))))))));refine rd [2,14] (rc (fun K hK=>?_) (rc (fun K hK=>?_) .nil))
  · go_simp
    go_at_call 110;refine(YO _ _ lo hi W.pool _ ((Hp.out.pool.A1 G).A1 lB) iF).mono ?_;rintro e q1 ⟨u0,u1,rfl,oF,fF⟩;obtain⟨J,L,F,M,rfl,rfl⟩:=oF.Bv;have zP:f.heap.size<=q0.heap.size/\q0.heap.size<=q1.heap.size:=⟨lB.size,fF.size⟩;have kC:Below f.heap.size f q1:=A8 lB fF;have y1:=fF.size;obtain⟨p,g,m,r,s,t⟩:=(Z.out.A1 kC).c
    (try go_wp2_with fail)
    refine hK.out _ _ (by(try dsimp only);go_keep) ?_;clear hK K hHeld;intro hHeld
    try simp only[Act.put,s1,s2,s3]
    clear p g m r s t;refine rd [9,14] (rc (fun K hK=>?_) (rc (fun K hK=>?_) .nil))
    · go_simp
      go_at_call 111;refine(RU a2 W.sn c2 (Fz W.A2 jA W.sn) _ (O9 _ _ _) (Qo _ _ _ eD.out) cF (fun d=>?_)).mono ?_
      · obtain⟨b,off,ha,hc⟩:=fD.out d
        exact⟨b,off,ha,fun j u N=>((A8 G kC).cell (AM (hc j u N))).trans (hc j u N)⟩
      rintro e q2 ⟨v2,rfl,rH,nD,bI⟩;have dA:Below f.heap.size f q2:=A8 kC nD;obtain⟨P,C,D,rfl,nS,V,iJ⟩:=RW rH q2.heap.size (Nat.le_refl _);have zS:q1.heap.size<=q2.heap.size:=nD.size;have jI:=J0 rH bI;have vI:=oF.A1 nD;have y2:=nD.size;obtain⟨p,g,m,r,s,t⟩:=(Z.out.A1 dA).c
      (try go_wp2_with fail)
      refine hK.out _ _ (by(try dsimp only);go_keep) ?_;clear hK K hHeld;intro hHeld
      try simp only[Act.put,s1,s2,s3]
      clear p g m r s t;refine rd [12,14] (rc (fun K hK=>?_) (rc (fun K hK=>?_) .nil))
      · go_simp
        go_at_call 112;refine(Ov a3 W.pn c3 (Fe W.A0 Y W.pn) _ (MG _ _ _) (OK _ _ _ tB.out) jD (fun d=>?_)).mono ?_
        · obtain⟨b,off,ha,hc⟩:=vB.out d
          exact⟨b,off,ha,fun j u N=>((A8 G dA).cell (AM (hc j u N))).trans (hc j u N)⟩
        rintro e q3 ⟨v3,rfl,sH,mB,cI⟩;have dF:Below f.heap.size f q3:=A8 dA mB;obtain⟨O,x,y,rfl,nZ,U,rL⟩:=Oy sH q3.heap.size (Nat.le_refl _);have zZ:q2.heap.size<=q3.heap.size:=mB.size;have iL:=J0 sH cI;have kL:=vI.A1 mB;have nL:=iJ.A1 mB;have fL:=jI.A1 mB;have y3:=mB.size;obtain⟨p,g,m,r,s,t⟩:=(Z.out.A1 dF).c
        (try go_wp2_with fail)
        refine hK.out _ _ (by(try dsimp only);go_keep) ?_;clear hK K hHeld;intro hHeld
        try simp only[Act.put,s1,s2,s3]
        clear p g m r s t;refine tk 13 (h:=?_);refine rd [14] (rc (fun K hK=>?_) .nil);go_simp;have sA:=A9 q3 (.cells #[.slice none 0 0,.slice none 0 0,.int .i64 0,.int .i64 0,.slice none 0 0,.slice none 0 0] 30);have kD:Below f.heap.size f (q3.alloc (.cells #[.slice none 0 0,.slice none 0 0,.int .i64 0,.int .i64 0,.slice none 0 0,.slice none 0 0] 30)):=A8 dF sA;have pF:Af (q3.alloc (.cells #[.slice none 0 0,.slice none 0 0,.int .i64 0,.int .i64 0,.slice none 0 0,.slice none 0 0] 30)) q3.heap.size (.slice none 0 0) (.slice none 0 0) (.int .i64 0) (.int .i64 0) (.slice none 0 0) (.slice none 0 0):=Af.new _ _ _ _ _ _ _ _;have zV:f.heap.size<=q3.heap.size/\q3.heap.size+1=(q3.alloc (.cells #[.slice none 0 0,.slice none 0 0,.int .i64 0,.int .i64 0,.slice none 0 0,.slice none 0 0] 30)).heap.size:=⟨dF.size,(World.size_alloc _ _).symm⟩;have aJ:=kL.A1 sA;have jJ:=nL.A1 sA;have vJ:=rL.A1 sA;have kI:=fL.A1 sA;have oI:=iL.A1 sA;obtain⟨p,g,m,r,s,t⟩:=(Z.out.A1 kD).c
        (try go_wp2_with fail)
        refine hK.out _ _ (by(try dsimp only);go_keep) ?_;clear hK K hHeld;intro hHeld
        try simp only[Act.put,s1,s2,s3]
        clear p g m r s t;generalize q3.alloc (.cells #[.slice none 0 0,.slice none 0 0,.int .i64 0,.int .i64 0,.slice none 0 0,.slice none 0 0] 30)=q4 at kD zV aJ jJ vJ pF kI oI hHeld sA ⊢;refine rd [15] (rc (fun K hK=>?_) .nil);have I:=AC.put6 q4 (q3.heap.size) (.slice J W.pool.n L) (.slice F W.pool.hn M) (.int .i64 W.time) (.int .i64 W.next) (.slice C W.sn D) (.slice x W.pn y);have Q:Below f.heap.size f (put6 q4 (q3.heap.size) (.slice J W.pool.n L) (.slice F W.pool.hn M) (.int .i64 W.time) (.int .i64 W.next) (.slice C W.sn D) (.slice x W.pn y)):=kD.trans (I.A1 (B:=f.heap.size) kD.size (fun k e=>by omega));have kV:=pF.put (.slice J W.pool.n L) (.slice F W.pool.hn M) (.int .i64 W.time) (.int .i64 W.next) (.slice C W.sn D) (.slice x W.pn y);obtain⟨⟨y0,tF⟩,⟨y1,vF⟩,⟨y2,aG⟩,⟨y3,bG⟩,⟨y4,cG⟩,⟨y5,dG⟩⟩:=pF;obtain⟨p,g,m,r,s,t⟩:=(Z.out.A1 Q).c;go_simp
        (try go_wp2_with fail)
        refine hK.out _ _ (by(try dsimp only);go_keep) ?_;clear hK K hHeld;intro hHeld
        try simp only[Act.put,s1,s2,s3]
        clear p g m r s t;refine wpAnyH_done (by kernel_rfl) ?_ _;have z:(put6 q4 (q3.heap.size) (.slice J W.pool.n L) (.slice F W.pool.hn M) (.int .i64 W.time) (.int .i64 W.next) (.slice C W.sn D) (.slice x W.pn y)).heap.size=q4.heap.size:=(by simp only[World.size_setCell]);go_wp2_with fail
        go_meet
        case rel=>
         refine⟨_,_,_,_,_,_,_,_,_,_,_,P,O,rfl,kV,aJ.AD I (fun k e=>by omega),fun d=>⟨(V d).1,by have:=V d;omega⟩,fun d=>⟨(U d).1,by have:=U d;omega,fun h1=>by have:=U d;have:=V h1;omega⟩,nS,nZ,(jJ.turned0 I (fun q e d e2=>by have:=V d;omega)).weak (by rw[z];omega),(vJ.turned0 I (fun q e d e2=>by have:=U d;omega)).weak (by rw[z];omega),by omega,fun d=>by have:=V d;omega,fun d=>by have:=U d;omega,by omega,by omega,by omega,by rw[z];omega,by rw[z];omega,((((((kI.set _ _).set _ _).set _ _).set _ _).set _ _).set _ _),((((((oI.set _ _).set _ _).set _ _).set _ _).set _ _).set _ _),Q⟩
      · go_simp
        have sC:=A9 q2 (.cells #[.slice none 0 0,.slice none 0 0,.int .i64 0,.int .i64 0,.slice none 0 0,.slice none 0 0] 30);have lD:Below f.heap.size f (q2.alloc (.cells #[.slice none 0 0,.slice none 0 0,.int .i64 0,.int .i64 0,.slice none 0 0,.slice none 0 0] 30)):=A8 dA sC;have oJ:Af (q2.alloc (.cells #[.slice none 0 0,.slice none 0 0,.int .i64 0,.int .i64 0,.slice none 0 0,.slice none 0 0] 30)) q2.heap.size (.slice none 0 0) (.slice none 0 0) (.int .i64 0) (.int .i64 0) (.slice none 0 0) (.slice none 0 0):=Af.new _ _ _ _ _ _ _ _;have zV:f.heap.size<=q2.heap.size/\q2.heap.size+1=(q2.alloc (.cells #[.slice none 0 0,.slice none 0 0,.int .i64 0,.int .i64 0,.slice none 0 0,.slice none 0 0] 30)).heap.size:=⟨dA.size,(World.size_alloc _ _).symm⟩;have bJ:=vI.A1 sC;have kJ:=iJ.A1 sC;have lI:=jI.A1 sC;obtain⟨p,g,m,r,s,t⟩:=(Z.out.A1 lD).c
        (try go_wp2_with fail)
        refine hK.out _ _ (by(try dsimp only);go_keep) ?_;clear hK K hHeld;intro hHeld
        try simp only[Act.put,s1,s2,s3]
        clear p g m r s t;generalize q2.alloc (.cells #[.slice none 0 0,.slice none 0 0,.int .i64 0,.int .i64 0,.slice none 0 0,.slice none 0 0] 30)=q6 at lD zV bJ kJ oJ lI hHeld sC ⊢;refine rd [12] (rc (fun K hK=>?_) .nil);go_simp;go_at_call 112;refine(Ov a3 W.pn c3 (Fe W.A0 Y W.pn) _ (MG _ _ _) (OK _ _ _ tB.out) jD (fun d=>?_)).mono ?_
        · obtain⟨b,off,ha,hc⟩:=vB.out d
          exact⟨b,off,ha,fun j u N=>((A8 G lD).cell (AM (hc j u N))).trans (hc j u N)⟩
        rintro e q7 ⟨v7,rfl,tH,tA,dI⟩;have eF:Below f.heap.size f q7:=A8 lD tA;obtain⟨O,x,y,rfl,nZ,U,sL⟩:=Oy tH q7.heap.size (Nat.le_refl _);have zZ:q6.heap.size<=q7.heap.size:=tA.size;have jL:=J0 tH dI;have lL:=bJ.A1 tA;have oL:=kJ.A1 tA;have pJ:=oJ.A1 tA;have gL:=lI.A1 tA;have y7:=tA.size;obtain⟨p,g,m,r,s,t⟩:=(Z.out.A1 eF).c
        (try go_wp2_with fail)
        refine hK.out _ _ (by(try dsimp only);go_keep) ?_;clear hK K hHeld;intro hHeld
        try simp only[Act.put,s1,s2,s3]
        clear p g m r s t;refine tk 13 (h:=?_);refine rd [15] (rc (fun K hK=>?_) .nil);have I:=AC.put6 q7 (q2.heap.size) (.slice J W.pool.n L) (.slice F W.pool.hn M) (.int .i64 W.time) (.int .i64 W.next) (.slice C W.sn D) (.slice x W.pn y);have Q:Below f.heap.size f (put6 q7 (q2.heap.size) (.slice J W.pool.n L) (.slice F W.pool.hn M) (.int .i64 W.time) (.int .i64 W.next) (.slice C W.sn D) (.slice x W.pn y)):=eF.trans (I.A1 (B:=f.heap.size) eF.size (fun k e=>by omega));have kV:=pJ.put (.slice J W.pool.n L) (.slice F W.pool.hn M) (.int .i64 W.time) (.int .i64 W.next) (.slice C W.sn D) (.slice x W.pn y);obtain⟨⟨y0,tF⟩,⟨y1,vF⟩,⟨y2,aG⟩,⟨y3,bG⟩,⟨y4,cG⟩,⟨y5,dG⟩⟩:=pJ;obtain⟨p,g,m,r,s,t⟩:=(Z.out.A1 Q).c;go_simp
        (try go_wp2_with fail)
        refine hK.out _ _ (by(try dsimp only);go_keep) ?_;clear hK K hHeld;intro hHeld
        try simp only[Act.put,s1,s2,s3]
        clear p g m r s t;refine wpAnyH_done (by kernel_rfl) ?_ _;have z:(put6 q7 (q2.heap.size) (.slice J W.pool.n L) (.slice F W.pool.hn M) (.int .i64 W.time) (.int .i64 W.next) (.slice C W.sn D) (.slice x W.pn y)).heap.size=q7.heap.size:=(by simp only[World.size_setCell]);go_wp2_with fail
        go_meet
        case rel=>
         refine⟨_,_,_,_,_,_,_,_,_,_,_,P,O,rfl,kV,lL.AD I (fun k e=>by omega),fun d=>⟨(V d).1,by have:=V d;omega⟩,fun d=>⟨(U d).1,by have:=U d;omega,fun h1=>by have:=U d;have:=V h1;omega⟩,nS,nZ,(oL.turned0 I (fun q e d e2=>by have:=V d;omega)).weak (by rw[z];omega),(sL.turned0 I (fun q e d e2=>by have:=U d;omega)).weak (by rw[z];omega),by omega,fun d=>by have:=V d;omega,fun d=>by have:=U d;omega,by omega,by omega,by omega,by rw[z];omega,by rw[z];omega,((((((gL.set _ _).set _ _).set _ _).set _ _).set _ _).set _ _),((((((jL.set _ _).set _ _).set _ _).set _ _).set _ _).set _ _),Q⟩
    · go_simp
      have gF:=A9 q1 (.cells #[.slice none 0 0,.slice none 0 0,.int .i64 0,.int .i64 0,.slice none 0 0,.slice none 0 0] 30);have mD:Below f.heap.size f (q1.alloc (.cells #[.slice none 0 0,.slice none 0 0,.int .i64 0,.int .i64 0,.slice none 0 0,.slice none 0 0] 30)):=A8 kC gF;have rJ:Af (q1.alloc (.cells #[.slice none 0 0,.slice none 0 0,.int .i64 0,.int .i64 0,.slice none 0 0,.slice none 0 0] 30)) q1.heap.size (.slice none 0 0) (.slice none 0 0) (.int .i64 0) (.int .i64 0) (.slice none 0 0) (.slice none 0 0):=Af.new _ _ _ _ _ _ _ _;have zV:f.heap.size<=q1.heap.size/\q1.heap.size+1=(q1.alloc (.cells #[.slice none 0 0,.slice none 0 0,.int .i64 0,.int .i64 0,.slice none 0 0,.slice none 0 0] 30)).heap.size:=⟨kC.size,(World.size_alloc _ _).symm⟩;have cJ:=oF.A1 gF;obtain⟨p,g,m,r,s,t⟩:=(Z.out.A1 mD).c
      (try go_wp2_with fail)
      refine hK.out _ _ (by(try dsimp only);go_keep) ?_;clear hK K hHeld;intro hHeld
      try simp only[Act.put,s1,s2,s3]
      clear p g m r s t;generalize q1.alloc (.cells #[.slice none 0 0,.slice none 0 0,.int .i64 0,.int .i64 0,.slice none 0 0,.slice none 0 0] 30)=q9 at mD zV cJ rJ hHeld gF ⊢;refine rd [9] (rc (fun K hK=>?_) .nil);go_simp;go_at_call 111;refine(RU a2 W.sn c2 (Fz W.A2 jA W.sn) _ (O9 _ _ _) (Qo _ _ _ eD.out) cF (fun d=>?_)).mono ?_
      · obtain⟨b,off,ha,hc⟩:=fD.out d
        exact⟨b,off,ha,fun j u N=>((A8 G mD).cell (AM (hc j u N))).trans (hc j u N)⟩
      rintro e rD ⟨kO,rfl,bE,mA,kF⟩;have lC:Below f.heap.size f rD:=A8 mD mA;obtain⟨P,C,D,rfl,nS,V,dJ⟩:=RW bE rD.heap.size (Nat.le_refl _);have zS:q9.heap.size<=rD.heap.size:=mA.size;have eI:=J0 bE kF;have pI:=cJ.A1 mA;have lJ:=rJ.A1 mA;have sO:=mA.size;obtain⟨p,g,m,r,s,t⟩:=(Z.out.A1 lC).c
      (try go_wp2_with fail)
      refine hK.out _ _ (by(try dsimp only);go_keep) ?_;clear hK K hHeld;intro hHeld
      try simp only[Act.put,s1,s2,s3]
      clear p g m r s t;refine rd [12] (rc (fun K hK=>?_) .nil);go_simp;go_at_call 112;refine(Ov a3 W.pn c3 (Fe W.A0 Y W.pn) _ (MG _ _ _) (OK _ _ _ tB.out) jD (fun d=>?_)).mono ?_
      · obtain⟨b,off,ha,hc⟩:=vB.out d
        exact⟨b,off,ha,fun j u N=>((A8 G lC).cell (AM (hc j u N))).trans (hc j u N)⟩
      rintro e vA ⟨lO,rfl,cE,R,lF⟩;have mC:Below f.heap.size f vA:=A8 lC R;obtain⟨O,x,y,rfl,nZ,U,sJ⟩:=Oy cE vA.heap.size (Nat.le_refl _);have zZ:rD.heap.size<=vA.heap.size:=R.size;have mI:=J0 cE lF;have rI:=pI.A1 R;have eJ:=dJ.A1 R;have gE:=lJ.A1 R;have fI:=eI.A1 R;have tO:=R.size;obtain⟨p,g,m,r,s,t⟩:=(Z.out.A1 mC).c
      (try go_wp2_with fail)
      refine hK.out _ _ (by(try dsimp only);go_keep) ?_;clear hK K hHeld;intro hHeld
      try simp only[Act.put,s1,s2,s3]
      clear p g m r s t;refine tk 13 (h:=?_);refine rd [15] (rc (fun K hK=>?_) .nil);have I:=AC.put6 vA (q1.heap.size) (.slice J W.pool.n L) (.slice F W.pool.hn M) (.int .i64 W.time) (.int .i64 W.next) (.slice C W.sn D) (.slice x W.pn y);have Q:Below f.heap.size f (put6 vA (q1.heap.size) (.slice J W.pool.n L) (.slice F W.pool.hn M) (.int .i64 W.time) (.int .i64 W.next) (.slice C W.sn D) (.slice x W.pn y)):=mC.trans (I.A1 (B:=f.heap.size) mC.size (fun k e=>by omega));have kV:=gE.put (.slice J W.pool.n L) (.slice F W.pool.hn M) (.int .i64 W.time) (.int .i64 W.next) (.slice C W.sn D) (.slice x W.pn y);obtain⟨⟨y0,tF⟩,⟨y1,vF⟩,⟨y2,aG⟩,⟨y3,bG⟩,⟨y4,cG⟩,⟨y5,dG⟩⟩:=gE;obtain⟨p,g,m,r,s,t⟩:=(Z.out.A1 Q).c;go_simp
      (try go_wp2_with fail)
      refine hK.out _ _ (by(try dsimp only);go_keep) ?_;clear hK K hHeld;intro hHeld
      try simp only[Act.put,s1,s2,s3]
      clear p g m r s t;refine wpAnyH_done (by kernel_rfl) ?_ _;have z:(put6 vA (q1.heap.size) (.slice J W.pool.n L) (.slice F W.pool.hn M) (.int .i64 W.time) (.int .i64 W.next) (.slice C W.sn D) (.slice x W.pn y)).heap.size=vA.heap.size:=(by simp only[World.size_setCell]);go_wp2_with fail
      go_meet
      case rel=>
       refine⟨_,_,_,_,_,_,_,_,_,_,_,P,O,rfl,kV,rI.AD I (fun k e=>by omega),fun d=>⟨(V d).1,by have:=V d;omega⟩,fun d=>⟨(U d).1,by have:=U d;omega,fun h1=>by have:=U d;have:=V h1;omega⟩,nS,nZ,(eJ.turned0 I (fun q e d e2=>by have:=V d;omega)).weak (by rw[z];omega),(sJ.turned0 I (fun q e d e2=>by have:=U d;omega)).weak (by rw[z];omega),by omega,fun d=>by have:=V d;omega,fun d=>by have:=U d;omega,by omega,by omega,by omega,by rw[z];omega,by rw[z];omega,((((((fI.set _ _).set _ _).set _ _).set _ _).set _ _).set _ _),((((((mI.set _ _).set _ _).set _ _).set _ _).set _ _).set _ _),Q⟩
  · go_simp
    have vD:=A9 q0 (.cells #[.slice none 0 0,.slice none 0 0,.int .i64 0,.int .i64 0,.slice none 0 0,.slice none 0 0] 30);have lA:Below f.heap.size f (q0.alloc (.cells #[.slice none 0 0,.slice none 0 0,.int .i64 0,.int .i64 0,.slice none 0 0,.slice none 0 0] 30)):=A8 lB vD;have iE:Af (q0.alloc (.cells #[.slice none 0 0,.slice none 0 0,.int .i64 0,.int .i64 0,.slice none 0 0,.slice none 0 0] 30)) q0.heap.size (.slice none 0 0) (.slice none 0 0) (.int .i64 0) (.int .i64 0) (.slice none 0 0) (.slice none 0 0):=Af.new _ _ _ _ _ _ _ _;have zV:f.heap.size<=q0.heap.size/\q0.heap.size+1=(q0.alloc (.cells #[.slice none 0 0,.slice none 0 0,.int .i64 0,.int .i64 0,.slice none 0 0,.slice none 0 0] 30)).heap.size:=⟨lB.size,(World.size_alloc _ _).symm⟩;obtain⟨p,g,m,r,s,t⟩:=(Z.out.A1 lA).c
    (try go_wp2_with fail)
    refine hK.out _ _ (by(try dsimp only);go_keep) ?_;clear hK K hHeld;intro hHeld
    try simp only[Act.put,s1,s2,s3]
    clear p g m r s t;generalize q0.alloc (.cells #[.slice none 0 0,.slice none 0 0,.int .i64 0,.int .i64 0,.slice none 0 0,.slice none 0 0] 30)=q13 at lA zV iE hHeld vD ⊢;refine rd [2] (rc (fun K hK=>?_) .nil);go_simp;go_at_call 110;refine(YO _ _ lo hi W.pool _ ((Hp.out.pool.A1 G).A1 lA) iF).mono ?_;rintro e rF ⟨u0,u1,rfl,fE,eB⟩;obtain⟨J,L,F,M,rfl,rfl⟩:=fE.Bv;have zP:f.heap.size<=q13.heap.size/\q13.heap.size<=rF.heap.size:=⟨lA.size,eB.size⟩;have nC:Below f.heap.size f rF:=A8 lA eB;have mJ:=iE.A1 eB;have vO:=eB.size;obtain⟨p,g,m,r,s,t⟩:=(Z.out.A1 nC).c
    (try go_wp2_with fail)
    refine hK.out _ _ (by(try dsimp only);go_keep) ?_;clear hK K hHeld;intro hHeld
    try simp only[Act.put,s1,s2,s3]
    clear p g m r s t;refine rd [9] (rc (fun K hK=>?_) .nil);go_simp;go_at_call 111;refine(RU a2 W.sn c2 (Fz W.A2 jA W.sn) _ (O9 _ _ _) (Qo _ _ _ eD.out) cF (fun d=>?_)).mono ?_
    · obtain⟨b,off,ha,hc⟩:=fD.out d
      exact⟨b,off,ha,fun j u N=>((A8 G nC).cell (AM (hc j u N))).trans (hc j u N)⟩
    rintro e sD ⟨mO,rfl,dE,nA,mF⟩;have oC:Below f.heap.size f sD:=A8 nC nA;obtain⟨P,C,D,rfl,nS,V,fJ⟩:=RW dE sD.heap.size (Nat.le_refl _);have zS:rF.heap.size<=sD.heap.size:=nA.size;have gI:=J0 dE mF;have sI:=fE.A1 nA;have nJ:=mJ.A1 nA;have aP:=nA.size;obtain⟨p,g,m,r,s,t⟩:=(Z.out.A1 oC).c
    (try go_wp2_with fail)
    refine hK.out _ _ (by(try dsimp only);go_keep) ?_;clear hK K hHeld;intro hHeld
    try simp only[Act.put,s1,s2,s3]
    clear p g m r s t;refine rd [12] (rc (fun K hK=>?_) .nil);go_simp;go_at_call 112;refine(Ov a3 W.pn c3 (Fe W.A0 Y W.pn) _ (MG _ _ _) (OK _ _ _ tB.out) jD (fun d=>?_)).mono ?_
    · obtain⟨b,off,ha,hc⟩:=vB.out d
      exact⟨b,off,ha,fun j u N=>((A8 G oC).cell (AM (hc j u N))).trans (hc j u N)⟩
    rintro e aB ⟨nO,rfl,eE,T,nF⟩;have pC:Below f.heap.size f aB:=A8 oC T;obtain⟨O,x,y,rfl,nZ,U,tJ⟩:=Oy eE aB.heap.size (Nat.le_refl _);have zZ:sD.heap.size<=aB.heap.size:=T.size;have nI:=J0 eE nF;have tI:=sI.A1 T;have gJ:=fJ.A1 T;have jE:=nJ.A1 T;have iI:=gI.A1 T;have bP:=T.size;obtain⟨p,g,m,r,s,t⟩:=(Z.out.A1 pC).c
    (try go_wp2_with fail)
    refine hK.out _ _ (by(try dsimp only);go_keep) ?_;clear hK K hHeld;intro hHeld
    try simp only[Act.put,s1,s2,s3]
    clear p g m r s t;refine tk 13 (h:=?_);refine rd [15] (rc (fun K hK=>?_) .nil);have I:=AC.put6 aB (q0.heap.size) (.slice J W.pool.n L) (.slice F W.pool.hn M) (.int .i64 W.time) (.int .i64 W.next) (.slice C W.sn D) (.slice x W.pn y);have Q:Below f.heap.size f (put6 aB (q0.heap.size) (.slice J W.pool.n L) (.slice F W.pool.hn M) (.int .i64 W.time) (.int .i64 W.next) (.slice C W.sn D) (.slice x W.pn y)):=pC.trans (I.A1 (B:=f.heap.size) pC.size (fun k e=>by omega));have kV:=jE.put (.slice J W.pool.n L) (.slice F W.pool.hn M) (.int .i64 W.time) (.int .i64 W.next) (.slice C W.sn D) (.slice x W.pn y);obtain⟨⟨y0,tF⟩,⟨y1,vF⟩,⟨y2,aG⟩,⟨y3,bG⟩,⟨y4,cG⟩,⟨y5,dG⟩⟩:=jE;obtain⟨p,g,m,r,s,t⟩:=(Z.out.A1 Q).c;go_simp
    (try go_wp2_with fail)
    refine hK.out _ _ (by(try dsimp only);go_keep) ?_;clear hK K hHeld;intro hHeld
    try simp only[Act.put,s1,s2,s3]
    clear p g m r s t;refine wpAnyH_done (by kernel_rfl) ?_ _;have z:(put6 aB (q0.heap.size) (.slice J W.pool.n L) (.slice F W.pool.hn M) (.int .i64 W.time) (.int .i64 W.next) (.slice C W.sn D) (.slice x W.pn y)).heap.size=aB.heap.size:=(by simp only[World.size_setCell]);go_wp2_with fail
    go_meet
    case rel=>
     refine⟨_,_,_,_,_,_,_,_,_,_,_,P,O,rfl,kV,tI.AD I (fun k e=>by omega),fun d=>⟨(V d).1,by have:=V d;omega⟩,fun d=>⟨(U d).1,by have:=U d;omega,fun h1=>by have:=U d;have:=V h1;omega⟩,nS,nZ,(gJ.turned0 I (fun q e d e2=>by have:=V d;omega)).weak (by rw[z];omega),(tJ.turned0 I (fun q e d e2=>by have:=U d;omega)).weak (by rw[z];omega),by omega,fun d=>by have:=V d;omega,fun d=>by have:=U d;omega,by omega,by omega,by omega,by rw[z];omega,by rw[z];omega,((((((iI.set _ _).set _ _).set _ _).set _ _).set _ _).set _ _),((((((nI.set _ _).set _ _).set _ _).set _ _).set _ _).set _ _),Q⟩
 case rest=>
  obtain⟨X,J,L,F,M,aS,cS,aZ,cZ,l,h,P,O,rfl,kV,kP,hS,hZ,nS,nZ,kS,kZ,iN,jH,kH,z1,z2,z3,z4,z5,rA,rB,lH⟩:=hcut;have lE:=Al kV;have oG:=Al kP;have dC:=Al hS;have iA:=Al hZ;have sM:=G.size;have fN:=sG.out;have HS:=Al kS;have HZ:=Al kZ;have pH:=kS.lt;have aE:=kZ.lt;clear kV kP hS hZ kS kZ Z iF eD tB fD vB;obtain⟨p,g,m,r,s,t⟩:=lE.out.c;go_wp2;clear p g m r s t
  go_loopw [4,5,25] (fun _ _ i wr=>∃(k:Nat) (kb:Nat->Nat) (kv:Nat->Value),k<=W.sn/\i = .int .i64 k/\DG wr P wc.heap.size W.sn k W.A2 kb kv jA/\Af wr X (.slice J W.pool.n L) (.slice F W.pool.hn M) (.int .i64 W.time) (.int .i64 W.next) (.slice aS W.sn cS) (.slice aZ W.pn cZ)/\wc.heap.size<=wr.heap.size/\CF wr l h (.slice J W.pool.n L) (.slice F W.pool.hn M) W.pool/\DF wr O wc.heap.size W.pn 0 W.A0 (fun _=>0) Y Y/\(Below f.heap.size f wr/\C3 wr 70 6 (.slice aS W.sn cS) W.sn/\C3 wr 43 8 (.slice aZ W.pn cZ) W.pn/\∀j,j<k->C3 wr 40 2 (kv j) (W.A2 j).dn)) (fun _ _ i _=>W.sn - (intOf i).toNat)
  case atStart=>exact⟨0,_,_,Nat.zero_le _,rfl,HS.out,lE.out,Nat.le_refl _,oG.out,HZ.out,lH,rA,rB,fun j N=>absurd N (Nat.not_lt_zero _)⟩
  case round=>
   obtain⟨k,kb,kv,hk,rfl,hh,hI⟩:=hrel;have Hh:=Al hh;have E:=Al hI;clear hh hI;by_cases H:k<W.sn
   · have oH:(k:Int)<(W.sn:Int):=by omega
     have sK:=E.out.2.1;have vK:=Hh.out.lt (by omega);obtain rfl:=(dC.out (by omega)).1;obtain⟨-,da,dc,eA,-⟩:=id (eC.out k H).1;have hD:=(eC.out k H).1;rw[eA]at hD;have HD:=Al hD;clear hD;obtain⟨⟨d,g0⟩,⟨h1,g1⟩,⟨h2,g2⟩,⟨h3,g3⟩,⟨h4,g4⟩,⟨h5,g5⟩⟩:=Hh.out.DX k H;rw[if_neg (by omega),eA]at h5;obtain⟨p,g,m,r,s,t⟩:=E.out.1.c;have ha:=A9 wr (.cells #[.string (W.A2 k).name,.int .i64 (W.A2 k).origin,.int .i64 (W.A2 k).A5,.int .i64 (W.A2 k).rs,.int .i64 (W.A2 k).rb,.slice da (W.A2 k).dn dc] 70);have hy:=Af.new wr (.string (W.A2 k).name) (.int .i64 (W.A2 k).origin) (.int .i64 (W.A2 k).A5) (.int .i64 (W.A2 k).rs) (.int .i64 (W.A2 k).rb) (.slice da (W.A2 k).dn dc) 70;have jF:(wr.alloc (.cells #[.string (W.A2 k).name,.int .i64 (W.A2 k).origin,.int .i64 (W.A2 k).A5,.int .i64 (W.A2 k).rs,.int .i64 (W.A2 k).rb,.slice da (W.A2 k).dn dc] 70)).heap.size=wr.heap.size+1:=World.size_alloc _ _;have HY:=Al hy;have HA:=Al ha;clear hy;go_wp2_with fail;clear d g0 h1 g1 h2 g2 h3 g3 h4 g4 h5 g5 p g m r s t;have cA:=Al (Hh.out.A1 HA.out);have aD:=A8 G (A8 E.out.2.2.2.2.1 HA.out);have bC:=Al (HD.out.A1 aD);have bA:=Al (E.out.1.A1 HA.out);have hV:wr.heap.size<wr.heap.size+1:=(by omega);generalize wr.alloc (.cells #[.string (W.A2 k).name,.int .i64 (W.A2 k).origin,.int .i64 (W.A2 k).A5,.int .i64 (W.A2 k).rs,.int .i64 (W.A2 k).rb,.slice da (W.A2 k).dn dc] 70)=W1 at HY HA cA aD bC bA jF ⊢;obtain⟨p,g,m,r,s,t⟩:=bA.out.c;obtain⟨y0,y1,y2,y3,y4,y5⟩:=HY.out.c;obtain⟨⟨d,g0⟩,⟨h1,g1⟩,⟨h2,g2⟩,⟨h3,g3⟩,⟨h4,g4⟩,⟨h5,g5⟩⟩:=cA.out.DX k H;rw[if_neg (by omega),eA]at h5;have e1:X≠P:=jH (by omega);have oK:=e1.symm;have e2:wr.heap.size≠P:=(by omega);have pK:=e2.symm;go_region_held3 (fun w'=>w'.cell? ⟨X,4,none⟩=some (.slice (some ⟨P,0,none⟩) W.sn cS)/\w'.cell? ⟨wr.heap.size,5,none⟩=some (.slice da (W.A2 k).dn dc)) (go_keep)
      (first
        | (go_at_call 37
           refine(Ya _ (W.A2 k).dn lo hi (W.A2 k).ds (W.A2 k).db _ (bC.out.A1 (Below.refl _ _).drew) (lG.out k H)).mono ?_;rintro e w2 ⟨⟨nv,nb,rfl,oA,tC,vC⟩,dA⟩;have o:=Cs dA;obtain⟨_,na,nc,rfl,_⟩:=id tC;obtain⟨z0,z1,z2,z3,z4,z5⟩:=(bA.out.A1 o).c;obtain⟨v0,v1,v2,v3,v4,v5⟩:=(HY.out.A1 o).c;obtain⟨⟨p0,aM⟩,⟨p1,bM⟩,⟨p2,cM⟩,⟨p3,dM⟩,⟨p4,eM⟩,⟨p5,fM⟩⟩:=(cA.out.A1 o).DX k H;rw[if_neg (by omega),eA]at p5))
     have eL:=o.size;have pE:=Al (cA.out.next H (by omega) o tC (fun d=>by have:=vC d;have hd:W1.drew.heap.size=W1.heap.size:=rfl;omega));have I:=AC.put w2 P (k*6+5) (.slice na (W.A2 k).dn nc);have hB:=A8 HA.out o;have mE:=Al (E.out.2.2.2.1);have gA:=Al (E.out.2.2.2.2.2);have nE:=Al oA;clear oA;go_wp2;go_roundw
     case rel=>
      refine⟨k+1,_,_,by omega,by go_num,pE.out,(bA.out.A1 o).AD I (fun e=>(jH (by omega)) e),by simp only[World.size_setCell];omega,(E.out.2.2.1.A1 hB).AD I (fun q e=>by have:=(dC.out (by omega)).2;omega),(mE.out.A1 hB).AD I (fun q e=>⟨fun d e2=>by have:=(iA.out d).2.2 (by omega);omega,by omega⟩) (Nat.zero_le _),(A8 E.out.2.2.2.2.1 hB).setCell (by show f.heap.size<=P;have:=(dC.out (by omega)).2;omega) _,(gA.out.1.A1 hB).set _ _,(gA.out.2.1.A1 hB).set _ _,fun j N=>?_⟩;by_cases e:j=k
      · subst e
        simp only[if_true];exact nE.out.set _ _
      · simp only[if_neg e]
        exact((gA.out.2.2 j (by omega)).A1 hB).set _ _
     case measure=>simp[intOf];omega
   · obtain rfl:k=W.sn:=by omega
     generalize wr=wA at Hh E ⊢;generalize kb=kbS at Hh;generalize kv=kvS at Hh E;have tK:=E.out.2.1;have lK:=Al Hh.out;have kK:=Al (show ∀j,j<W.sn->0<(W.A2 j).dn->wc.heap.size<=kbS j/\kbS j<wA.heap.size from Hh.out.Bq);have tD:=Al E.out.1;have pG:=Al E.out.2.2.1;have tG:=Al (E.out.2.2.2.1.weak tK);have mH:=E.out.2.2.2.2.1;have cC:=Al E.out.2.2.2.2.2;clear Hh E HZ HS lE oG lH;have HZ:=tG;clear tG;obtain⟨p,g,m,r,s,t⟩:=tD.out.c;go_wp2;clear p g m r s t
     go_loopw [6,7,42] (fun _ _ i wr=>∃(k:Nat) (kb:Nat->Nat) (kv:Nat->Value),k<=W.pn/\i = .int .i64 k/\DF wr O wA.heap.size W.pn k W.A0 kb kv Y/\Af wr X (.slice J W.pool.n L) (.slice F W.pool.hn M) (.int .i64 W.time) (.int .i64 W.next) (.slice aS W.sn cS) (.slice aZ W.pn cZ)/\wA.heap.size<=wr.heap.size/\CF wr l h (.slice J W.pool.n L) (.slice F W.pool.hn M) W.pool/\DG wr P wc.heap.size W.sn W.sn W.A2 kbS kvS jA/\(Below f.heap.size f wr/\C3 wr 70 6 (.slice aS W.sn cS) W.sn/\C3 wr 43 8 (.slice aZ W.pn cZ) W.pn/\(∀j,j<W.sn->C3 wr 40 2 (kvS j) (W.A2 j).dn)/\∀j,j<k->C3 wr 40 2 (kv j) (W.A0 j).dn)) (fun _ _ i _=>W.pn - (intOf i).toNat)
     case atStart=>exact⟨0,_,_,Nat.zero_le _,rfl,HZ.out,tD.out,Nat.le_refl _,pG.out,lK.out,mH,cC.out.1,cC.out.2.1,cC.out.2.2,fun j N=>absurd N (Nat.not_lt_zero _)⟩
     case round=>
      obtain⟨k,kb,kv,hk,rfl,hh,hI⟩:=hrel;have Hh:=Al hh;have E:=Al hI;clear hh hI;by_cases H:k<W.pn
      · have oH:(k:Int)<(W.pn:Int):=by omega
        have sK:=E.out.2.1;have vK:=Hh.out.lt (by omega);obtain rfl:=(iA.out (by omega)).1;obtain⟨-,da,dc,eA,-⟩:=id (fC.out k H).1;have hD:=(fC.out k H).1;rw[eA]at hD;have HD:=Al hD;clear hD;obtain⟨⟨d,g0⟩,⟨h1,g1⟩,⟨h2,g2⟩,⟨h3,g3⟩,⟨h4,g4⟩,⟨h5,g5⟩,⟨h6,g6⟩,⟨h7,g7⟩⟩:=Hh.out.DX k H;rw[if_neg (by omega),eA]at h7;obtain⟨p,g,m,r,s,t⟩:=E.out.1.c;have ha:=A9 wr (.cells #[.int .i64 (W.A0 k).id,.string (W.A0 k).name,.string (W.A0 k).set,.int .i64 (W.A0 k).A5,.int .i64 (W.A0 k).time,.int .i64 (W.A0 k).rs,.int .i64 (W.A0 k).rb,.slice da (W.A0 k).dn dc] 43);have hy:=EH.new wr (.int .i64 (W.A0 k).id) (.string (W.A0 k).name) (.string (W.A0 k).set) (.int .i64 (W.A0 k).A5) (.int .i64 (W.A0 k).time) (.int .i64 (W.A0 k).rs) (.int .i64 (W.A0 k).rb) (.slice da (W.A0 k).dn dc) 43;have jF:(wr.alloc (.cells #[.int .i64 (W.A0 k).id,.string (W.A0 k).name,.string (W.A0 k).set,.int .i64 (W.A0 k).A5,.int .i64 (W.A0 k).time,.int .i64 (W.A0 k).rs,.int .i64 (W.A0 k).rb,.slice da (W.A0 k).dn dc] 43)).heap.size=wr.heap.size+1:=World.size_alloc _ _;have HY:=Al hy;have HA:=Al ha;clear hy;go_wp2_with fail;clear d g0 h1 g1 h2 g2 h3 g3 h4 g4 h5 g5 h6 g6 h7 g7 p g m r s t;have cA:=Al (Hh.out.A1 HA.out);have aD:=A8 G (A8 E.out.2.2.2.2.1 HA.out);have bC:=Al (HD.out.A1 aD);have bA:=Al (E.out.1.A1 HA.out);have hV:wr.heap.size<wr.heap.size+1:=(by omega);generalize wr.alloc (.cells #[.int .i64 (W.A0 k).id,.string (W.A0 k).name,.string (W.A0 k).set,.int .i64 (W.A0 k).A5,.int .i64 (W.A0 k).time,.int .i64 (W.A0 k).rs,.int .i64 (W.A0 k).rb,.slice da (W.A0 k).dn dc] 43)=W1 at HY HA cA aD bC bA jF ⊢;obtain⟨p,g,m,r,s,t⟩:=bA.out.c;obtain⟨⟨y0,-⟩,⟨y1,-⟩,⟨y2,-⟩,⟨y3,-⟩,⟨y4,-⟩,⟨y5,-⟩,⟨y6,-⟩,⟨y7,-⟩⟩:=HY.out;obtain⟨⟨d,g0⟩,⟨h1,g1⟩,⟨h2,g2⟩,⟨h3,g3⟩,⟨h4,g4⟩,⟨h5,g5⟩,⟨h6,g6⟩,⟨h7,g7⟩⟩:=cA.out.DX k H;rw[if_neg (by omega),eA]at h7;have e1:X≠O:=kH (by omega);have oK:=e1.symm;have e2:wr.heap.size≠O:=(by omega);have pK:=e2.symm;go_region_held3 (fun w'=>w'.cell? ⟨X,5,none⟩=some (.slice (some ⟨O,0,none⟩) W.pn cZ)/\w'.cell? ⟨wr.heap.size,7,none⟩=some (.slice da (W.A0 k).dn dc)) (go_keep)
         (first
           | (go_at_call 37
              refine(Ya _ (W.A0 k).dn lo hi (W.A0 k).ds (W.A0 k).db _ (bC.out.A1 (Below.refl _ _).drew) (mG.out k H)).mono ?_;rintro e w2 ⟨⟨nv,nb,rfl,oA,tC,vC⟩,dA⟩;have o:=Cs dA;obtain⟨_,na,nc,rfl,_⟩:=id tC;obtain⟨z0,z1,z2,z3,z4,z5⟩:=(bA.out.A1 o).c;obtain⟨⟨v0,-⟩,⟨v1,-⟩,⟨v2,-⟩,⟨v3,-⟩,⟨v4,-⟩,⟨v5,-⟩,⟨v6,-⟩,⟨v7,-⟩⟩:=HY.out.A1 o;obtain⟨⟨p0,aM⟩,⟨p1,bM⟩,⟨p2,cM⟩,⟨p3,dM⟩,⟨p4,eM⟩,⟨p5,fM⟩,⟨p6,rN⟩,⟨p7,tN⟩⟩:=(cA.out.A1 o).DX k H;rw[if_neg (by omega),eA]at p7))
        have eL:=o.size;have pE:=Al (cA.out.next H (by omega) o tC (fun d=>by have:=vC d;have hd:W1.drew.heap.size=W1.heap.size:=rfl;omega));have I:=AC.put w2 O (k*8+7) (.slice na (W.A0 k).dn nc);have hB:=A8 HA.out o;have mE:=Al (E.out.2.2.2.1);have gA:=Al (E.out.2.2.2.2.2);have nE:=Al oA;clear oA;go_wp2;go_roundw
        case rel=>
         refine⟨k+1,_,_,by omega,by go_num,pE.out,(bA.out.A1 o).AD I (fun e=>(kH (by omega)) e),by simp only[World.size_setCell];omega,(E.out.2.2.1.A1 hB).AD I (fun q e=>by have:=(iA.out (by omega)).2;omega),(mE.out.A1 hB).AD I (fun q e=>⟨fun d e2=>by have:=(iA.out (by omega)).2.2 d;omega,by omega⟩) (Nat.le_refl _),(A8 E.out.2.2.2.2.1 hB).setCell (by show f.heap.size<=O;have:=(iA.out (by omega)).2;omega) _,(gA.out.1.A1 hB).set _ _,(gA.out.2.1.A1 hB).set _ _,fun j N=>((gA.out.2.2.1 j N).A1 hB).set _ _,fun j N=>?_⟩;by_cases e:j=k
         · subst e
           simp only[if_true];exact nE.out.set _ _
         · simp only[if_neg e]
           exact((gA.out.2.2.2 j (by omega)).A1 hB).set _ _
        case measure=>simp[intOf];omega
      · obtain rfl:k=W.pn:=by omega
        have rC:=E.out.2.2.2.2.1;have rG:=Al (HR.out.A1 rC);obtain⟨p,g,m,r,s,t⟩:=E.out.1.c;obtain⟨⟨r0,vN⟩,⟨r1,aO⟩,⟨r2,bO⟩,⟨r3,cO⟩,⟨r4,dO⟩,⟨r5,eO⟩⟩:=rG.out;go_wp2;have I:=AC.put6 wr (w.heap.size+1) (.slice J W.pool.n L) (.slice F W.pool.hn M) (.int .i64 W.time) (.int .i64 W.next) (.slice aS W.sn cS) (.slice aZ W.pn cZ);have gB:=rG.out.put (.slice J W.pool.n L) (.slice F W.pool.hn M) (.int .i64 W.time) (.int .i64 W.next) (.slice aS W.sn cS) (.slice aZ W.pn cZ);have aL:=(E.out.2.2.2.1.own nG.out.1 (fun d=>(dC.out d).1) nS (fun i hi=>(eC.out i hi).2));have bL:=(Hh.out.own nG.out.2 (fun d=>(iA.out d).1) nZ (fun i hi=>(fC.out i hi).2));have cL:=Hh.out.Bq;have oD:(put6 wr (w.heap.size+1) (.slice J W.pool.n L) (.slice F W.pool.hn M) (.int .i64 W.time) (.int .i64 W.next) (.slice aS W.sn cS) (.slice aZ W.pn cZ)).heap.size=wr.heap.size:=(by simp only[World.size_setCell]);have eN:=E.out.2.1;have zS:∀q,GM P kbS W.sn W.A2 q->h<=q/\q<wA.heap.size/\(q<wc.heap.size->0<W.sn/\q=P):=by
         rintro q (⟨d,rfl⟩ | ⟨i,hi,d,rfl⟩)
         · exact⟨(dC.out d).2,by have:=pH d;omega,fun _=>⟨d,rfl⟩⟩
         · have:=kK.out i hi d;exact⟨by omega,by omega,fun hx=>by omega⟩
        have zZ:∀q,Ic O kb W.pn W.A0 q->h<=q/\q<wr.heap.size/\(q<wA.heap.size->0<W.pn/\q=O):=by
         rintro q (⟨d,rfl⟩ | ⟨i,hi,d,rfl⟩)
         · exact⟨(iA.out d).2.1,by have:=aE d;omega,fun _=>⟨d,rfl⟩⟩
         · have:=cL i hi d;exact⟨by omega,by omega,fun hx=>by omega⟩
        refine bodyPost_ret (v:=.agg #[.slice J W.pool.n L,.slice F W.pool.hn M,.int .i64 W.time,.int .i64 W.next,.slice aS W.sn cS,.slice aZ W.pn cZ]) (by simp[results,Tryz.results55,go_sem,gB.1.1,gB.2.1.1,gB.2.2.1.1,gB.2.2.2.1.1,gB.2.2.2.2.1.1,gB.2.2.2.2.2.1]) rfl ⟨_,_,_,_,rfl,?_,?_⟩
        · refine⟨fun q=>l<=q/\q<h,fun q=>GM P kbS W.sn W.A2 q,fun q=>Ic O kb W.pn W.A0 q,⟨?_,?_,?_,?_,?_,?_⟩,?_⟩
          · exact(E.out.2.2.1.isIn (S:=fun q=>l<=q/\q<h) (fun k h1 h2=>⟨h1,h2⟩)).AD I (fun k hk e=>by omega)
          · exact GV.put6 ⟨P,kbS,kvS,aL,E.out.2.2.2.1.BY,fun q hq=>hq,E.out.2.2.2.2.2.1,E.out.2.2.2.2.2.2.2.1⟩ _ _ _ _ _ _ _ (fun e=>by have:=zS _ e;omega)
          · exact Ge.put6 ⟨O,kb,kv,bL,Hh.out.BY,fun q hq=>hq,E.out.2.2.2.2.2.2.1,E.out.2.2.2.2.2.2.2.2⟩ _ _ _ _ _ _ _ (fun e=>by have:=zZ _ e;omega)
          · exact fun k hk e=>by have:=zS k e;omega
          · exact fun k hk e=>by have:=zZ k e;omega
          · intro k hk e
            have h1:=zS k hk;have h2:=(zZ k e).2.2 h1.2.1;have h3:=h1.2.2 (by have:=aE h2.1;omega);have:=(iA.out h2.1).2.2 h3.1;omega
          · intro k hk
            rw[oD];rcases hk with hk | hk | hk
            · omega
            · have:=zS k hk;omega
            · have:=zZ k hk;omega
        · exact(A8 G rC).trans (I.A1 (B:=w.heap.size) (A8 G rC).size (fun k e=>by omega))
variable{n:Nat}
theorem Dw.nth{w:World}{bs:Nat}{kb:Nat->Nat}{kv:Nat->Value}{v:Value}{f:Nat->Ac}(h:Dw w bs kb kv v n f){k:Nat}(d:k<n):∃off c,v = .slice (some ⟨bs,off,none⟩) n c/\E9 w bs (off+k*6) (kb k) (kv k) (f k):=by
 obtain⟨_,a,c,hv,_,e⟩:=h;obtain⟨off,b,h⟩:=e (by omega);exact⟨off,c,by rw[hv,b],h k d⟩
def del{α : Type}(f:Nat->α)(k:Nat):Nat->α:=fun i=>if i<k then f i else f (i+1)
def EG(k j m:Nat):Nat:=if m<k then m else if m+1<j then m+1 else m
theorem TX{b:Nat}:∀(l:List Value) (o:Nat) (w:World),AC (fun j=>j=b) w (w.setCells b o l)
 | [],_,w=>AC.refl _ _
 | v :: l,o,w=>(AC.put w b o v).trans (TX l (o+1) _)
theorem YN{b:Nat}{x:Nat}{u:Value}:∀(l:List Value) (o:Nat) (w:World),AF w b x u->x<o->AF (w.setCells b o l) b x u
 | [],_,w,h,_=>h
 | v :: l,o,w,h,hx=>YN l (o+1) _ (h.other _ (Or.inr (by omega))) (by omega)
def EO(W:A4)(x:Int)(i:Nat):Prop:=i<W.pn/\(W.A0 i).A5=x/\(∀j,j<W.pn->j≠i->(W.A0 j).A5≠x)/\∀j,j<W.sn->(W.A2 j).A5≠x
def EP(W:A4)(x:Int)(i:Nat):Prop:=i<W.sn/\(W.A2 i).A5=x/\(∀j,j<W.sn->j≠i->(W.A2 j).A5≠x)/\∀j,j<W.pn->(W.A0 j).A5≠x
theorem MF{f:Nat->Int}{x:Int}:∀{n:Nat},Bd f x n=0->∀j,j<n->f j≠x
 | 0,_,j,hj=>absurd hj (Nat.not_lt_zero _)
 | n+1,h,j,hj=>by
  by_cases e:f n=x
  ·rw[Ny e]at h;omega
  ·rw[NZ e]at h;by_cases a:j=n
   ·rw[a];exact e
   ·exact MF h j (by omega)
variable{f:Nat->Int}{x:Int}
theorem Nx{i:Nat}(hi:i<n)(h:f i=x):1<=Bd f x n:=by
 rcases Nat.eq_zero_or_pos (Bd f x n)with a | a
 ·exact absurd h (MF a i hi)
 ·exact a
theorem QX{f:Nat->Int}{x:Int}:∀{n:Nat},Bd f x n=1->∃i,i<n/\f i=x/\∀j,j<n->j≠i->f j≠x
 | 0,h=>absurd h (by simp[Bd])
 | n+1,h=>by
  by_cases e:f n=x
  ·rw[Ny e]at h;exact⟨n,by omega,e,fun j g a=>MF (n:=n) (by omega) j (by omega)⟩
  ·rw[NZ e]at h;obtain⟨i,hi,c,d⟩:=QX h;refine⟨i,by omega,c,fun j g a=>?_⟩;by_cases b:j=n
   ·rw[b];exact e
   ·exact d j (by omega) a
variable{W:A4}
theorem PO(h:D4 W x=1):(∃i,EO W x i)\/∃i,EP W x i:=by
 unfold D4 at h;rcases Nat.eq_zero_or_pos (Bd (fun i=>(W.A2 i).A5) x W.sn)with a | a
 ·rw[a,Nat.zero_add]at h;obtain⟨i,hi,b,c⟩:=QX h;exact Or.inl ⟨i,hi,b,c,MF a⟩
 ·obtain⟨i,hi,b,c⟩:=QX (f:=fun i=>(W.A2 i).A5) (x:=x) (n:=W.sn) (by omega);exact Or.inr ⟨i,hi,b,c,MF (f:=fun i=>(W.A0 i).A5) (n:=W.pn) (by omega)⟩
theorem Vf(W:A4)(name:ByteArray){a:Nat}:∀{b:Nat},a<=b->ownN W name a<=ownN W name b
 | 0,h=>by cases (show a=0 from by omega);exact Nat.le_refl _
 | b+1,h=>by
  by_cases e:a=b+1
  ·rw[e];exact Nat.le_refl _
  ·have:=Vf W name (show a<=b by omega);by_cases c:(W.A0 b).set=name
   ·rw[Lt c];omega
   ·rw[NP c];exact this
variable{name:ByteArray}
theorem PV{a b:Nat}(h:a<b)(c:(W.A0 a).set=name):ownN W name a<ownN W name b:=by
 have:=Vf W name (show a+1<=b by omega);rw[Lt c]at this;omega
theorem Th{W:A4}{name:ByteArray}{start:Int}:∀{n:Nat} {e:Int},Steps W name start n e->∀m,m<n->∃x k,Steps W name start m x/\BB W x k/\(W.A0 k).set=name
 | 0,_,_,m,hm=>absurd hm (Nat.not_lt_zero _)
 | n+1,_,.next (x:=x) (k:=k) h hk hs,m,hm=>by
  by_cases e:m=n
  ·rw[e];exact⟨x,k,h,hk,hs⟩
  ·exact Th h m (by omega)
theorem Iz{W:A4}{name:ByteArray}{start:Int}(a:∀k,k<W.pn->(W.A0 k).A5<(W.A0 k).id):∀{n:Nat} {x:Int},Steps W name start n x->∀{m:Nat} {y:Int},Steps W name start m y->m<n->x<y
 | 0,_,_,m,_,_,hm=>absurd hm (Nat.not_lt_zero _)
 | n+1,_,.next (x:=x) (k:=k) h hk hs,m,y,hy,hm=>by
  have b:=a k hk.1;have c:=hk.2.1;by_cases e:m=n
  ·subst e;have:=Steps.det h hy;omega
  ·have:=Iz a h hy (by omega);omega
open Classical in
theorem Pc{start origin:Int}(r:∀k,k<W.pn->(W.A0 k).A5<(W.A0 k).id)(t:Ek W name start origin){k:Nat}(u:k<W.pn)(hs:(W.A0 k).set=name):∃m,Steps W name start m (W.A0 k).id:=by
 refine Classical.byContradiction fun f=>?_
 obtain⟨n,e,q,-,hn,-⟩:=t;have key:∀m,∃i,i<W.pn/\(W.A0 i).set=name/\(m<n->Steps W name start m (W.A0 i).id)/\(¬m<n->i=k):=fun m=>by
  by_cases p:m<n
  ·obtain⟨x,i,d,c,s⟩:=Th q m p;exact⟨i,c.1,s,fun _=>by rw[c.2.1];exact d,fun h=>absurd p h⟩
  ·exact⟨k,u,hs,fun h=>absurd h p,fun _=>rfl⟩
 have:=PW (n+1) (ownN W name W.pn) (fun m=>ownN W name (key m).choose) (fun i _=>PV (key i).choose_spec.1 (key i).choose_spec.2.1) (fun i j hi v e=>by
  have g:=(key i).choose_spec;have l:=(key j).choose_spec;have o:(key i).choose=(key j).choose:=by
   rcases Nat.lt_trichotomy (key i).choose (key j).choose with h | h | h
   ·have:=PV h g.2.1;omega
   ·exact h
   ·have:=PV h l.2.1;omega
  by_cases d:i<n
  ·by_cases c:j<n
   ·have a:=g.2.2.1 d;have b:=l.2.2.1 c;rw[o]at a;rcases Nat.lt_trichotomy i j with h | h | h
    ·have:=Iz r b a h;omega
    ·exact h
    ·have:=Iz r a b h;omega
   ·exact absurd ⟨i,by have a:=g.2.2.1 d;rw[o,l.2.2.2 c]at a;exact a⟩ f
  ·by_cases c:j<n
   ·exact absurd ⟨j,by have a:=l.2.2.1 c;rw[<-o,g.2.2.2 d]at a;exact a⟩ f
   ·omega)
 omega
theorem U3(b:Cf W)(h:BG W x):1<=D4 W x:=by
 obtain⟨k,a,rfl⟩:=h;obtain⟨i,hi,e⟩:=(b.AP.A0.2.1 k a).1;obtain⟨m,c⟩:=Pc (fun k a=>(b.AP.A0.2.1 k a).2.2.1) (b.lines i hi) a e.symm;unfold D4;generalize d:(W.A0 k).id=x at c;cases c with
 | zero=>
  have:=Nx (f:=fun i=>(W.A2 i).A5) hi rfl;omega
 | next h hk' hs'=>
  have:=Nx (f:=fun i=>(W.A0 i).A5) hk'.1 rfl;omega
def sdY(W:A4)(g:AT)(n:Nat)(f h:Nat->Int):List (Int×Int):=BE f h (AB W g.A5).time n
def sdO(W:A4)(g:AT)(n:Nat)(f h:Nat->Int):List (Int×Int):=BS f h (AB W g.A5).time n
def sdD(W:A4)(g:AT)(n:Nat)(f h:Nat->Int):List (Int×Int):=B3 g.dn g.ds g.db ++ sdO W g n f h
def Dj(W:A4)(g s:AT):AT:={s with A5:=g.A5,dn:=(sdD W g s.dn s.ds s.db).length,ds:=AI (sdD W g s.dn s.ds s.db),db:=AK (sdD W g s.dn s.ds s.db)}
def E8(W:A4)(g:AT)(s:Ac):Ac:={s with A5:=g.A5,dn:=(sdD W g s.dn s.ds s.db).length,ds:=AI (sdD W g s.dn s.ds s.db),db:=AK (sdD W g s.dn s.ds s.db)}
def E7(W:A4)(k i:Nat):Nat->AT:=fun j=>if j=i then Dj W (W.A0 k) (W.A0 i)else W.A0 j
def Fs(W:A4)(k i:Nat):Nat->Ac:=fun j=>if j=i then E8 W (W.A0 k) (W.A2 i)else W.A2 j
def Cz(W:A4)(k i:Nat):List (Int×Int):=sdY W (W.A0 k) (W.A0 i).dn (W.A0 i).ds (W.A0 i).db
def D2(W:A4)(k i:Nat):List (Int×Int):=sdY W (W.A0 k) (W.A2 i).dn (W.A2 i).ds (W.A2 i).db
def Gj(W:A4)(k i:Nat):A4:={W with pool:=Ak W.pool (Cz W k i),pn:=W.pn - 1,A0:=del (E7 W k i) k}
def Gk(W:A4)(k i:Nat):A4:={W with pool:=Ak W.pool (D2 W k i),A2:=Fs W k i,pn:=W.pn - 1,A0:=del W.A0 k}
theorem zDX{g:Nat->Int}{x:Int×Int}(h:x∈B3 n f g):∃j,j<n/\f j=x.1/\g j=x.2:=by
 unfold B3 at h;obtain⟨j,a,rfl⟩:=List.mem_map.1 h;exact⟨j,List.mem_range.1 a,rfl,rfl⟩
theorem M4(c:Ab W){i:Nat}(hi:i<memN W)(t:Int):C1 (A6 W i).dn (A6 W i).ds (A6 W i).db/\CK W.pool (BE (A6 W i).ds (A6 W i).db t (A6 W i).dn):=by
 have n:DV W i:=by
  by_cases r:i<W.pn
  ·exact c.dead i r
  ·have:=(c.A2 (i - W.pn) (by unfold memN at hi;omega)).2
   rwa [show W.pn+(i - W.pn)=i by omega]at this
 obtain⟨h,-,-,f⟩:=n;refine⟨h,?_⟩;have o:CK W.pool (B3 (A6 W i).dn (A6 W i).ds (A6 W i).db):=by
  refine⟨c.right,fun x s=>?_,?_⟩
  ·obtain⟨j,q,l,m⟩:=zDX s;have g:=FG.1 (f j q);rw[l,m]at g;unfold BN at g;have:=EY c.right (KK c.A0 (A6 W i).A5) (List.mem_filter.1 g).1;exact⟨this.1,this.2.2⟩
  ·unfold B3;rw[List.map_map];unfold List.Nodup;rw[List.pairwise_map];refine List.pairwise_iff_getElem.2 fun a b p k d=>?_
   rw[List.length_range]at p k;rw[List.getElem_range,List.getElem_range];exact fun e=>h.2.2 b k a d e
 exact o.sub (Qa _ _ _ _)
theorem Gq.all{a b:Prop}{m:Nat}{Q:Nat->Prop}{ei:Nat->Nat}(h:Gq W a b m Q ei none):∀j,j<m->Q j:=by
 rcases h with⟨_,e⟩ | ⟨_,_,e⟩ | ⟨_,_,_,k,d,_,_,e⟩ | ⟨_,_,_,c,_⟩
 ·cases e
 ·cases e
 ·cases e
 ·exact c
end
end Go.Proofs.YtnfjcaoclahfjaaGreatDoor
