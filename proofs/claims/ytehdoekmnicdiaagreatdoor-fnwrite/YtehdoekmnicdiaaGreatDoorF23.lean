/- A part of the proof. -/
import Derived.Test.YtehdoekmnicdiaaGreatDoorF22
set_option linter.unusedVariables false
set_option maxRecDepth 20000
set_option maxHeartbeats 4000000
namespace Go.Proofs.YtehdoekmnicdiaaGreatDoor
open Go.RowKit Go.Maps
theorem Rn(a:Option Addr)(n c:Nat)(xs:List Value)(w:World)(G:xs.length=n*6)(m:∀u∈xs,u.oneCell'=true)(hn:n<=1048576)
 (E:0<n->∃b off,a=some ⟨b,off,none⟩/\∀j u,xs[j]?=some u->w.cell? ⟨b,off+j,none⟩=some u) :
 Calls Tryz.prog 127 #[.slice a n c] w fun e w'=>∃o,e = .returned o/\w'.ownsRow w.heap.size 41 6 o n xs/\Below w.heap.size w w'/\(n=0->∃a,o = .slice a 0 0):=by
 have D:Hid (0<n->∃b off,a=some ⟨b,off,none⟩/\∀j u,xs[j]?=some u->w.cell? ⟨b,off+j,none⟩=some u):=E;have x:Hid (xs.length=n*6/\∀u∈xs,u.oneCell'=true):=⟨G,m⟩;clear E G m;have J:=fun w=>Lib.run_eql_slice_nil (P:=Tryz.prog) w 27 41 a n c 0 0 (by kernel_rfl)
 cases a with
 | none=>
  have A:n=0:=by
   by_cases h:0<n
   ·obtain⟨b,off,y,_⟩:=D.out h;simp at y
   ·omega
  subst A;have B:xs = []:=List.eq_nil_of_length_eq_zero (by simpa using x.out.1);subst B;go_enter Tryz.func127,Tryz.ntmps127;go_wp2;go_ret;exact⟨_,rfl,World.ownsRow_nil _ _ _ _,Below.refl _ _,fun _=>⟨_,rfl⟩⟩
 | some ad=>
  obtain⟨i0,hi,t⟩:=Option.map_eq_some_iff.1 zEH;simp only[Prod.mk.injEq]at t;obtain⟨H,hs,s⟩:=t;have v:Hid (Tryz.prog.info? 41=some i0/\i0.zero=some (.agg #[.string ⟨#[]⟩,.int .i64 0,.int .i64 0,.int .i64 0,.int .i64 0,.slice none 0 0])/\i0.size=6/\i0.bytes=72):=⟨hi,H,hs,s⟩;have d:Hid ((w.alloc (.cells #[] 41)).ownsRow w.heap.size 41 6 (.slice (some ⟨w.heap.size,0,none⟩) 0 0) 0 []):=World.ownsRow_made w #[] 0 (Nat.le_refl _) (Nat.zero_le _) (by simp);clear hi H hs s;go_enter Tryz.func127,Tryz.ntmps127;go_wp2_with (first
   | (at_builtin;refine Jx rfl _ _ 27 rfl w.heap.size 41 i0 (.agg #[.string ⟨#[]⟩,.int .i64 0,.int .i64 0,.int .i64 0,.int .i64 0,.slice none 0 0]) 6 72 (by kernel_rfl) v.out.1 v.out.2.1 v.out.2.2.1 v.out.2.2.2 rfl (by decide) _ _ _ rfl d.out (some ad) n c xs rfl x.out.1 x.out.2 ?c1 ?c3 ?c4 ?c5 ?_))
  case c1=>
   intro I;obtain⟨b,off,y,f⟩:=D.out I;exact⟨b,off,y,fun j u F=>(((Below.refl _ _).alloc (Nat.le_refl _) _).cell (AZ (f j u F))).trans (f j u F)⟩
  case c3=>unfold maxLen;omega
  case c4=>omega
  case c5=>simp
  intro o C i g l;have z:Below w.heap.size w C:=((Below.refl _ _).alloc (Nat.le_refl _) _).grown g (by simp) (fun q K=>by have:=d.out.lt q K;omega);have k:C.ownsRow w.heap.size 41 6 o n xs:=(by simpa using i);have p:Hid (C.ownsRow w.heap.size 41 6 o n xs):=k;have r:Hid (n=0->o = .slice (some ⟨w.heap.size,0,none⟩) 0 0):=l;clear i k g l;go_wp2;go_ret;exact⟨o,rfl,p.out,z,fun e=>⟨_,r.out e⟩⟩
theorem P6(a:Option Addr)(n c:Nat)(xs:List Value)(w:World)(G:xs.length=n*8)(m:∀u∈xs,u.oneCell'=true)(hn:n<=1048576)
 (E:0<n->∃b off,a=some ⟨b,off,none⟩/\∀j u,xs[j]?=some u->w.cell? ⟨b,off+j,none⟩=some u) :
 Calls Tryz.prog 128 #[.slice a n c] w fun e w'=>∃o,e = .returned o/\w'.ownsRow w.heap.size 83 8 o n xs/\Below w.heap.size w w'/\(n=0->∃a,o = .slice a 0 0):=by
 have D:Hid (0<n->∃b off,a=some ⟨b,off,none⟩/\∀j u,xs[j]?=some u->w.cell? ⟨b,off+j,none⟩=some u):=E;have x:Hid (xs.length=n*8/\∀u∈xs,u.oneCell'=true):=⟨G,m⟩;clear E G m;have J:=fun w=>Lib.run_eql_slice_nil (P:=Tryz.prog) w 28 83 a n c 0 0 (by kernel_rfl)
 cases a with
 | none=>
  have A:n=0:=by
   by_cases h:0<n
   ·obtain⟨b,off,y,_⟩:=D.out h;simp at y
   ·omega
  subst A;have B:xs = []:=List.eq_nil_of_length_eq_zero (by simpa using x.out.1);subst B;go_enter Tryz.func128,Tryz.ntmps128;go_wp2;go_ret;exact⟨_,rfl,World.ownsRow_nil _ _ _ _,Below.refl _ _,fun _=>⟨_,rfl⟩⟩
 | some ad=>
  obtain⟨i0,hi,t⟩:=Option.map_eq_some_iff.1 zAI;simp only[Prod.mk.injEq]at t;obtain⟨H,hs,s⟩:=t;have v:Hid (Tryz.prog.info? 83=some i0/\i0.zero=some (.agg #[.int .i64 0,.string ⟨#[]⟩,.string ⟨#[]⟩,.int .i64 0,.int .i64 0,.int .i64 0,.int .i64 0,.slice none 0 0])/\i0.size=8/\i0.bytes=96):=⟨hi,H,hs,s⟩;have d:Hid ((w.alloc (.cells #[] 83)).ownsRow w.heap.size 83 8 (.slice (some ⟨w.heap.size,0,none⟩) 0 0) 0 []):=World.ownsRow_made w #[] 0 (Nat.le_refl _) (Nat.zero_le _) (by simp);clear hi H hs s;go_enter Tryz.func128,Tryz.ntmps128;go_wp2_with (first
   | (at_builtin;refine Jx rfl _ _ 28 rfl w.heap.size 83 i0 (.agg #[.int .i64 0,.string ⟨#[]⟩,.string ⟨#[]⟩,.int .i64 0,.int .i64 0,.int .i64 0,.int .i64 0,.slice none 0 0]) 8 96 (by kernel_rfl) v.out.1 v.out.2.1 v.out.2.2.1 v.out.2.2.2 rfl (by decide) _ _ _ rfl d.out (some ad) n c xs rfl x.out.1 x.out.2 ?c1 ?c3 ?c4 ?c5 ?_))
  case c1=>
   intro I;obtain⟨b,off,y,f⟩:=D.out I;exact⟨b,off,y,fun j u F=>(((Below.refl _ _).alloc (Nat.le_refl _) _).cell (AZ (f j u F))).trans (f j u F)⟩
  case c3=>unfold maxLen;omega
  case c4=>omega
  case c5=>simp
  intro o C i g l;have z:Below w.heap.size w C:=((Below.refl _ _).alloc (Nat.le_refl _) _).grown g (by simp) (fun q K=>by have:=d.out.lt q K;omega);have k:C.ownsRow w.heap.size 83 8 o n xs:=(by simpa using i);have p:Hid (C.ownsRow w.heap.size 83 8 o n xs):=k;have r:Hid (n=0->o = .slice (some ⟨w.heap.size,0,none⟩) 0 0):=l;clear i k g l;go_wp2;go_ret;exact⟨o,rfl,p.out,z,fun e=>⟨_,r.out e⟩⟩
theorem ZW(v:Value)(n lo hi:Nat)(f g:Nat->Int)(w:World)(S:BI w lo hi v n f g)(hn:n<=1048576) :
 Calls Tryz.prog 129 #[v] w fun e w'=>(∃y x,e = .returned y/\CJ w' 38 2 y n/\Ca w' x y n f g/\(0<n->w.heap.size<=x/\x<w'.heap.size))/\Below w.heap.size w w':=by
 obtain⟨Q,a,c,rfl,X,L⟩:=S;have G:Hid (0<n->∃b off,a=some ⟨b,off,none⟩/\lo<=b/\b<hi/\∀i,i<n->w.cell? ⟨b,off+i*2,none⟩=some (.int .i64 (f i))/\w.cell? ⟨b,off+i*2+1,none⟩=some (.int .i64 (g i))):=L;have R:Hid (n<=maxLen):=Q;clear L Q;have V:=fun w=>Lib.run_eql_slice_nil (P:=Tryz.prog) w 39 38 a n c 0 0 (by kernel_rfl)
 cases a with
 | none=>
  have J:n=0:=by
   by_cases h:0<n
   ·obtain⟨b,off,r,_⟩:=G.out h;simp at r
   ·omega
  subst J;go_enter Tryz.func129,Tryz.ntmps129;go_wp2;go_ret;exact⟨⟨_,0,rfl,Or.inl ⟨rfl,_,rfl⟩,⟨Nat.zero_le _,none,0,rfl,Nat.le_refl _,fun h=>absurd h (Nat.lt_irrefl _)⟩,fun h=>absurd h (Nat.lt_irrefl _)⟩,Below.refl _ _⟩
 | some ad=>
  obtain⟨i0,hi,C⟩:=Option.map_eq_some_iff.1 Ls;simp only[Prod.mk.injEq]at C;obtain⟨O,hs,B⟩:=C;have t:∀(w':World),Below w.heap.size w w'->∀j u,(kc f g n)[j]?=some u->w'.cell? (ad.add j)=some u:=fun w' T j u F=>by
   by_cases A:0<n
   ·obtain⟨b,off,r,_,_,U⟩:=G.out A;simp only[Option.some.injEq]at r;subst r;have:=Uw U j u F;have l:(⟨b,off,none⟩:Addr).add j=⟨b,off+j,none⟩:=(by unfold Addr.add;split<;>simp_all);rw[l]at this ⊢;exact(T.cell (AZ this)).trans this
   ·obtain rfl:n=0:=(by omega);simp[kc]at F
  have z:Hid (∀(w':World),Below w.heap.size w w'->∀j u,(kc f g n)[j]?=some u->w'.cell? (ad.add j)=some u):=t;have E:Hid (Tryz.prog.info? 38=some i0/\i0.zero=some (.agg #[.int .i64 0,.int .i64 0])/\i0.size=2/\i0.bytes=16):=⟨hi,O,hs,B⟩;have p:(w.alloc (.cells #[] 38)).ownsRow w.heap.size 38 2 (.slice (some ⟨w.heap.size,0,none⟩) 0 0) 0 []:=World.ownsRow_made w #[] 0 (Nat.le_refl _) (Nat.zero_le _) (by simp);have k:Hid ((w.alloc (.cells #[] 38)).ownsRow w.heap.size 38 2 (.slice (some ⟨w.heap.size,0,none⟩) 0 0) 0 []):=p;clear hi O hs B t p;go_enter Tryz.func129,Tryz.ntmps129;go_wp2_with (first
   | (at_builtin;refine Jx rfl _ _ 39 rfl w.heap.size 38 i0 (.agg #[.int .i64 0,.int .i64 0]) 2 16 (by kernel_rfl) E.out.1 E.out.2.1 E.out.2.2.1 E.out.2.2.2 rfl (by decide) _ _ _ rfl k.out (some ad) n c (kc f g n) rfl (KK f g n) (Zy f g n) ?c1 ?c3 ?c4 ?c5 ?_))
  case c1=>
   intro A;obtain⟨b,off,r,_,_,_⟩:=G.out A;simp only[Option.some.injEq]at r;refine⟨b,off,by rw[r],fun j u F=>?_⟩;have:=z.out _ ((Below.refl _ _).alloc (Nat.le_refl _) (.cells #[] 38)) j u F;have l:(⟨b,off,none⟩:Addr).add j=⟨b,off+j,none⟩:=(by unfold Addr.add;split<;>simp_all);rw[r,l]at this;exact this
  case c3=>unfold maxLen;omega
  case c4=>omega
  case c5=>simp
  intro y D o m s;have I:Below w.heap.size w D:=((Below.refl _ _).alloc (Nat.le_refl _) _).grown m (by simp) (fun q W=>by have:=k.out.lt q W;omega);have d:D.ownsRow w.heap.size 38 2 y n (kc f g n):=(by simpa using o);obtain⟨x,N,M⟩:=Z8 R.out d;have H:Hid (CJ D 38 2 y n):=J9 d (fun A=>⟨_,s A⟩);have K:Hid (Ca D x y n f g/\(0<n->w.heap.size<=x/\x<D.heap.size)):=⟨N,M⟩;clear N M o d m s;go_wp2;go_ret;exact⟨⟨y,x,rfl,H.out,K.out.1,K.out.2⟩,I⟩
theorem zDE(v0 v1 v2 v3:Value)(lo hi:Nat)(W:A4)(w:World)(h:CE w lo hi v0 v1 v2 v3 W)(jF:An W.pool<=1048576)(dF:W.sn<=1048576)(jD:W.pn<=1048576)(cF:JX W):Calls Tryz.prog 60 #[Cn v0 v1 v2 v3 W] w (zo W w):=by
 obtain⟨a0,c0,a1,c1,a2,c2,a3,c3,rfl,rfl,rfl,rfl⟩:=h.form;have Hp:=AR h;obtain⟨jA,sE,gH⟩:=h.A1.values;obtain⟨Y,tE,iH⟩:=h.A2.values;have eC:=AR sE;have fC:=AR tE;have eD:=AR (show ∀i,i<W.sn->(jA i).oneCell'=true from fun i hi=>by obtain⟨-,a,c,e,-⟩:=(sE i hi).1;rw[e];rfl);have tB:=AR (show ∀i,i<W.pn->(Y i).oneCell'=true from fun i hi=>by obtain⟨-,a,c,e,-⟩:=(tE i hi).1;rw[e];rfl);have fD:=AR gH;have vB:=AR iH;have nG:=AR cF.1;have oG:=AR cF.2;have pG:=AR (show W.sn<=maxLen/\W.pn<=maxLen from⟨h.A1.1,h.A2.1⟩);clear h sE tE gH iH cF;have bI:∀A B:World,A=w.alloc (.cells #[.slice a0 W.pool.n c0,.slice a1 W.pool.hn c1,.int .i64 W.time,.int .i64 W.next,.slice a2 W.sn c2,.slice a3 W.pn c3] 30)->B=A.alloc (.cells #[.slice none 0 0,.slice none 0 0,.int .i64 0,.int .i64 0,.slice none 0 0,.slice none 0 0] 30)->As B w.heap.size (.slice a0 W.pool.n c0) (.slice a1 W.pool.hn c1) (.int .i64 W.time) (.int .i64 W.next) (.slice a2 W.sn c2) (.slice a3 W.pn c3)/\As B (w.heap.size+1) (.slice none 0 0) (.slice none 0 0) (.int .i64 0) (.int .i64 0) (.slice none 0 0) (.slice none 0 0)/\Below w.heap.size w B/\B.heap.size=w.heap.size+2:=by
  rintro A B ea eb;have F:=AC w (.cells #[.slice a0 W.pool.n c0,.slice a1 W.pool.hn c1,.int .i64 W.time,.int .i64 W.next,.slice a2 W.sn c2,.slice a3 W.pn c3] 30);have g:=As.new w (.slice a0 W.pool.n c0) (.slice a1 W.pool.hn c1) (.int .i64 W.time) (.int .i64 W.next) (.slice a2 W.sn c2) (.slice a3 W.pn c3) 30;have z1:A.heap.size=w.heap.size+1:=(by rw[ea];exact World.size_alloc _ _);rw[<-ea]at F g;have b2:=AC A (.cells #[.slice none 0 0,.slice none 0 0,.int .i64 0,.int .i64 0,.slice none 0 0,.slice none 0 0] 30);have m:=As.new A (.slice none 0 0) (.slice none 0 0) (.int .i64 0) (.int .i64 0) (.slice none 0 0) (.slice none 0 0) 30;have z2:B.heap.size=w.heap.size+2:=(by rw[eb,World.size_alloc,z1]);rw[<-eb,z1]at m;rw[<-eb]at b2;exact⟨g.A0 b2,m,A7 F b2,z2⟩
 obtain⟨hx,hr,G,oD⟩:=bI _ _ rfl rfl;have Z:=AR hx;have HR:=AR hr;have vG:=AR oD;clear bI hx hr oD;go_enter Tryz.func60,Tryz.ntmps60;go_upto_region 1 with fail;generalize (w.alloc (.cells #[.slice a0 W.pool.n c0,.slice a1 W.pool.hn c1,.int .i64 W.time,.int .i64 W.next,.slice a2 W.sn c2,.slice a3 W.pn c3] 30)).alloc (.cells #[.slice none 0 0,.slice none 0 0,.int .i64 0,.int .i64 0,.slice none 0 0,.slice none 0 0] 30)=f at Z HR vG G ⊢
 go_cut [3] (fun v wc=>∃(X:Nat) (J:Option Addr) (L:Nat) (F:Option Addr) (M:Nat) (aS:Option Addr) (cS:Nat) (aZ:Option Addr) (cZ:Nat) (l h P O:Nat),v = .pointer (some ⟨X,0,none⟩)/\As wc X (.slice J W.pool.n L) (.slice F W.pool.hn M) (.int .i64 W.time) (.int .i64 W.next) (.slice aS W.sn cS) (.slice aZ W.pn cZ)/\Bo wc l h (.slice J W.pool.n L) (.slice F W.pool.hn M) W.pool/\(0<W.sn->aS=some ⟨P,0,none⟩/\h<=P)/\(0<W.pn->aZ=some ⟨O,0,none⟩/\h<=O/\(0<W.sn->P<O))/\W.sn<=cS/\W.pn<=cZ/\DU wc P wc.heap.size W.sn 0 W.A1 (fun _=>0) jA jA/\DY wc O wc.heap.size W.pn 0 W.A2 (fun _=>0) Y Y/\(X<l\/h<=X)/\(0<W.sn->X≠P)/\(0<W.pn->X≠O)/\f.heap.size<=X/\f.heap.size<=l/\l<=h/\X<wc.heap.size/\h<=wc.heap.size/\CJ wc 41 6 (.slice aS W.sn cS) W.sn/\CJ wc 83 8 (.slice aZ W.pn cZ) W.pn/\Below f.heap.size f wc)
 case first=>
  obtain⟨p,g,m,r,s,t⟩:=Z.out.c;refine wp_region_held_drew (S:=(fun w'=>w'.cell? ⟨w.heap.size,0,none⟩=some (.slice a0 W.pool.n c0)/\w'.cell? ⟨w.heap.size,1,none⟩=some (.slice a1 W.pool.hn c1)/\w'.cell? ⟨w.heap.size,2,none⟩=some (.int .i64 W.time)/\w'.cell? ⟨w.heap.size,3,none⟩=some (.int .i64 W.next)/\w'.cell? ⟨w.heap.size,4,none⟩=some (.slice a2 W.sn c2)/\w'.cell? ⟨w.heap.size,5,none⟩=some (.slice a3 W.pn c3))) (by kernel_rfl) ?_ (fun hHeld=>?_)
  · (try dsimp only)
    go_keep
  have lB:Below f.heap.size f f.drew:=(Below.refl _ _).drew;clear p g m r s t;generalize f.drew=q0 at lB hHeld ⊢;refine tk 0 (h:=tk 1 (h:=tk 3 (h:=tk 4 (h:=tk 5 (h:=tk 6 (h:=tk 7 (h:=tk 8 (h:=tk 10 (h:=tk 11 (h:=?_))))))))));refine rd [2,14] (rc (fun K hK=>?_) (rc (fun K hK=>?_) .nil))
  · go_simp
    go_at_call 126;refine(P1 _ _ lo hi W.pool _ ((Hp.out.pool.A0 G).A0 lB) jF).mono ?_;rintro e q1 ⟨u0,u1,rfl,pF,gF⟩;obtain⟨J,L,F,M,rfl,rfl⟩:=pF.form;have zP:f.heap.size<=q0.heap.size/\q0.heap.size<=q1.heap.size:=⟨lB.size,gF.size⟩;have kC:Below f.heap.size f q1:=A7 lB gF;have y1:=gF.size;obtain⟨p,g,m,r,s,t⟩:=(Z.out.A0 kC).c
    (try go_wp2_with fail)
    refine hK.out _ _ (by(try dsimp only);go_keep) ?_;clear hK K hHeld;intro hHeld
    try simp only[Act.put,s1,s2,s3]
    clear p g m r s t;refine rd [9,14] (rc (fun K hK=>?_) (rc (fun K hK=>?_) .nil))
    · go_simp
      go_at_call 127;refine(Rn a2 W.sn c2 (G0 W.A1 jA W.sn) _ (OE _ _ _) (Ql _ _ _ eD.out) dF (fun d=>?_)).mono ?_
      · obtain⟨b,off,ha,hc⟩:=fD.out d
        exact⟨b,off,ha,fun j u N=>((A7 G kC).cell (AZ (hc j u N))).trans (hc j u N)⟩
      rintro e q2 ⟨v2,rfl,tH,nD,dI⟩;have dA:Below f.heap.size f q2:=A7 kC nD;obtain⟨P,C,D,rfl,nS,V,kJ⟩:=Rp tH q2.heap.size (Nat.le_refl _);have zS:q1.heap.size<=q2.heap.size:=nD.size;have lI:=J9 tH dI;have bJ:=pF.A0 nD;have y2:=nD.size;obtain⟨p,g,m,r,s,t⟩:=(Z.out.A0 dA).c
      (try go_wp2_with fail)
      refine hK.out _ _ (by(try dsimp only);go_keep) ?_;clear hK K hHeld;intro hHeld
      try simp only[Act.put,s1,s2,s3]
      clear p g m r s t;refine rd [12,14] (rc (fun K hK=>?_) (rc (fun K hK=>?_) .nil))
      · go_simp
        go_at_call 128;refine(P6 a3 W.pn c3 (FV W.A2 Y W.pn) _ (MQ _ _ _) (Ol _ _ _ tB.out) jD (fun d=>?_)).mono ?_
        · obtain⟨b,off,ha,hc⟩:=vB.out d
          exact⟨b,off,ha,fun j u N=>((A7 G dA).cell (AZ (hc j u N))).trans (hc j u N)⟩
        rintro e q3 ⟨v3,rfl,vH,mB,eI⟩;have eF:Below f.heap.size f q3:=A7 dA mB;obtain⟨O,x,y,rfl,nZ,U,bM⟩:=P8 vH q3.heap.size (Nat.le_refl _);have zZ:q2.heap.size<=q3.heap.size:=mB.size;have nL:=J9 vH eI;have pL:=bJ.A0 mB;have tL:=kJ.A0 mB;have lL:=lI.A0 mB;have y3:=mB.size;obtain⟨p,g,m,r,s,t⟩:=(Z.out.A0 eF).c
        (try go_wp2_with fail)
        refine hK.out _ _ (by(try dsimp only);go_keep) ?_;clear hK K hHeld;intro hHeld
        try simp only[Act.put,s1,s2,s3]
        clear p g m r s t;refine tk 13 (h:=?_);refine rd [14] (rc (fun K hK=>?_) .nil);go_simp;have sA:=AC q3 (.cells #[.slice none 0 0,.slice none 0 0,.int .i64 0,.int .i64 0,.slice none 0 0,.slice none 0 0] 30);have kD:Below f.heap.size f (q3.alloc (.cells #[.slice none 0 0,.slice none 0 0,.int .i64 0,.int .i64 0,.slice none 0 0,.slice none 0 0] 30)):=A7 eF sA;have rF:As (q3.alloc (.cells #[.slice none 0 0,.slice none 0 0,.int .i64 0,.int .i64 0,.slice none 0 0,.slice none 0 0] 30)) q3.heap.size (.slice none 0 0) (.slice none 0 0) (.int .i64 0) (.int .i64 0) (.slice none 0 0) (.slice none 0 0):=As.new _ _ _ _ _ _ _ _;have zV:f.heap.size<=q3.heap.size/\q3.heap.size+1=(q3.alloc (.cells #[.slice none 0 0,.slice none 0 0,.int .i64 0,.int .i64 0,.slice none 0 0,.slice none 0 0] 30)).heap.size:=⟨eF.size,(World.size_alloc _ _).symm⟩;have cJ:=pL.A0 sA;have lJ:=tL.A0 sA;have bK:=bM.A0 sA;have mI:=lL.A0 sA;have rI:=nL.A0 sA;obtain⟨p,g,m,r,s,t⟩:=(Z.out.A0 kD).c
        (try go_wp2_with fail)
        refine hK.out _ _ (by(try dsimp only);go_keep) ?_;clear hK K hHeld;intro hHeld
        try simp only[Act.put,s1,s2,s3]
        clear p g m r s t;generalize q3.alloc (.cells #[.slice none 0 0,.slice none 0 0,.int .i64 0,.int .i64 0,.slice none 0 0,.slice none 0 0] 30)=q4 at kD zV cJ lJ bK rF mI rI hHeld sA ⊢;refine rd [15] (rc (fun K hK=>?_) .nil);have I:=AE.put6 q4 (q3.heap.size) (.slice J W.pool.n L) (.slice F W.pool.hn M) (.int .i64 W.time) (.int .i64 W.next) (.slice C W.sn D) (.slice x W.pn y);have Q:Below f.heap.size f (put6 q4 (q3.heap.size) (.slice J W.pool.n L) (.slice F W.pool.hn M) (.int .i64 W.time) (.int .i64 W.next) (.slice C W.sn D) (.slice x W.pn y)):=kD.trans (I.A0 (B:=f.heap.size) kD.size (fun k e=>by omega));have kV:=rF.put (.slice J W.pool.n L) (.slice F W.pool.hn M) (.int .i64 W.time) (.int .i64 W.next) (.slice C W.sn D) (.slice x W.pn y);obtain⟨⟨y0,vF⟩,⟨y1,aG⟩,⟨y2,bG⟩,⟨y3,cG⟩,⟨y4,dG⟩,⟨y5,eG⟩⟩:=rF;obtain⟨p,g,m,r,s,t⟩:=(Z.out.A0 Q).c;go_simp
        (try go_wp2_with fail)
        refine hK.out _ _ (by(try dsimp only);go_keep) ?_;clear hK K hHeld;intro hHeld
        try simp only[Act.put,s1,s2,s3]
        clear p g m r s t;refine wpAnyH_done (by kernel_rfl) ?_ _;have z:(put6 q4 (q3.heap.size) (.slice J W.pool.n L) (.slice F W.pool.hn M) (.int .i64 W.time) (.int .i64 W.next) (.slice C W.sn D) (.slice x W.pn y)).heap.size=q4.heap.size:=(by simp only[World.size_setCell]);go_wp2_with fail
        go_meet
        case rel=>
         refine⟨_,_,_,_,_,_,_,_,_,_,_,P,O,rfl,kV,cJ.AD I (fun k e=>by omega),fun d=>⟨(V d).1,by have:=V d;omega⟩,fun d=>⟨(U d).1,by have:=U d;omega,fun h1=>by have:=U d;have:=V h1;omega⟩,nS,nZ,(lJ.turned0 I (fun q e d e2=>by have:=V d;omega)).weak (by rw[z];omega),(bK.turned0 I (fun q e d e2=>by have:=U d;omega)).weak (by rw[z];omega),by omega,fun d=>by have:=V d;omega,fun d=>by have:=U d;omega,by omega,by omega,by omega,by rw[z];omega,by rw[z];omega,((((((mI.set _ _).set _ _).set _ _).set _ _).set _ _).set _ _),((((((rI.set _ _).set _ _).set _ _).set _ _).set _ _).set _ _),Q⟩
      · go_simp
        have sC:=AC q2 (.cells #[.slice none 0 0,.slice none 0 0,.int .i64 0,.int .i64 0,.slice none 0 0,.slice none 0 0] 30);have lD:Below f.heap.size f (q2.alloc (.cells #[.slice none 0 0,.slice none 0 0,.int .i64 0,.int .i64 0,.slice none 0 0,.slice none 0 0] 30)):=A7 dA sC;have rJ:As (q2.alloc (.cells #[.slice none 0 0,.slice none 0 0,.int .i64 0,.int .i64 0,.slice none 0 0,.slice none 0 0] 30)) q2.heap.size (.slice none 0 0) (.slice none 0 0) (.int .i64 0) (.int .i64 0) (.slice none 0 0) (.slice none 0 0):=As.new _ _ _ _ _ _ _ _;have zV:f.heap.size<=q2.heap.size/\q2.heap.size+1=(q2.alloc (.cells #[.slice none 0 0,.slice none 0 0,.int .i64 0,.int .i64 0,.slice none 0 0,.slice none 0 0] 30)).heap.size:=⟨dA.size,(World.size_alloc _ _).symm⟩;have dJ:=bJ.A0 sC;have mJ:=kJ.A0 sC;have nI:=lI.A0 sC;obtain⟨p,g,m,r,s,t⟩:=(Z.out.A0 lD).c
        (try go_wp2_with fail)
        refine hK.out _ _ (by(try dsimp only);go_keep) ?_;clear hK K hHeld;intro hHeld
        try simp only[Act.put,s1,s2,s3]
        clear p g m r s t;generalize q2.alloc (.cells #[.slice none 0 0,.slice none 0 0,.int .i64 0,.int .i64 0,.slice none 0 0,.slice none 0 0] 30)=q6 at lD zV dJ mJ rJ nI hHeld sC ⊢;refine rd [12] (rc (fun K hK=>?_) .nil);go_simp;go_at_call 128;refine(P6 a3 W.pn c3 (FV W.A2 Y W.pn) _ (MQ _ _ _) (Ol _ _ _ tB.out) jD (fun d=>?_)).mono ?_
        · obtain⟨b,off,ha,hc⟩:=vB.out d
          exact⟨b,off,ha,fun j u N=>((A7 G lD).cell (AZ (hc j u N))).trans (hc j u N)⟩
        rintro e q7 ⟨v7,rfl,aI,tA,fI⟩;have fF:Below f.heap.size f q7:=A7 lD tA;obtain⟨O,x,y,rfl,nZ,U,cM⟩:=P8 aI q7.heap.size (Nat.le_refl _);have zZ:q6.heap.size<=q7.heap.size:=tA.size;have oL:=J9 aI fI;have rL:=dJ.A0 tA;have vL:=mJ.A0 tA;have sJ:=rJ.A0 tA;have mL:=nI.A0 tA;have y7:=tA.size;obtain⟨p,g,m,r,s,t⟩:=(Z.out.A0 fF).c
        (try go_wp2_with fail)
        refine hK.out _ _ (by(try dsimp only);go_keep) ?_;clear hK K hHeld;intro hHeld
        try simp only[Act.put,s1,s2,s3]
        clear p g m r s t;refine tk 13 (h:=?_);refine rd [15] (rc (fun K hK=>?_) .nil);have I:=AE.put6 q7 (q2.heap.size) (.slice J W.pool.n L) (.slice F W.pool.hn M) (.int .i64 W.time) (.int .i64 W.next) (.slice C W.sn D) (.slice x W.pn y);have Q:Below f.heap.size f (put6 q7 (q2.heap.size) (.slice J W.pool.n L) (.slice F W.pool.hn M) (.int .i64 W.time) (.int .i64 W.next) (.slice C W.sn D) (.slice x W.pn y)):=fF.trans (I.A0 (B:=f.heap.size) fF.size (fun k e=>by omega));have kV:=sJ.put (.slice J W.pool.n L) (.slice F W.pool.hn M) (.int .i64 W.time) (.int .i64 W.next) (.slice C W.sn D) (.slice x W.pn y);obtain⟨⟨y0,vF⟩,⟨y1,aG⟩,⟨y2,bG⟩,⟨y3,cG⟩,⟨y4,dG⟩,⟨y5,eG⟩⟩:=sJ;obtain⟨p,g,m,r,s,t⟩:=(Z.out.A0 Q).c;go_simp
        (try go_wp2_with fail)
        refine hK.out _ _ (by(try dsimp only);go_keep) ?_;clear hK K hHeld;intro hHeld
        try simp only[Act.put,s1,s2,s3]
        clear p g m r s t;refine wpAnyH_done (by kernel_rfl) ?_ _;have z:(put6 q7 (q2.heap.size) (.slice J W.pool.n L) (.slice F W.pool.hn M) (.int .i64 W.time) (.int .i64 W.next) (.slice C W.sn D) (.slice x W.pn y)).heap.size=q7.heap.size:=(by simp only[World.size_setCell]);go_wp2_with fail
        go_meet
        case rel=>
         refine⟨_,_,_,_,_,_,_,_,_,_,_,P,O,rfl,kV,rL.AD I (fun k e=>by omega),fun d=>⟨(V d).1,by have:=V d;omega⟩,fun d=>⟨(U d).1,by have:=U d;omega,fun h1=>by have:=U d;have:=V h1;omega⟩,nS,nZ,(vL.turned0 I (fun q e d e2=>by have:=V d;omega)).weak (by rw[z];omega),(cM.turned0 I (fun q e d e2=>by have:=U d;omega)).weak (by rw[z];omega),by omega,fun d=>by have:=V d;omega,fun d=>by have:=U d;omega,by omega,by omega,by omega,by rw[z];omega,by rw[z];omega,((((((mL.set _ _).set _ _).set _ _).set _ _).set _ _).set _ _),((((((oL.set _ _).set _ _).set _ _).set _ _).set _ _).set _ _),Q⟩
    · go_simp
      have iF:=AC q1 (.cells #[.slice none 0 0,.slice none 0 0,.int .i64 0,.int .i64 0,.slice none 0 0,.slice none 0 0] 30);have mD:Below f.heap.size f (q1.alloc (.cells #[.slice none 0 0,.slice none 0 0,.int .i64 0,.int .i64 0,.slice none 0 0,.slice none 0 0] 30)):=A7 kC iF;have tJ:As (q1.alloc (.cells #[.slice none 0 0,.slice none 0 0,.int .i64 0,.int .i64 0,.slice none 0 0,.slice none 0 0] 30)) q1.heap.size (.slice none 0 0) (.slice none 0 0) (.int .i64 0) (.int .i64 0) (.slice none 0 0) (.slice none 0 0):=As.new _ _ _ _ _ _ _ _;have zV:f.heap.size<=q1.heap.size/\q1.heap.size+1=(q1.alloc (.cells #[.slice none 0 0,.slice none 0 0,.int .i64 0,.int .i64 0,.slice none 0 0,.slice none 0 0] 30)).heap.size:=⟨kC.size,(World.size_alloc _ _).symm⟩;have eJ:=pF.A0 iF;obtain⟨p,g,m,r,s,t⟩:=(Z.out.A0 mD).c
      (try go_wp2_with fail)
      refine hK.out _ _ (by(try dsimp only);go_keep) ?_;clear hK K hHeld;intro hHeld
      try simp only[Act.put,s1,s2,s3]
      clear p g m r s t;generalize q1.alloc (.cells #[.slice none 0 0,.slice none 0 0,.int .i64 0,.int .i64 0,.slice none 0 0,.slice none 0 0] 30)=q9 at mD zV eJ tJ hHeld iF ⊢;refine rd [9] (rc (fun K hK=>?_) .nil);go_simp;go_at_call 127;refine(Rn a2 W.sn c2 (G0 W.A1 jA W.sn) _ (OE _ _ _) (Ql _ _ _ eD.out) dF (fun d=>?_)).mono ?_
      · obtain⟨b,off,ha,hc⟩:=fD.out d
        exact⟨b,off,ha,fun j u N=>((A7 G mD).cell (AZ (hc j u N))).trans (hc j u N)⟩
      rintro e sD ⟨sO,rfl,cE,mA,lF⟩;have lC:Below f.heap.size f sD:=A7 mD mA;obtain⟨P,C,D,rfl,nS,V,fJ⟩:=Rp cE sD.heap.size (Nat.le_refl _);have zS:q9.heap.size<=sD.heap.size:=mA.size;have gI:=J9 cE lF;have sI:=eJ.A0 mA;have nJ:=tJ.A0 mA;have eP:=mA.size;obtain⟨p,g,m,r,s,t⟩:=(Z.out.A0 lC).c
      (try go_wp2_with fail)
      refine hK.out _ _ (by(try dsimp only);go_keep) ?_;clear hK K hHeld;intro hHeld
      try simp only[Act.put,s1,s2,s3]
      clear p g m r s t;refine rd [12] (rc (fun K hK=>?_) .nil);go_simp;go_at_call 128;refine(P6 a3 W.pn c3 (FV W.A2 Y W.pn) _ (MQ _ _ _) (Ol _ _ _ tB.out) jD (fun d=>?_)).mono ?_
      · obtain⟨b,off,ha,hc⟩:=vB.out d
        exact⟨b,off,ha,fun j u N=>((A7 G lC).cell (AZ (hc j u N))).trans (hc j u N)⟩
      rintro e vA ⟨tO,rfl,dE,R,mF⟩;have mC:Below f.heap.size f vA:=A7 lC R;obtain⟨O,x,y,rfl,nZ,U,vJ⟩:=P8 dE vA.heap.size (Nat.le_refl _);have zZ:sD.heap.size<=vA.heap.size:=R.size;have oI:=J9 dE mF;have tI:=sI.A0 R;have gJ:=fJ.A0 R;have iE:=nJ.A0 R;have iI:=gI.A0 R;have fP:=R.size;obtain⟨p,g,m,r,s,t⟩:=(Z.out.A0 mC).c
      (try go_wp2_with fail)
      refine hK.out _ _ (by(try dsimp only);go_keep) ?_;clear hK K hHeld;intro hHeld
      try simp only[Act.put,s1,s2,s3]
      clear p g m r s t;refine tk 13 (h:=?_);refine rd [15] (rc (fun K hK=>?_) .nil);have I:=AE.put6 vA (q1.heap.size) (.slice J W.pool.n L) (.slice F W.pool.hn M) (.int .i64 W.time) (.int .i64 W.next) (.slice C W.sn D) (.slice x W.pn y);have Q:Below f.heap.size f (put6 vA (q1.heap.size) (.slice J W.pool.n L) (.slice F W.pool.hn M) (.int .i64 W.time) (.int .i64 W.next) (.slice C W.sn D) (.slice x W.pn y)):=mC.trans (I.A0 (B:=f.heap.size) mC.size (fun k e=>by omega));have kV:=iE.put (.slice J W.pool.n L) (.slice F W.pool.hn M) (.int .i64 W.time) (.int .i64 W.next) (.slice C W.sn D) (.slice x W.pn y);obtain⟨⟨y0,vF⟩,⟨y1,aG⟩,⟨y2,bG⟩,⟨y3,cG⟩,⟨y4,dG⟩,⟨y5,eG⟩⟩:=iE;obtain⟨p,g,m,r,s,t⟩:=(Z.out.A0 Q).c;go_simp
      (try go_wp2_with fail)
      refine hK.out _ _ (by(try dsimp only);go_keep) ?_;clear hK K hHeld;intro hHeld
      try simp only[Act.put,s1,s2,s3]
      clear p g m r s t;refine wpAnyH_done (by kernel_rfl) ?_ _;have z:(put6 vA (q1.heap.size) (.slice J W.pool.n L) (.slice F W.pool.hn M) (.int .i64 W.time) (.int .i64 W.next) (.slice C W.sn D) (.slice x W.pn y)).heap.size=vA.heap.size:=(by simp only[World.size_setCell]);go_wp2_with fail
      go_meet
      case rel=>
       refine⟨_,_,_,_,_,_,_,_,_,_,_,P,O,rfl,kV,tI.AD I (fun k e=>by omega),fun d=>⟨(V d).1,by have:=V d;omega⟩,fun d=>⟨(U d).1,by have:=U d;omega,fun h1=>by have:=U d;have:=V h1;omega⟩,nS,nZ,(gJ.turned0 I (fun q e d e2=>by have:=V d;omega)).weak (by rw[z];omega),(vJ.turned0 I (fun q e d e2=>by have:=U d;omega)).weak (by rw[z];omega),by omega,fun d=>by have:=V d;omega,fun d=>by have:=U d;omega,by omega,by omega,by omega,by rw[z];omega,by rw[z];omega,((((((iI.set _ _).set _ _).set _ _).set _ _).set _ _).set _ _),((((((oI.set _ _).set _ _).set _ _).set _ _).set _ _).set _ _),Q⟩
  · go_simp
    have aE:=AC q0 (.cells #[.slice none 0 0,.slice none 0 0,.int .i64 0,.int .i64 0,.slice none 0 0,.slice none 0 0] 30);have lA:Below f.heap.size f (q0.alloc (.cells #[.slice none 0 0,.slice none 0 0,.int .i64 0,.int .i64 0,.slice none 0 0,.slice none 0 0] 30)):=A7 lB aE;have jE:As (q0.alloc (.cells #[.slice none 0 0,.slice none 0 0,.int .i64 0,.int .i64 0,.slice none 0 0,.slice none 0 0] 30)) q0.heap.size (.slice none 0 0) (.slice none 0 0) (.int .i64 0) (.int .i64 0) (.slice none 0 0) (.slice none 0 0):=As.new _ _ _ _ _ _ _ _;have zV:f.heap.size<=q0.heap.size/\q0.heap.size+1=(q0.alloc (.cells #[.slice none 0 0,.slice none 0 0,.int .i64 0,.int .i64 0,.slice none 0 0,.slice none 0 0] 30)).heap.size:=⟨lB.size,(World.size_alloc _ _).symm⟩;obtain⟨p,g,m,r,s,t⟩:=(Z.out.A0 lA).c
    (try go_wp2_with fail)
    refine hK.out _ _ (by(try dsimp only);go_keep) ?_;clear hK K hHeld;intro hHeld
    try simp only[Act.put,s1,s2,s3]
    clear p g m r s t;generalize q0.alloc (.cells #[.slice none 0 0,.slice none 0 0,.int .i64 0,.int .i64 0,.slice none 0 0,.slice none 0 0] 30)=q13 at lA zV jE hHeld aE ⊢;refine rd [2] (rc (fun K hK=>?_) .nil);go_simp;go_at_call 126;refine(P1 _ _ lo hi W.pool _ ((Hp.out.pool.A0 G).A0 lA) jF).mono ?_;rintro e sF ⟨u0,u1,rfl,gE,eB⟩;obtain⟨J,L,F,M,rfl,rfl⟩:=gE.form;have zP:f.heap.size<=q13.heap.size/\q13.heap.size<=sF.heap.size:=⟨lA.size,eB.size⟩;have nC:Below f.heap.size f sF:=A7 lA eB;have oJ:=jE.A0 eB;have iP:=eB.size;obtain⟨p,g,m,r,s,t⟩:=(Z.out.A0 nC).c
    (try go_wp2_with fail)
    refine hK.out _ _ (by(try dsimp only);go_keep) ?_;clear hK K hHeld;intro hHeld
    try simp only[Act.put,s1,s2,s3]
    clear p g m r s t;refine rd [9] (rc (fun K hK=>?_) .nil);go_simp;go_at_call 127;refine(Rn a2 W.sn c2 (G0 W.A1 jA W.sn) _ (OE _ _ _) (Ql _ _ _ eD.out) dF (fun d=>?_)).mono ?_
    · obtain⟨b,off,ha,hc⟩:=fD.out d
      exact⟨b,off,ha,fun j u N=>((A7 G nC).cell (AZ (hc j u N))).trans (hc j u N)⟩
    rintro e tD ⟨vO,rfl,eE,nA,nF⟩;have oC:Below f.heap.size f tD:=A7 nC nA;obtain⟨P,C,D,rfl,nS,V,iJ⟩:=Rp eE tD.heap.size (Nat.le_refl _);have zS:sF.heap.size<=tD.heap.size:=nA.size;have jI:=J9 eE nF;have vI:=gE.A0 nA;have pJ:=oJ.A0 nA;have jP:=nA.size;obtain⟨p,g,m,r,s,t⟩:=(Z.out.A0 oC).c
    (try go_wp2_with fail)
    refine hK.out _ _ (by(try dsimp only);go_keep) ?_;clear hK K hHeld;intro hHeld
    try simp only[Act.put,s1,s2,s3]
    clear p g m r s t;refine rd [12] (rc (fun K hK=>?_) .nil);go_simp;go_at_call 128;refine(P6 a3 W.pn c3 (FV W.A2 Y W.pn) _ (MQ _ _ _) (Ol _ _ _ tB.out) jD (fun d=>?_)).mono ?_
    · obtain⟨b,off,ha,hc⟩:=vB.out d
      exact⟨b,off,ha,fun j u N=>((A7 G oC).cell (AZ (hc j u N))).trans (hc j u N)⟩
    rintro e aB ⟨aP,rfl,fE,T,oF⟩;have pC:Below f.heap.size f aB:=A7 oC T;obtain⟨O,x,y,rfl,nZ,U,aK⟩:=P8 fE aB.heap.size (Nat.le_refl _);have zZ:tD.heap.size<=aB.heap.size:=T.size;have pI:=J9 fE oF;have aJ:=vI.A0 T;have jJ:=iJ.A0 T;have kE:=pJ.A0 T;have kI:=jI.A0 T;have lP:=T.size;obtain⟨p,g,m,r,s,t⟩:=(Z.out.A0 pC).c
    (try go_wp2_with fail)
    refine hK.out _ _ (by(try dsimp only);go_keep) ?_;clear hK K hHeld;intro hHeld
    try simp only[Act.put,s1,s2,s3]
    clear p g m r s t;refine tk 13 (h:=?_);refine rd [15] (rc (fun K hK=>?_) .nil);have I:=AE.put6 aB (q0.heap.size) (.slice J W.pool.n L) (.slice F W.pool.hn M) (.int .i64 W.time) (.int .i64 W.next) (.slice C W.sn D) (.slice x W.pn y);have Q:Below f.heap.size f (put6 aB (q0.heap.size) (.slice J W.pool.n L) (.slice F W.pool.hn M) (.int .i64 W.time) (.int .i64 W.next) (.slice C W.sn D) (.slice x W.pn y)):=pC.trans (I.A0 (B:=f.heap.size) pC.size (fun k e=>by omega));have kV:=kE.put (.slice J W.pool.n L) (.slice F W.pool.hn M) (.int .i64 W.time) (.int .i64 W.next) (.slice C W.sn D) (.slice x W.pn y);obtain⟨⟨y0,vF⟩,⟨y1,aG⟩,⟨y2,bG⟩,⟨y3,cG⟩,⟨y4,dG⟩,⟨y5,eG⟩⟩:=kE;obtain⟨p,g,m,r,s,t⟩:=(Z.out.A0 Q).c;go_simp
    (try go_wp2_with fail)
    refine hK.out _ _ (by(try dsimp only);go_keep) ?_;clear hK K hHeld;intro hHeld
    try simp only[Act.put,s1,s2,s3]
    clear p g m r s t;refine wpAnyH_done (by kernel_rfl) ?_ _;have z:(put6 aB (q0.heap.size) (.slice J W.pool.n L) (.slice F W.pool.hn M) (.int .i64 W.time) (.int .i64 W.next) (.slice C W.sn D) (.slice x W.pn y)).heap.size=aB.heap.size:=(by simp only[World.size_setCell]);go_wp2_with fail
    go_meet
    case rel=>
     refine⟨_,_,_,_,_,_,_,_,_,_,_,P,O,rfl,kV,aJ.AD I (fun k e=>by omega),fun d=>⟨(V d).1,by have:=V d;omega⟩,fun d=>⟨(U d).1,by have:=U d;omega,fun h1=>by have:=U d;have:=V h1;omega⟩,nS,nZ,(jJ.turned0 I (fun q e d e2=>by have:=V d;omega)).weak (by rw[z];omega),(aK.turned0 I (fun q e d e2=>by have:=U d;omega)).weak (by rw[z];omega),by omega,fun d=>by have:=V d;omega,fun d=>by have:=U d;omega,by omega,by omega,by omega,by rw[z];omega,by rw[z];omega,((((((kI.set _ _).set _ _).set _ _).set _ _).set _ _).set _ _),((((((pI.set _ _).set _ _).set _ _).set _ _).set _ _).set _ _),Q⟩
 case rest=>
  obtain⟨X,J,L,F,M,aS,cS,aZ,cZ,l,h,P,O,rfl,kV,kP,hS,hZ,nS,nZ,kS,kZ,oN,lH,mH,z1,z2,z3,z4,z5,rA,rB,nH⟩:=hcut;have mE:=AR kV;have rG:=AR kP;have dC:=AR hS;have iA:=AR hZ;have cN:=G.size;have lN:=vG.out;have HS:=AR kS;have HZ:=AR kZ;have sH:=kS.lt;have bE:=kZ.lt;clear kV kP hS hZ kS kZ Z jF eD tB fD vB;obtain⟨p,g,m,r,s,t⟩:=mE.out.c;go_wp2;clear p g m r s t
  go_loopw [4,5,25] (fun _ _ i wr=>∃(k:Nat) (kb:Nat->Nat) (kv:Nat->Value),k<=W.sn/\i = .int .i64 k/\DU wr P wc.heap.size W.sn k W.A1 kb kv jA/\As wr X (.slice J W.pool.n L) (.slice F W.pool.hn M) (.int .i64 W.time) (.int .i64 W.next) (.slice aS W.sn cS) (.slice aZ W.pn cZ)/\wc.heap.size<=wr.heap.size/\Bo wr l h (.slice J W.pool.n L) (.slice F W.pool.hn M) W.pool/\DY wr O wc.heap.size W.pn 0 W.A2 (fun _=>0) Y Y/\(Below f.heap.size f wr/\CJ wr 41 6 (.slice aS W.sn cS) W.sn/\CJ wr 83 8 (.slice aZ W.pn cZ) W.pn/\∀j,j<k->CJ wr 38 2 (kv j) (W.A1 j).dn)) (fun _ _ i _=>W.sn - (intOf i).toNat)
  case atStart=>exact⟨0,_,_,Nat.zero_le _,rfl,HS.out,mE.out,Nat.le_refl _,rG.out,HZ.out,nH,rA,rB,fun j N=>absurd N (Nat.not_lt_zero _)⟩
  case round=>
   obtain⟨k,kb,kv,hk,rfl,hh,hI⟩:=hrel;have Hh:=AR hh;have E:=AR hI;clear hh hI;by_cases H:k<W.sn
   · have rH:(k:Int)<(W.sn:Int):=by omega
     have cL:=E.out.2.1;have eL:=Hh.out.lt (by omega);obtain rfl:=(dC.out (by omega)).1;obtain⟨-,da,dc,eA,-⟩:=id (eC.out k H).1;have hD:=(eC.out k H).1;rw[eA]at hD;have HD:=AR hD;clear hD;obtain⟨⟨d,g0⟩,⟨h1,g1⟩,⟨h2,g2⟩,⟨h3,g3⟩,⟨h4,g4⟩,⟨h5,g5⟩⟩:=Hh.out.Dw k H;rw[if_neg (by omega),eA]at h5;obtain⟨p,g,m,r,s,t⟩:=E.out.1.c;have ha:=AC wr (.cells #[.string (W.A1 k).name,.int .i64 (W.A1 k).origin,.int .i64 (W.A1 k).A6,.int .i64 (W.A1 k).rs,.int .i64 (W.A1 k).rb,.slice da (W.A1 k).dn dc] 41);have hy:=As.new wr (.string (W.A1 k).name) (.int .i64 (W.A1 k).origin) (.int .i64 (W.A1 k).A6) (.int .i64 (W.A1 k).rs) (.int .i64 (W.A1 k).rb) (.slice da (W.A1 k).dn dc) 41;have kF:(wr.alloc (.cells #[.string (W.A1 k).name,.int .i64 (W.A1 k).origin,.int .i64 (W.A1 k).A6,.int .i64 (W.A1 k).rs,.int .i64 (W.A1 k).rb,.slice da (W.A1 k).dn dc] 41)).heap.size=wr.heap.size+1:=World.size_alloc _ _;have HY:=AR hy;have HA:=AR ha;clear hy;go_wp2_with fail;clear d g0 h1 g1 h2 g2 h3 g3 h4 g4 h5 g5 p g m r s t;have cA:=AR (Hh.out.A0 HA.out);have aD:=A7 G (A7 E.out.2.2.2.2.1 HA.out);have bC:=AR (HD.out.A0 aD);have bA:=AR (E.out.1.A0 HA.out);have hV:wr.heap.size<wr.heap.size+1:=(by omega);generalize wr.alloc (.cells #[.string (W.A1 k).name,.int .i64 (W.A1 k).origin,.int .i64 (W.A1 k).A6,.int .i64 (W.A1 k).rs,.int .i64 (W.A1 k).rb,.slice da (W.A1 k).dn dc] 41)=W1 at HY HA cA aD bC bA kF ⊢;obtain⟨p,g,m,r,s,t⟩:=bA.out.c;obtain⟨y0,y1,y2,y3,y4,y5⟩:=HY.out.c;obtain⟨⟨d,g0⟩,⟨h1,g1⟩,⟨h2,g2⟩,⟨h3,g3⟩,⟨h4,g4⟩,⟨h5,g5⟩⟩:=cA.out.Dw k H;rw[if_neg (by omega),eA]at h5;have e1:X≠P:=lH (by omega);have vK:=e1.symm;have e2:wr.heap.size≠P:=(by omega);have aL:=e2.symm;go_region_held3 (fun w'=>w'.cell? ⟨X,4,none⟩=some (.slice (some ⟨P,0,none⟩) W.sn cS)/\w'.cell? ⟨wr.heap.size,5,none⟩=some (.slice da (W.A1 k).dn dc)) (go_keep)
      (first
        | (go_at_call 129
           refine(ZW _ (W.A1 k).dn lo hi (W.A1 k).ds (W.A1 k).db _ (bC.out.A0 (Below.refl _ _).drew) (nG.out k H)).mono ?_;rintro e w2 ⟨⟨nv,nb,rfl,oA,tC,vC⟩,dA⟩;have o:=Cr dA;obtain⟨_,na,nc,rfl,_⟩:=id tC;obtain⟨z0,z1,z2,z3,z4,z5⟩:=(bA.out.A0 o).c;obtain⟨v0,v1,v2,v3,v4,v5⟩:=(HY.out.A0 o).c;obtain⟨⟨p0,fM⟩,⟨p1,gM⟩,⟨p2,iM⟩,⟨p3,jM⟩,⟨p4,kM⟩,⟨p5,lM⟩⟩:=(cA.out.A0 o).Dw k H;rw[if_neg (by omega),eA]at p5))
     have kL:=o.size;have rE:=AR (cA.out.next H (by omega) o tC (fun d=>by have:=vC d;have hd:W1.drew.heap.size=W1.heap.size:=rfl;omega));have I:=AE.put w2 P (k*6+5) (.slice na (W.A1 k).dn nc);have hB:=A7 HA.out o;have nE:=AR (E.out.2.2.2.1);have gA:=AR (E.out.2.2.2.2.2);have oE:=AR oA;clear oA;go_wp2;go_roundw
     case rel=>
      refine⟨k+1,_,_,by omega,by go_num,rE.out,(bA.out.A0 o).AD I (fun e=>(lH (by omega)) e),by simp only[World.size_setCell];omega,(E.out.2.2.1.A0 hB).AD I (fun q e=>by have:=(dC.out (by omega)).2;omega),(nE.out.A0 hB).AD I (fun q e=>⟨fun d e2=>by have:=(iA.out d).2.2 (by omega);omega,by omega⟩) (Nat.zero_le _),(A7 E.out.2.2.2.2.1 hB).setCell (by show f.heap.size<=P;have:=(dC.out (by omega)).2;omega) _,(gA.out.1.A0 hB).set _ _,(gA.out.2.1.A0 hB).set _ _,fun j N=>?_⟩;by_cases e:j=k
      · subst e
        simp only[if_true];exact oE.out.set _ _
      · simp only[if_neg e]
        exact((gA.out.2.2 j (by omega)).A0 hB).set _ _
     case measure=>simp[intOf];omega
   · obtain rfl:k=W.sn:=by omega
     generalize wr=wA at Hh E ⊢;generalize kb=kbS at Hh;generalize kv=kvS at Hh E;have dL:=E.out.2.1;have rK:=AR Hh.out;have pK:=AR (show ∀j,j<W.sn->0<(W.A1 j).dn->wc.heap.size<=kbS j/\kbS j<wA.heap.size from Hh.out.C8);have vD:=AR E.out.1;have sG:=AR E.out.2.2.1;have aH:=AR (E.out.2.2.2.1.weak dL);have oH:=E.out.2.2.2.2.1;have cC:=AR E.out.2.2.2.2.2;clear Hh E HZ HS mE rG nH;have HZ:=aH;clear aH;obtain⟨p,g,m,r,s,t⟩:=vD.out.c;go_wp2;clear p g m r s t
     go_loopw [6,7,42] (fun _ _ i wr=>∃(k:Nat) (kb:Nat->Nat) (kv:Nat->Value),k<=W.pn/\i = .int .i64 k/\DY wr O wA.heap.size W.pn k W.A2 kb kv Y/\As wr X (.slice J W.pool.n L) (.slice F W.pool.hn M) (.int .i64 W.time) (.int .i64 W.next) (.slice aS W.sn cS) (.slice aZ W.pn cZ)/\wA.heap.size<=wr.heap.size/\Bo wr l h (.slice J W.pool.n L) (.slice F W.pool.hn M) W.pool/\DU wr P wc.heap.size W.sn W.sn W.A1 kbS kvS jA/\(Below f.heap.size f wr/\CJ wr 41 6 (.slice aS W.sn cS) W.sn/\CJ wr 83 8 (.slice aZ W.pn cZ) W.pn/\(∀j,j<W.sn->CJ wr 38 2 (kvS j) (W.A1 j).dn)/\∀j,j<k->CJ wr 38 2 (kv j) (W.A2 j).dn)) (fun _ _ i _=>W.pn - (intOf i).toNat)
     case atStart=>exact⟨0,_,_,Nat.zero_le _,rfl,HZ.out,vD.out,Nat.le_refl _,sG.out,rK.out,oH,cC.out.1,cC.out.2.1,cC.out.2.2,fun j N=>absurd N (Nat.not_lt_zero _)⟩
     case round=>
      obtain⟨k,kb,kv,hk,rfl,hh,hI⟩:=hrel;have Hh:=AR hh;have E:=AR hI;clear hh hI;by_cases H:k<W.pn
      · have rH:(k:Int)<(W.pn:Int):=by omega
        have cL:=E.out.2.1;have eL:=Hh.out.lt (by omega);obtain rfl:=(iA.out (by omega)).1;obtain⟨-,da,dc,eA,-⟩:=id (fC.out k H).1;have hD:=(fC.out k H).1;rw[eA]at hD;have HD:=AR hD;clear hD;obtain⟨⟨d,g0⟩,⟨h1,g1⟩,⟨h2,g2⟩,⟨h3,g3⟩,⟨h4,g4⟩,⟨h5,g5⟩,⟨h6,g6⟩,⟨h7,g7⟩⟩:=Hh.out.Dw k H;rw[if_neg (by omega),eA]at h7;obtain⟨p,g,m,r,s,t⟩:=E.out.1.c;have ha:=AC wr (.cells #[.int .i64 (W.A2 k).id,.string (W.A2 k).name,.string (W.A2 k).set,.int .i64 (W.A2 k).A6,.int .i64 (W.A2 k).time,.int .i64 (W.A2 k).rs,.int .i64 (W.A2 k).rb,.slice da (W.A2 k).dn dc] 83);have hy:=K5.new wr (.int .i64 (W.A2 k).id) (.string (W.A2 k).name) (.string (W.A2 k).set) (.int .i64 (W.A2 k).A6) (.int .i64 (W.A2 k).time) (.int .i64 (W.A2 k).rs) (.int .i64 (W.A2 k).rb) (.slice da (W.A2 k).dn dc) 83;have kF:(wr.alloc (.cells #[.int .i64 (W.A2 k).id,.string (W.A2 k).name,.string (W.A2 k).set,.int .i64 (W.A2 k).A6,.int .i64 (W.A2 k).time,.int .i64 (W.A2 k).rs,.int .i64 (W.A2 k).rb,.slice da (W.A2 k).dn dc] 83)).heap.size=wr.heap.size+1:=World.size_alloc _ _;have HY:=AR hy;have HA:=AR ha;clear hy;go_wp2_with fail;clear d g0 h1 g1 h2 g2 h3 g3 h4 g4 h5 g5 h6 g6 h7 g7 p g m r s t;have cA:=AR (Hh.out.A0 HA.out);have aD:=A7 G (A7 E.out.2.2.2.2.1 HA.out);have bC:=AR (HD.out.A0 aD);have bA:=AR (E.out.1.A0 HA.out);have hV:wr.heap.size<wr.heap.size+1:=(by omega);generalize wr.alloc (.cells #[.int .i64 (W.A2 k).id,.string (W.A2 k).name,.string (W.A2 k).set,.int .i64 (W.A2 k).A6,.int .i64 (W.A2 k).time,.int .i64 (W.A2 k).rs,.int .i64 (W.A2 k).rb,.slice da (W.A2 k).dn dc] 83)=W1 at HY HA cA aD bC bA kF ⊢;obtain⟨p,g,m,r,s,t⟩:=bA.out.c;obtain⟨⟨y0,-⟩,⟨y1,-⟩,⟨y2,-⟩,⟨y3,-⟩,⟨y4,-⟩,⟨y5,-⟩,⟨y6,-⟩,⟨y7,-⟩⟩:=HY.out;obtain⟨⟨d,g0⟩,⟨h1,g1⟩,⟨h2,g2⟩,⟨h3,g3⟩,⟨h4,g4⟩,⟨h5,g5⟩,⟨h6,g6⟩,⟨h7,g7⟩⟩:=cA.out.Dw k H;rw[if_neg (by omega),eA]at h7;have e1:X≠O:=mH (by omega);have vK:=e1.symm;have e2:wr.heap.size≠O:=(by omega);have aL:=e2.symm;go_region_held3 (fun w'=>w'.cell? ⟨X,5,none⟩=some (.slice (some ⟨O,0,none⟩) W.pn cZ)/\w'.cell? ⟨wr.heap.size,7,none⟩=some (.slice da (W.A2 k).dn dc)) (go_keep)
         (first
           | (go_at_call 129
              refine(ZW _ (W.A2 k).dn lo hi (W.A2 k).ds (W.A2 k).db _ (bC.out.A0 (Below.refl _ _).drew) (oG.out k H)).mono ?_;rintro e w2 ⟨⟨nv,nb,rfl,oA,tC,vC⟩,dA⟩;have o:=Cr dA;obtain⟨_,na,nc,rfl,_⟩:=id tC;obtain⟨z0,z1,z2,z3,z4,z5⟩:=(bA.out.A0 o).c;obtain⟨⟨v0,-⟩,⟨v1,-⟩,⟨v2,-⟩,⟨v3,-⟩,⟨v4,-⟩,⟨v5,-⟩,⟨v6,-⟩,⟨v7,-⟩⟩:=HY.out.A0 o;obtain⟨⟨p0,fM⟩,⟨p1,gM⟩,⟨p2,iM⟩,⟨p3,jM⟩,⟨p4,kM⟩,⟨p5,lM⟩,⟨p6,dO⟩,⟨p7,fO⟩⟩:=(cA.out.A0 o).Dw k H;rw[if_neg (by omega),eA]at p7))
        have kL:=o.size;have rE:=AR (cA.out.next H (by omega) o tC (fun d=>by have:=vC d;have hd:W1.drew.heap.size=W1.heap.size:=rfl;omega));have I:=AE.put w2 O (k*8+7) (.slice na (W.A2 k).dn nc);have hB:=A7 HA.out o;have nE:=AR (E.out.2.2.2.1);have gA:=AR (E.out.2.2.2.2.2);have oE:=AR oA;clear oA;go_wp2;go_roundw
        case rel=>
         refine⟨k+1,_,_,by omega,by go_num,rE.out,(bA.out.A0 o).AD I (fun e=>(mH (by omega)) e),by simp only[World.size_setCell];omega,(E.out.2.2.1.A0 hB).AD I (fun q e=>by have:=(iA.out (by omega)).2;omega),(nE.out.A0 hB).AD I (fun q e=>⟨fun d e2=>by have:=(iA.out (by omega)).2.2 d;omega,by omega⟩) (Nat.le_refl _),(A7 E.out.2.2.2.2.1 hB).setCell (by show f.heap.size<=O;have:=(iA.out (by omega)).2;omega) _,(gA.out.1.A0 hB).set _ _,(gA.out.2.1.A0 hB).set _ _,fun j N=>((gA.out.2.2.1 j N).A0 hB).set _ _,fun j N=>?_⟩;by_cases e:j=k
         · subst e
           simp only[if_true];exact oE.out.set _ _
         · simp only[if_neg e]
           exact((gA.out.2.2.2 j (by omega)).A0 hB).set _ _
        case measure=>simp[intOf];omega
      · obtain rfl:k=W.pn:=by omega
        have rC:=E.out.2.2.2.2.1;have tG:=AR (HR.out.A0 rC);obtain⟨p,g,m,r,s,t⟩:=E.out.1.c;obtain⟨⟨r0,gO⟩,⟨r1,iO⟩,⟨r2,jO⟩,⟨r3,kO⟩,⟨r4,lO⟩,⟨r5,mO⟩⟩:=tG.out;go_wp2;have I:=AE.put6 wr (w.heap.size+1) (.slice J W.pool.n L) (.slice F W.pool.hn M) (.int .i64 W.time) (.int .i64 W.next) (.slice aS W.sn cS) (.slice aZ W.pn cZ);have gB:=tG.out.put (.slice J W.pool.n L) (.slice F W.pool.hn M) (.int .i64 W.time) (.int .i64 W.next) (.slice aS W.sn cS) (.slice aZ W.pn cZ);have fL:=(E.out.2.2.2.1.own pG.out.1 (fun d=>(dC.out d).1) nS (fun i hi=>(eC.out i hi).2));have gL:=(Hh.out.own pG.out.2 (fun d=>(iA.out d).1) nZ (fun i hi=>(fC.out i hi).2));have iL:=Hh.out.C8;have oD:(put6 wr (w.heap.size+1) (.slice J W.pool.n L) (.slice F W.pool.hn M) (.int .i64 W.time) (.int .i64 W.next) (.slice aS W.sn cS) (.slice aZ W.pn cZ)).heap.size=wr.heap.size:=(by simp only[World.size_setCell]);have kN:=E.out.2.1;have zS:∀q,Gu P kbS W.sn W.A1 q->h<=q/\q<wA.heap.size/\(q<wc.heap.size->0<W.sn/\q=P):=by
         rintro q (⟨d,rfl⟩ | ⟨i,hi,d,rfl⟩)
         · exact⟨(dC.out d).2,by have:=sH d;omega,fun _=>⟨d,rfl⟩⟩
         · have:=pK.out i hi d;exact⟨by omega,by omega,fun hx=>by omega⟩
        have zZ:∀q,KO O kb W.pn W.A2 q->h<=q/\q<wr.heap.size/\(q<wA.heap.size->0<W.pn/\q=O):=by
         rintro q (⟨d,rfl⟩ | ⟨i,hi,d,rfl⟩)
         · exact⟨(iA.out d).2.1,by have:=bE d;omega,fun _=>⟨d,rfl⟩⟩
         · have:=iL i hi d;exact⟨by omega,by omega,fun hx=>by omega⟩
        refine bodyPost_ret (v:=.agg #[.slice J W.pool.n L,.slice F W.pool.hn M,.int .i64 W.time,.int .i64 W.next,.slice aS W.sn cS,.slice aZ W.pn cZ]) (by simp[results,Tryz.results60,go_sem,gB.1.1,gB.2.1.1,gB.2.2.1.1,gB.2.2.2.1.1,gB.2.2.2.2.1.1,gB.2.2.2.2.2.1]) rfl ⟨_,_,_,_,rfl,?_,?_⟩
        · refine⟨fun q=>l<=q/\q<h,fun q=>Gu P kbS W.sn W.A1 q,fun q=>KO O kb W.pn W.A2 q,⟨?_,?_,?_,?_,?_,?_⟩,?_⟩
          · exact(E.out.2.2.1.isIn (S:=fun q=>l<=q/\q<h) (fun k h1 h2=>⟨h1,h2⟩)).AD I (fun k hk e=>by omega)
          · exact F6.put6 ⟨P,kbS,kvS,fL,E.out.2.2.2.1.C7,fun q hq=>hq,E.out.2.2.2.2.2.1,E.out.2.2.2.2.2.2.2.1⟩ _ _ _ _ _ _ _ (fun e=>by have:=zS _ e;omega)
          · exact FB.put6 ⟨O,kb,kv,gL,Hh.out.C7,fun q hq=>hq,E.out.2.2.2.2.2.2.1,E.out.2.2.2.2.2.2.2.2⟩ _ _ _ _ _ _ _ (fun e=>by have:=zZ _ e;omega)
          · exact fun k hk e=>by have:=zS k e;omega
          · exact fun k hk e=>by have:=zZ k e;omega
          · intro k hk e
            have h1:=zS k hk;have h2:=(zZ k e).2.2 h1.2.1;have h3:=h1.2.2 (by have:=bE h2.1;omega);have:=(iA.out h2.1).2.2 h3.1;omega
          · intro k hk
            rw[oD];rcases hk with hk | hk | hk
            · omega
            · have:=zS k hk;omega
            · have:=zZ k hk;omega
        · exact(A7 G rC).trans (I.A0 (B:=w.heap.size) (A7 G rC).size (fun k e=>by omega))
theorem zDJ{P:Program}{w w1:World}{c:Array Oper}{o:Oper}{a:Act}{K:Act->World->Prop}{Q:Exit->Act->World->Prop}{E:Prop}(d:o.guard=none)(s x:Operand)(t:TypeId)
 (g:o.op = .call {callee:=.builtin .append,args:=#[s,x],argTypes:=#[t,t]}) (vs f e:Value) (hs:a.eval s=vs) (j:a.eval x=f) (b:(Builtin.append_ #[t,t] o.type #[vs,f]).run P w = .ok e w1)
 (h:K (a.put o.dst e) w1):if Region.wanted o (yielded c a.tmps)=true then Oper.wp P o a w K Q else E:=by
 have i:Region.wanted o (yielded c a.tmps)=true:=by simp[Region.wanted,d]
 rw[if_pos i];unfold Oper.wp;simp[execOp,g,resolve,invoke,builtin,hs,j,b,Result.andThen];exact h
theorem EV.nth{w:World}{bs n:Nat}{kb:Nat->Nat}{kv:Nat->Value}{v:Value}{f:Nat->Ad}(h:EV w bs kb kv v n f){k:Nat}(d:k<n):∃off c,v = .slice (some ⟨bs,off,none⟩) n c/\Em w bs (off+k*6) (kb k) (kv k) (f k):=by
 obtain⟨_,a,c,hv,_,e⟩:=h;obtain⟨off,b,h⟩:=e (by omega);exact⟨off,c,by rw[hv,b],h k d⟩
def del{α : Type}(f:Nat->α)(k:Nat):Nat->α:=fun i=>if i<k then f i else f (i+1)
end Go.Proofs.YtehdoekmnicdiaaGreatDoor
