/- A world that the call owns, in blocks that a question tells (no law is proved here). -/
import Derived.Test.YtmgeglgboadfiaaGreatDoorV10
set_option linter.unusedVariables false
set_option maxRecDepth 20000
set_option maxHeartbeats 4000000
namespace Go.Proofs.YtmgeglgboadfiaaGreatDoor
open Go.RowKit
def zBY(w:World)(S:Nat->Prop)(v:Value)(n:Nat)(f:Nat->qD):Prop:=∃(bs:Nat) (kb:Nat->Nat) (kv:Nat->Value),yJ w bs kb kv v n f/\zBO kb n f/\∀k,zCN bs kb n f k->S k
def zAn(w:World)(S:Nat->Prop)(v:Value)(n:Nat)(f:Nat->zl):Prop:=∃(bs:Nat) (kb:Nat->Nat) (kv:Nat->Value),yT w bs kb kv v n f/\zBA kb n f/\∀k,zCI bs kb n f k->S k
theorem zBY.zRf{S T:Nat->Prop}{w w':World}{v:Value}{n:Nat}{f:Nat->qD}(h:zBY w S v n f)(t:zF T w w')(hs:∀k,S k->¬T k):zBY w' S v n f:=by
 obtain⟨bs,kb,kv,h1,h2,h3⟩:=h;exact⟨bs,kb,kv,h1.zRf t (fun k hk=>hs k (h3 k hk)),h2,h3⟩
theorem zAn.zRf{S T:Nat->Prop}{w w':World}{v:Value}{n:Nat}{f:Nat->zl}(h:zAn w S v n f)(t:zF T w w')(hs:∀k,S k->¬T k):zAn w' S v n f:=by
 obtain⟨bs,kb,kv,h1,h2,h3⟩:=h;exact⟨bs,kb,kv,h1.zRf t (fun k hk=>hs k (h3 k hk)),h2,h3⟩
theorem zBY.zRX{S:Nat->Prop}{w w':World}{v:Value}{n:Nat}{f:Nat->qD}(h:zBY w S v n f)(t:Below w.heap.size w w'):zBY w' S v n f:=by
 obtain⟨bs,kb,kv,h1,h2,h3⟩:=h;exact⟨bs,kb,kv,h1.zRX t,h2,h3⟩
theorem zAn.zRX{S:Nat->Prop}{w w':World}{v:Value}{n:Nat}{f:Nat->zl}(h:zAn w S v n f)(t:Below w.heap.size w w'):zAn w' S v n f:=by
 obtain⟨bs,kb,kv,h1,h2,h3⟩:=h;exact⟨bs,kb,kv,h1.zRX t,h2,h3⟩
theorem zBY.at{S:Nat->Prop}{w:World}{v:Value}{n:Nat}{f:Nat->qD}(h:zBY w S v n f){lo hi:Nat}(hs:∀k,S k->lo<=k/\k<hi):yW w lo hi v n f:=by
 obtain⟨bs,kb,kv,h1,h2,h3⟩:=h;exact h1.at (fun k hk=>hs k (h3 k hk))
theorem zAn.at{S:Nat->Prop}{w:World}{v:Value}{n:Nat}{f:Nat->zl}(h:zAn w S v n f){lo hi:Nat}(hs:∀k,S k->lo<=k/\k<hi):qu w lo hi v n f:=by
 obtain⟨bs,kb,kv,h1,h2,h3⟩:=h;exact h1.at (fun k hk=>hs k (h3 k hk))
theorem zBY.form{S:Nat->Prop}{w:World}{v:Value}{n:Nat}{f:Nat->qD}(h:zBY w S v n f):∃a c,v = .slice a n c/\n<=c:=by
 obtain⟨bs,kb,kv,⟨_,a,c,hv,hc,_⟩,h2,h3⟩:=h;exact⟨a,c,hv,hc⟩
theorem zAn.form{S:Nat->Prop}{w:World}{v:Value}{n:Nat}{f:Nat->zl}(h:zAn w S v n f):∃a c,v = .slice a n c/\n<=c:=by
 obtain⟨bs,kb,kv,⟨_,a,c,hv,hc,_⟩,h2,h3⟩:=h;exact⟨a,c,hv,hc⟩
theorem qW.form{w:World}{S:Nat->Prop}{v0 v1:Value}{p:zI}(h:qW w S v0 v1 p):∃a c a' c',v0 = .slice a p.n c/\v1 = .slice a' p.hn c':=by
 obtain⟨bs,hb,kb,kv,⟨_,a,c,h1,_⟩,h2,⟨_,a',c',h3,_,_⟩,h4,h5⟩:=h;exact⟨a,c,a',c',h1,h3⟩
structure zCV (w:World) (P Q R:Nat->Prop) (v0 v1 v2 v3:Value) (W:zH):Prop where
 zRd:qW w P v0 v1 W.zRd
 zRg:zBY w Q v2 W.sn W.zRg
 zRe:zAn w R v3 W.pn W.zRe
 pq:∀k,P k->¬Q k
 pr:∀k,P k->¬R k
 qr:∀k,Q k->¬R k
def qM(w:World)(lo hi:Nat)(v0 v1 v2 v3:Value)(W:zH):Prop:=∃P Q R,zCV w P Q R v0 v1 v2 v3 W/\∀k,P k\/Q k\/R k->lo<=k/\k<hi
theorem qM.at{w:World}{lo hi:Nat}{v0 v1 v2 v3:Value}{W:zH}(h:qM w lo hi v0 v1 v2 v3 W):zk w lo hi v0 v1 v2 v3 W:=by
 obtain⟨P,Q,R,h,hl⟩:=h;exact⟨h.zRd.at (fun k hk=>hl k (Or.inl hk)),h.zRg.at (fun k hk=>hl k (Or.inr (Or.inl hk))),h.zRe.at (fun k hk=>hl k (Or.inr (Or.inr hk)))⟩
theorem zCV.zRX{P Q R:Nat->Prop}{w w':World}{v0 v1 v2 v3:Value}{W:zH}(h:zCV w P Q R v0 v1 v2 v3 W)(t:Below w.heap.size w w'):zCV w' P Q R v0 v1 v2 v3 W:=
 ⟨h.zRd.zRX t,h.zRg.zRX t,h.zRe.zRX t,h.pq,h.pr,h.qr⟩
theorem qM.zRX{w w':World}{lo hi:Nat}{v0 v1 v2 v3:Value}{W:zH}(h:qM w lo hi v0 v1 v2 v3 W)(t:Below w.heap.size w w'):qM w' lo hi v0 v1 v2 v3 W:=by
 obtain⟨P,Q,R,h,hl⟩:=h;exact⟨P,Q,R,h.zRX t,hl⟩
theorem zCV.zRf{P Q R T:Nat->Prop}{w w':World}{v0 v1 v2 v3:Value}{W:zH}(h:zCV w P Q R v0 v1 v2 v3 W)(t:zF T w w')(hs:∀k,P k\/Q k\/R k->¬T k):zCV w' P Q R v0 v1 v2 v3 W:=
 ⟨h.zRd.zRf t (fun k hk=>hs k (Or.inl hk)),h.zRg.zRf t (fun k hk=>hs k (Or.inr (Or.inl hk))),h.zRe.zRf t (fun k hk=>hs k (Or.inr (Or.inr hk))),h.pq,h.pr,h.qr⟩
theorem qM.zRf{S:Nat->Prop}{w w':World}{lo hi:Nat}{v0 v1 v2 v3:Value}{W:zH}(h:qM w lo hi v0 v1 v2 v3 W)(t:zF S w w')(hs:∀k,S k->k<lo\/hi<=k):qM w' lo hi v0 v1 v2 v3 W:=by
 obtain⟨P,Q,R,h,hl⟩:=h;exact⟨P,Q,R,h.zRf t (fun k hk hx=>by have:=hl k hk;have:=hs k hx;omega),hl⟩
theorem qM.zRc{w:World}{lo hi lo' hi':Nat}{v0 v1 v2 v3:Value}{W:zH}(h:qM w lo hi v0 v1 v2 v3 W)(h1:lo'<=lo)(h2:hi<=hi'):qM w lo' hi' v0 v1 v2 v3 W:=by
 obtain⟨P,Q,R,h,hl⟩:=h;exact⟨P,Q,R,h,fun k hk=>by have:=hl k hk;omega⟩
theorem qM.form{w:World}{lo hi:Nat}{v0 v1 v2 v3:Value}{W:zH}(h:qM w lo hi v0 v1 v2 v3 W):∃a0 c0 a1 c1 a2 c2 a3 c3,v0 = .slice a0 W.zRd.n c0/\v1 = .slice a1 W.zRd.hn c1/\v2 = .slice a2 W.sn c2/\v3 = .slice a3 W.pn c3:=by
 obtain⟨P,Q,R,h,hl⟩:=h;obtain⟨a0,c0,a1,c1,e0,e1⟩:=h.zRd.form;obtain⟨a2,c2,e2,-⟩:=h.zRg.form;obtain⟨a3,c3,e3,-⟩:=h.zRe.form;exact⟨a0,c0,a1,c1,a2,c2,a3,c3,e0,e1,e2,e3⟩
theorem zk.form{w:World}{lo hi:Nat}{v0 v1 v2 v3:Value}{W:zH}(h:zk w lo hi v0 v1 v2 v3 W):∃a0 c0 a1 c1 a2 c2 a3 c3,v0 = .slice a0 W.zRd.n c0/\v1 = .slice a1 W.zRd.hn c1/\v2 = .slice a2 W.sn c2/\v3 = .slice a3 W.pn c3:=by
 obtain⟨a0,c0,a1,c1,e0,e1⟩:=h.zRd.form;obtain⟨-,a2,c2,e2,-⟩:=h.zRg;obtain⟨-,a3,c3,e3,-⟩:=h.zRe;exact⟨a0,c0,a1,c1,a2,c2,a3,c3,e0,e1,e2,e3⟩
def zPJ(W:zH)(w:World)(e:Ending)(w':World):Prop:=∃v0 v1 v2 v3,e = .returned (zz v0 v1 v2 v3 W)/\qM w' w.heap.size w'.heap.size v0 v1 v2 v3 W/\Below w.heap.size w w'
theorem yW.zRc{w:World}{lo hi lo' hi':Nat}{v:Value}{n:Nat}{f:Nat->qD}(h:yW w lo hi v n f)(h1:lo'<=lo)(h2:hi<=hi')(hp:∀{v n f g},zU w lo hi v n f g->zU w lo' hi' v n f g):yW w lo' hi' v n f:=by
 obtain⟨m,a,c,hv,hc,hx⟩:=h;refine⟨m,a,c,hv,hc,fun h0=>?_⟩;obtain⟨b,off,ha,l1,l2,h3⟩:=hx h0;refine⟨b,off,ha,by omega,by omega,fun i hi=>?_⟩;obtain⟨vd,hs⟩:=h3 i hi;exact⟨vd,hs.c0,hs.c1,hs.c2,hs.c3,hs.c4,hs.c5,hp hs.zRl,hs.zRn⟩
theorem qu.zRc{w:World}{lo hi lo' hi':Nat}{v:Value}{n:Nat}{f:Nat->zl}(h:qu w lo hi v n f)(h1:lo'<=lo)(h2:hi<=hi')(hp:∀{v n f g},zU w lo hi v n f g->zU w lo' hi' v n f g):qu w lo' hi' v n f:=by
 obtain⟨m,a,c,hv,hc,hx⟩:=h;refine⟨m,a,c,hv,hc,fun h0=>?_⟩;obtain⟨b,off,ha,l1,l2,h3⟩:=hx h0;refine⟨b,off,ha,by omega,by omega,fun i hi=>?_⟩;obtain⟨vd,hs⟩:=h3 i hi;exact⟨vd,hs.c0,hs.c1,hs.c2,hs.c3,hs.c4,hs.c5,hs.c6,hs.c7,hp hs.zRl,hs.zRn⟩
theorem qA.zRc{w:World}{lo hi lo' hi':Nat}{v:Value}{n:Nat}{f:Nat->zL}(h:qA w lo hi v n f)(h1:lo'<=lo)(h2:hi<=hi'):qA w lo' hi' v n f:=by
 obtain⟨m,a,c,hv,hc,hx⟩:=h;refine⟨m,a,c,hv,hc,fun h0=>?_⟩;obtain⟨b,off,ha,l1,l2,h3⟩:=hx h0;refine⟨b,off,ha,by omega,by omega,fun i hi=>?_⟩;obtain⟨x0,x1,x2,c0,c1,c2,e0,hp,e2,hs⟩:=h3 i hi;exact⟨x0,x1,x2,c0,c1,c2,e0,hp.zRc h1 h2,e2,hs⟩
theorem zk.zRc{w:World}{lo hi lo' hi':Nat}{v0 v1 v2 v3:Value}{W:zH}(h:zk w lo hi v0 v1 v2 v3 W)(h1:lo'<=lo)(h2:hi<=hi'):zk w lo' hi' v0 v1 v2 v3 W:=
 ⟨⟨h.zRd.1.zRc h1 h2,h.zRd.2.zRc h1 h2⟩,h.zRg.zRc h1 h2 (fun hp=>hp.zRc h1 h2),h.zRe.zRc h1 h2 (fun hp=>hp.zRc h1 h2)⟩
theorem zIu(v:Value)(n lo hi:Nat)(f g:Nat->Int)(w:World)(h1:zU w lo hi v n f g)(hn:n<=1048576) :
  Calls Tryz.prog 171 #[v] w fun e w'=>(∃v' kb,e = .returned v'/\zm w' kb v' n f g/\(0<n->w.heap.size<=kb/\kb<w'.heap.size))/\Below w.heap.size w w':=by
 obtain⟨m1,a,c,rfl,mc,g1⟩:=h1;have G1:Hid (0<n->∃b off,a=some ⟨b,off,none⟩/\lo<=b/\b<hi/\∀i,i<n->w.cell? ⟨b,off+i*2,none⟩=some (.int .i64 (f i))/\w.cell? ⟨b,off+i*2+1,none⟩=some (.int .i64 (g i))):=g1;have Hm:Hid (n<=maxLen):=m1;clear g1 m1;have oA:=fun w=>Lib.run_eql_slice_nil (P:=Tryz.prog) w 62 61 a n c 0 0 (by kernel_rfl)
 cases a with
 | none=>
  have mA:n=0:=by
   by_cases h:0<n
   ·obtain⟨b,off,ha,_⟩:=G1.out h;simp at ha
   ·omega
  subst mA;go_enter Tryz.func171,Tryz.ntmps171;go_wp2;go_ret;exact⟨⟨_,0,rfl,⟨Nat.zero_le _,none,0,rfl,Nat.le_refl _,fun h=>absurd h (Nat.lt_irrefl _)⟩,fun h=>absurd h (Nat.lt_irrefl _)⟩,Below.refl _ _⟩
 | some ad=>
  obtain⟨i0,hi,lA⟩:=Option.map_eq_some_iff.1 zCv;simp only[Prod.mk.injEq]at lA;obtain⟨hz,hs,kA⟩:=lA;have fA:∀(w':World),Below w.heap.size w w'->∀j u,(kc f g n)[j]?=some u->w'.cell? (ad.add j)=some u:=fun w' hb j u hj=>by
   by_cases h0:0<n
   ·obtain⟨b,off,ha,_,_,hc⟩:=G1.out h0;simp only[Option.some.injEq]at ha;subst ha;have:=zFy hc j u hj;have iA:(⟨b,off,none⟩:Addr).add j=⟨b,off+j,none⟩:=(by unfold Addr.add;split<;>simp_all);rw[iA]at this ⊢;exact(hb.cell (zD this)).trans this
   ·obtain rfl:n=0:=(by omega);simp[kc]at hj
  have gA:Hid (∀(w':World),Below w.heap.size w w'->∀j u,(kc f g n)[j]?=some u->w'.cell? (ad.add j)=some u):=fA;have HI:Hid (Tryz.prog.info? 61=some i0/\i0.zero=some (.agg #[.int .i64 0,.int .i64 0])/\i0.size=2/\i0.bytes=16):=⟨hi,hz,hs,kA⟩;have cA:(w.alloc (.cells #[] 61)).ownsRow w.heap.size 61 2 (.slice (some ⟨w.heap.size,0,none⟩) 0 0) 0 []:=World.ownsRow_made w #[] 0 (Nat.le_refl _) (Nat.zero_le _) (by simp);have eA:Hid ((w.alloc (.cells #[] 61)).ownsRow w.heap.size 61 2 (.slice (some ⟨w.heap.size,0,none⟩) 0 0) 0 []):=cA;clear hi hz hs kA fA cA;go_enter Tryz.func171,Tryz.ntmps171;go_wp2_with (first
   | (at_builtin;refine wpList_append_own _ rfl _ _ 62 rfl w.heap.size 61 i0 (.agg #[.int .i64 0,.int .i64 0]) 2 16 (by kernel_rfl) HI.out.1 HI.out.2.1 HI.out.2.2.1 HI.out.2.2.2 rfl (by decide) _ _ _ rfl eA.out ad n c (kc f g n) rfl (zEN f g n) ?c1 (zKR f g n) ?c3 ?c4 ?c5 ?_))
  case c1=>exact gA.out _ ((Below.refl _ _).alloc (Nat.le_refl _) _)
  case c3=>unfold maxLen;omega
  case c4=>omega
  case c5=>simp
  intro v' w1 bA dA jA;have nA:Below w.heap.size w w1:=((Below.refl _ _).alloc (Nat.le_refl _) _).grown dA (by simp) (fun q hq=>by have:=eA.out.lt q hq;omega);have aA:w1.ownsRow w.heap.size 61 2 v' n (kc f g n):=(by simpa using bA);obtain⟨kb,hp,hk⟩:=zCT Hm.out aA;have Hp:Hid (zm w1 kb v' n f g/\(0<n->w.heap.size<=kb/\kb<w1.heap.size)):=⟨hp,hk⟩;clear hp hk bA aA dA jA;go_wp2;go_ret;exact⟨⟨v',kb,rfl,Hp.out.1,Hp.out.2⟩,nA⟩
theorem zI2(v0 v1 v2:Value)(lo hi:Nat)(s:zL)(w:World)(h1:qG w lo hi v0 v1 v2 s)(hn:s.kn<=1048576) :
  Calls Tryz.prog 219 #[.agg #[v0,v1,v2]] w (zNX s w):=by
 obtain⟨rfl,p1,rfl,m1⟩:=h1;have q1:=p1;obtain⟨_,a,c,rfl,_⟩:=p1;go_enter Tryz.func219,Tryz.ntmps219;go_wp2_with fail;have eA:=zC w (.cells #[.int .i64 s.zRi,.slice a s.kn c,.string s.data] 127);have bA:=zA eA (zC _ (.cells #[.int .i64 0,.slice none 0 0,.string ⟨#[]⟩] 127));refine(zIu _ s.kn lo hi _ _ _ (q1.zRX bA) hn).mono ?_;rintro e w1 ⟨⟨kv,kb,rfl,hp,hk⟩,aA⟩;have HB:Hid (yR w1 w.heap.size (.int .i64 s.zRi) (.slice a s.kn c) (.string s.data)):=((yR.zRZ w _ _ _ _).zRX (zC _ _)).zRX aA;have HR:Hid (yR w1 (w.heap.size+1) (.int .i64 0) (.slice none 0 0) (.string ⟨#[]⟩)):=by
  have:=((yR.zRZ (w.alloc (.cells #[.int .i64 s.zRi,.slice a s.kn c,.string s.data] 127)) (.int .i64 0) (.slice none 0 0) (.string ⟨#[]⟩) 127).zRX aA);rw[World.size_alloc]at this;exact this
 have fA:=zA bA aA;rw[World.size_alloc,World.size_alloc]at hk;have Hp:Hid (zm w1 kb kv s.kn s.ks s.kb/\(0<s.kn->w.heap.size+1+1<=kb/\kb<w1.heap.size)):=⟨hp,hk⟩;obtain⟨_,ka,dA,rfl,_⟩:=hp;clear eA bA aA hk;obtain⟨⟨x0,x1⟩,⟨x2,x3⟩,⟨x4,x5⟩⟩:=HB.out;obtain⟨⟨y0,y1⟩,⟨y2,y3⟩,⟨y4,y5⟩⟩:=HR.out;go_wp2;have cA:=(HR.out.zRY (b':=w.heap.size) (o':=1) (.slice ka s.kn dA) (by omega)).put (.int .i64 s.zRi) (.slice ka s.kn dA) (.string s.data);refine bodyPost_ret (v:=.agg #[.int .i64 s.zRi,.slice ka s.kn dA,.string s.data]) (by simp[results,Tryz.results219,go_sem,cA.1.1,cA.2.1.1,cA.2.2.1]) rfl ⟨_,kb,rfl,?_,?_,?_⟩
 ·have hk:=Hp.out.2;refine(((Hp.out.1.zRf (zF.put _ _ _ _) ?_).zRf (zF.put _ _ _ _) ?_).zRf (zF.put _ _ _ _) ?_).zRf (zF.put _ _ _ _) ?_
  all_goals exact fun h0 e=>by have:=hk h0;omega
 ·intro h0;have:=Hp.out.2 h0;simp only[World.size_setCell];omega
 ·exact(((fA.setCell (by show _<=w.heap.size;omega) _).setCell (by show _<=w.heap.size+1;omega) _).setCell (by show _<=w.heap.size+1;omega) _).setCell (by show _<=w.heap.size+1;omega) _
theorem zLk(v0 v1 v2:Value)(lo hi:Nat)(s:zL)(w:World)(h1:qG w lo hi v0 v1 v2 s)(hn:s.kn<=1048576) :
  Calls Tryz.prog 146 #[.agg #[v0,v1,v2]] w (zNX s w):=by
 obtain⟨rfl,⟨m1,a,c,rfl,mc,g1⟩,rfl,m2⟩:=h1;have G1:Hid (0<s.kn->∃b off,a=some ⟨b,off,none⟩/\lo<=b/\b<hi/\∀i,i<s.kn->w.cell? ⟨b,off+i*2,none⟩=some (.int .i64 (s.ks i))/\w.cell? ⟨b,off+i*2+1,none⟩=some (.int .i64 (s.kb i))):=g1;have Hm:Hid (s.kn<=maxLen):=m1;clear g1 m1;obtain⟨i0,hi',vA⟩:=Option.map_eq_some_iff.1 zCv;simp only[Prod.mk.injEq]at vA;obtain⟨hz,hs,cB⟩:=vA;have HI:Hid (Tryz.prog.info? 61=some i0/\i0.zero=some (.agg #[.int .i64 0,.int .i64 0])/\i0.size=2/\i0.bytes=16):=⟨hi',hz,hs,cB⟩;clear hi' hz hs cB;have rA:=zC w (.cells #[.int .i64 s.zRi,.slice a s.kn c,.string s.data] 127);have tA:=zA rA (zC _ (.cells #[.int .i64 0,.slice none 0 0,.string ⟨#[]⟩] 127));have bB:=zA tA (zC _ (.cells #[] 61));have pA:Hid (Below w.heap.size w (((w.alloc (.cells #[.int .i64 s.zRi,.slice a s.kn c,.string s.data] 127)).alloc (.cells #[.int .i64 0,.slice none 0 0,.string ⟨#[]⟩] 127)).alloc (.cells #[] 61))):=bB;have cA:=World.ownsRow_made (base:=w.heap.size+1+1) (e:=61) (size:=2) ((w.alloc (.cells #[.int .i64 s.zRi,.slice a s.kn c,.string s.data] 127)).alloc (.cells #[.int .i64 0,.slice none 0 0,.string ⟨#[]⟩] 127)) #[] 0 (by simp) (Nat.zero_le _) (by simp);rw[World.size_alloc,World.size_alloc]at cA;have aA:Hid ((((w.alloc (.cells #[.int .i64 s.zRi,.slice a s.kn c,.string s.data] 127)).alloc (.cells #[.int .i64 0,.slice none 0 0,.string ⟨#[]⟩] 127)).alloc (.cells #[] 61)).ownsRow (w.heap.size+1+1) 61 2 (.slice (some ⟨w.heap.size+1+1,0,none⟩) 0 0) 0 []):=cA;have jA:Hid (yR (((w.alloc (.cells #[.int .i64 s.zRi,.slice a s.kn c,.string s.data] 127)).alloc (.cells #[.int .i64 0,.slice none 0 0,.string ⟨#[]⟩] 127)).alloc (.cells #[] 61)) w.heap.size (.int .i64 s.zRi) (.slice a s.kn c) (.string s.data)):=((yR.zRZ w _ _ _ _).zRX (zC _ _)).zRX (zC _ _);have iA:Hid (yR (((w.alloc (.cells #[.int .i64 s.zRi,.slice a s.kn c,.string s.data] 127)).alloc (.cells #[.int .i64 0,.slice none 0 0,.string ⟨#[]⟩] 127)).alloc (.cells #[] 61)) (w.heap.size+1) (.int .i64 0) (.slice none 0 0) (.string ⟨#[]⟩)):=by
  have:=((yR.zRZ (w.alloc (.cells #[.int .i64 s.zRi,.slice a s.kn c,.string s.data] 127)) (.int .i64 0) (.slice none 0 0) (.string ⟨#[]⟩) 127).zRX (zC _ (.cells #[] 61)));rw[World.size_alloc]at this;exact this
 clear rA tA bB cA;go_enter Tryz.func146,Tryz.ntmps146;cases a with
 | none=>
  have sA:s.kn=0:=by
   by_cases h:0<s.kn
   ·obtain⟨b,off,ha,_⟩:=G1.out h;simp at ha
   ·omega
  have gA:Hid (s.kn=0):=sA;clear sA;go_wp2_with (first
   | (at_builtin;refine zFq rfl _ _ 62 rfl (w.heap.size+1+1) 61 i0 2 c s.kn (by kernel_rfl) HI.out.1 (.slice (some ⟨w.heap.size+1+1,0,none⟩) 0 0) 0 [] rfl ?c0 gA.out rfl ?_))
  case c0=>exact aA.out
  refine bodyPost_ret (v:=.agg #[.int .i64 s.zRi,.slice (some ⟨w.heap.size+1+1,0,none⟩) 0 0,.string s.data]) (by simp[results,Tryz.results146,go_sem]) rfl ⟨_,0,rfl,?_,?_,?_⟩
  ·exact⟨Hm.out,_,0,by rw[gA.out],by rw[gA.out];exact Nat.le_refl _,fun h=>absurd h (by rw[gA.out];exact Nat.lt_irrefl _)⟩
  ·exact fun h=>absurd h (by rw[gA.out];exact Nat.lt_irrefl _)
  ·exact zA (zA (zC _ _) (zC _ _)) (zC _ _)
 | some ad=>
  have lA:Hid (∀(w':World),Below w.heap.size w w'->∀j u,(kc s.ks s.kb s.kn)[j]?=some u->w'.cell? (ad.add j)=some u):=fun w' hb j u hj=>by
   by_cases h0:0<s.kn
   ·obtain⟨b,off,ha,_,_,hc⟩:=G1.out h0;simp only[Option.some.injEq]at ha;subst ha;have:=zFy hc j u hj;have oA:(⟨b,off,none⟩:Addr).add j=⟨b,off+j,none⟩:=(by unfold Addr.add;split<;>simp_all);rw[oA]at this ⊢;exact(hb.cell (zD this)).trans this
   ·have fB:s.kn=0:=(by omega);rw[fB]at hj;simp[kc]at hj
  go_wp2_with (first
   | (at_builtin;refine wpList_append_own _ rfl _ _ 62 rfl (w.heap.size+1+1) 61 i0 (.agg #[.int .i64 0,.int .i64 0]) 2 16 (by kernel_rfl) HI.out.1 HI.out.2.1 HI.out.2.2.1 HI.out.2.2.2 rfl (by decide) _ 0 [] rfl ?c0 ad s.kn c (kc s.ks s.kb s.kn) rfl (zEN _ _ _) ?c1 (zKR _ _ _) ?c3 ?c4 ?c5 ?_))
  case c0=>exact aA.out
  case c1=>exact lA.out _ pA.out
  case c3=>unfold maxLen;omega
  case c4=>omega
  case c5=>simp
  intro v' w1 eA bA nA;have dA:w1.ownsRow (w.heap.size+1+1) 61 2 v' s.kn (kc s.ks s.kb s.kn):=(by simpa using eA);have eB:Below w.heap.size w w1:=pA.out.grown bA (by simp;omega) (fun q hq=>by have:=aA.out.lt q hq;omega);have fA:∀b,b<w.heap.size+1+1->∀o x,zW (((w.alloc (.cells #[.int .i64 s.zRi,.slice (some ad) s.kn c,.string s.data] 127)).alloc (.cells #[.int .i64 0,.slice none 0 0,.string ⟨#[]⟩] 127)).alloc (.cells #[] 61)) b o x->zW w1 b o x:=fun b hb o x hx=>by
   have e:=zMG bA aA.out hb hx.lt;exact⟨(World.cell?_of_block (a:=⟨b,o,none⟩) e).trans hx.1,(World.frozen?_of_block (a:=⟨b,o,none⟩) e).trans hx.2⟩
  have dB:Hid (yR w1 w.heap.size (.int .i64 s.zRi) (.slice (some ad) s.kn c) (.string s.data)):=⟨fA _ (by omega) _ _ jA.out.1,fA _ (by omega) _ _ jA.out.2.1,fA _ (by omega) _ _ jA.out.2.2⟩;have aB:Hid (yR w1 (w.heap.size+1) (.int .i64 0) (.slice none 0 0) (.string ⟨#[]⟩)):=⟨fA _ (by omega) _ _ iA.out.1,fA _ (by omega) _ _ iA.out.2.1,fA _ (by omega) _ _ iA.out.2.2⟩;obtain⟨kb,hp,hk⟩:=zCT Hm.out dA;have Hp:Hid (zm w1 kb v' s.kn s.ks s.kb/\(0<s.kn->w.heap.size+1+1<=kb/\kb<w1.heap.size)):=⟨hp,hk⟩;obtain⟨_,ka,mA,rfl,_⟩:=hp;clear hk eA dA bA nA fA jA iA aA pA;obtain⟨⟨x0,x1⟩,⟨x2,x3⟩,⟨x4,x5⟩⟩:=dB.out;obtain⟨⟨y0,y1⟩,⟨y2,y3⟩,⟨y4,y5⟩⟩:=aB.out;go_wp2;have kA:=(aB.out.zRY (b':=w.heap.size) (o':=1) (.slice ka s.kn mA) (by omega)).put (.int .i64 s.zRi) (.slice ka s.kn mA) (.string s.data);refine bodyPost_ret (v:=.agg #[.int .i64 s.zRi,.slice ka s.kn mA,.string s.data]) (by simp[results,Tryz.results146,go_sem,kA.1.1,kA.2.1.1,kA.2.2.1]) rfl ⟨_,kb,rfl,?_,?_,?_⟩
  ·have hk:=Hp.out.2;refine(((Hp.out.1.zRf (zF.put _ _ _ _) ?_).zRf (zF.put _ _ _ _) ?_).zRf (zF.put _ _ _ _) ?_).zRf (zF.put _ _ _ _) ?_
   all_goals exact fun h0 e=>by have:=hk h0;omega
  ·intro h0;have:=Hp.out.2 h0;simp only[World.size_setCell];omega
  ·exact(((eB.setCell (by show _<=w.heap.size;omega) _).setCell (by show _<=w.heap.size+1;omega) _).setCell (by show _<=w.heap.size+1;omega) _).setCell (by show _<=w.heap.size+1;omega) _
theorem zI8(a:Option Addr)(n c:Nat)(xs:List Value)(w:World)(hl:xs.length=n*1)(gA:∀u∈xs,u.oneCell'=true)(hn:n<=1048576)
    (hc:0<n->∃b off,a=some ⟨b,off,none⟩/\∀j u,xs[j]?=some u->w.cell? ⟨b,off+j,none⟩=some u) :
    Calls Tryz.prog 211 #[.slice a n c] w fun e w'=>∃v',e = .returned v'/\w'.ownsRow w.heap.size 2 1 v' n xs/\Below w.heap.size w w'/\(n=0->∃a,v' = .slice a 0 0):=by
  have Hc:Hid (0<n->∃b off,a=some ⟨b,off,none⟩/\∀j u,xs[j]?=some u->w.cell? ⟨b,off+j,none⟩=some u):=hc;have Hl:Hid (xs.length=n*1/\∀u∈xs,u.oneCell'=true):=⟨hl,gA⟩;clear hc hl gA;have pA:=fun w=>Lib.run_eql_slice_nil (P:=Tryz.prog) w 23 2 a n c 0 0 (by kernel_rfl)
  cases a with
  | none=>
    have mA:n=0:=by
      by_cases h:0<n
      · obtain⟨b,off,ha,_⟩:=Hc.out h;simp at ha
      · omega
    subst mA;have nA:xs = []:=List.eq_nil_of_length_eq_zero (by simpa using Hl.out.1);subst nA;go_enter Tryz.func211,Tryz.ntmps211;go_wp2;go_ret;exact⟨_,rfl,World.ownsRow_nil _ _ _ _,Below.refl _ _,fun _=>⟨_,rfl⟩⟩
  | some ad=>
    obtain⟨i0,hi,lA⟩:=Option.map_eq_some_iff.1 zDd;simp only[Prod.mk.injEq]at lA;obtain⟨hz,hs,kA⟩:=lA;have HI:Hid (Tryz.prog.info? 2=some i0/\i0.zero=some (.int .i64 0)/\i0.size=1/\i0.bytes=8):=⟨hi,hz,hs,kA⟩;have eA:Hid ((w.alloc (.cells #[] 2)).ownsRow w.heap.size 2 1 (.slice (some ⟨w.heap.size,0,none⟩) 0 0) 0 []):=World.ownsRow_made w #[] 0 (Nat.le_refl _) (Nat.zero_le _) (by simp);clear hi hz hs kA;go_enter Tryz.func211,Tryz.ntmps211;go_wp2_with (first
      | (at_builtin;refine qJ rfl _ _ 23 rfl w.heap.size 2 i0 (.int .i64 0) 1 8 (by kernel_rfl) HI.out.1 HI.out.2.1 HI.out.2.2.1 HI.out.2.2.2 rfl (by decide) _ _ _ rfl eA.out (some ad) n c xs rfl Hl.out.1 Hl.out.2 ?c1 ?c3 ?c4 ?c5 ?_))
    case c1=>
      intro h0;obtain⟨b,off,ha,dA⟩:=Hc.out h0;exact⟨b,off,ha,fun j u hj=>(((Below.refl _ _).alloc (Nat.le_refl _) _).cell (zD (dA j u hj))).trans (dA j u hj)⟩
    case c3=>unfold maxLen;omega
    case c4=>omega
    case c5=>simp
    intro v' w1 bA cA iA;have oA:Below w.heap.size w w1:=((Below.refl _ _).alloc (Nat.le_refl _) _).grown cA (by simp) (fun q hq=>by have:=eA.out.lt q hq;omega);have aA:w1.ownsRow w.heap.size 2 1 v' n xs:=(by simpa using bA);have fA:Hid (w1.ownsRow w.heap.size 2 1 v' n xs):=aA;have jA:Hid (n=0->v' = .slice (some ⟨w.heap.size,0,none⟩) 0 0):=iA;clear bA aA cA iA;go_wp2;go_ret;exact⟨v',rfl,fA.out,oA,fun e=>⟨_,jA.out e⟩⟩
theorem zIH(a:Option Addr)(n c:Nat)(xs:List Value)(w:World)(hl:xs.length=n*3)(gA:∀u∈xs,u.oneCell'=true)(hn:n<=1048576)
    (hc:0<n->∃b off,a=some ⟨b,off,none⟩/\∀j u,xs[j]?=some u->w.cell? ⟨b,off+j,none⟩=some u) :
    Calls Tryz.prog 218 #[.slice a n c] w fun e w'=>∃v',e = .returned v'/\w'.ownsRow w.heap.size 127 3 v' n xs/\Below w.heap.size w w'/\(n=0->∃a,v' = .slice a 0 0):=by
  have Hc:Hid (0<n->∃b off,a=some ⟨b,off,none⟩/\∀j u,xs[j]?=some u->w.cell? ⟨b,off+j,none⟩=some u):=hc;have Hl:Hid (xs.length=n*3/\∀u∈xs,u.oneCell'=true):=⟨hl,gA⟩;clear hc hl gA;have pA:=fun w=>Lib.run_eql_slice_nil (P:=Tryz.prog) w 31 127 a n c 0 0 (by kernel_rfl)
  cases a with
  | none=>
    have mA:n=0:=by
      by_cases h:0<n
      · obtain⟨b,off,ha,_⟩:=Hc.out h;simp at ha
      · omega
    subst mA;have nA:xs = []:=List.eq_nil_of_length_eq_zero (by simpa using Hl.out.1);subst nA;go_enter Tryz.func218,Tryz.ntmps218;go_wp2;go_ret;exact⟨_,rfl,World.ownsRow_nil _ _ _ _,Below.refl _ _,fun _=>⟨_,rfl⟩⟩
  | some ad=>
    obtain⟨i0,hi,lA⟩:=Option.map_eq_some_iff.1 zEz;simp only[Prod.mk.injEq]at lA;obtain⟨hz,hs,kA⟩:=lA;have HI:Hid (Tryz.prog.info? 127=some i0/\i0.zero=some (.agg #[.int .i64 0,.slice none 0 0,.string ⟨#[]⟩])/\i0.size=3/\i0.bytes=48):=⟨hi,hz,hs,kA⟩;have eA:Hid ((w.alloc (.cells #[] 127)).ownsRow w.heap.size 127 3 (.slice (some ⟨w.heap.size,0,none⟩) 0 0) 0 []):=World.ownsRow_made w #[] 0 (Nat.le_refl _) (Nat.zero_le _) (by simp);clear hi hz hs kA;go_enter Tryz.func218,Tryz.ntmps218;go_wp2_with (first
      | (at_builtin;refine qJ rfl _ _ 31 rfl w.heap.size 127 i0 (.agg #[.int .i64 0,.slice none 0 0,.string ⟨#[]⟩]) 3 48 (by kernel_rfl) HI.out.1 HI.out.2.1 HI.out.2.2.1 HI.out.2.2.2 rfl (by decide) _ _ _ rfl eA.out (some ad) n c xs rfl Hl.out.1 Hl.out.2 ?c1 ?c3 ?c4 ?c5 ?_))
    case c1=>
      intro h0;obtain⟨b,off,ha,dA⟩:=Hc.out h0;exact⟨b,off,ha,fun j u hj=>(((Below.refl _ _).alloc (Nat.le_refl _) _).cell (zD (dA j u hj))).trans (dA j u hj)⟩
    case c3=>unfold maxLen;omega
    case c4=>omega
    case c5=>simp
    intro v' w1 bA cA iA;have oA:Below w.heap.size w w1:=((Below.refl _ _).alloc (Nat.le_refl _) _).grown cA (by simp) (fun q hq=>by have:=eA.out.lt q hq;omega);have aA:w1.ownsRow w.heap.size 127 3 v' n xs:=(by simpa using bA);have fA:Hid (w1.ownsRow w.heap.size 127 3 v' n xs):=aA;have jA:Hid (n=0->v' = .slice (some ⟨w.heap.size,0,none⟩) 0 0):=iA;clear bA aA cA iA;go_wp2;go_ret;exact⟨v',rfl,fA.out,oA,fun e=>⟨_,jA.out e⟩⟩
theorem zIz(v0 v1:Value)(lo hi:Nat)(p:zI)(w:World)(h1:zu w lo hi v0 v1 p)(hn:qC p<=1048576):Calls Tryz.prog 82 #[.agg #[v0,v1]] w (zPi p w):=by
  have Hp:=zT h1;obtain⟨⟨m1,a,c,rfl,mc,g1⟩,⟨m2,a',c',rfl,sC,g2⟩⟩:=h1;have Hm:=zT (And.intro m1 m2);clear g1 g2 m1 m2;unfold qC at hn;have Hn:Hid (∀j,j<p.n->(p.s j).kn<=1048576):=fun j hj=>by have h2:=zFu p.s hj;unfold zAO at h2;omega
  have iD:p.n<=1048576:=(by omega);have eD:p.hn<=1048576:=(by omega);clear hn;obtain⟨i0,rB,cB⟩:=Option.map_eq_some_iff.1 zDd;simp only[Prod.mk.injEq]at cB;have HI:=zT (And.intro rB cB);obtain⟨i1,tB,kA⟩:=Option.map_eq_some_iff.1 zEz;simp only[Prod.mk.injEq]at kA;have tA:=zT (And.intro tB kA);clear rB cB tB kA;have lB:=zC w (.cells #[.slice a p.n c,.slice a' p.hn c'] 33);have oB:=zA lB (zC _ (.cells #[.slice none 0 0,.slice none 0 0] 33));have iB:=zT (zA oB (zC _ (.cells #[] 2)));have eA:=World.ownsRow_made (base:=w.heap.size+1+1) (e:=2) (size:=1) ((w.alloc (.cells #[.slice a p.n c,.slice a' p.hn c'] 33)).alloc (.cells #[.slice none 0 0,.slice none 0 0] 33)) #[] 0 (by simp) (Nat.zero_le _) (by simp);rw[World.size_alloc,World.size_alloc]at eA;have dA:=zT eA;have aC:=zT (((zc.zRZ w (.slice a p.n c) (.slice a' p.hn c') 33).zRX (zC _ (.cells #[.slice none 0 0,.slice none 0 0] 33))).zRX (zC _ (.cells #[] 2)));have bB:=(zc.zRZ (w.alloc (.cells #[.slice a p.n c,.slice a' p.hn c'] 33)) (.slice none 0 0) (.slice none 0 0) 33).zRX (zC _ (.cells #[] 2));rw[World.size_alloc]at bB;have mB:=zT bB;clear lB oB eA bB;go_enter Tryz.func82,Tryz.ntmps82;go_wp2_with (first
    | (at_builtin;refine qJ rfl _ _ 23 rfl (w.heap.size+1+1) 2 i0 (.int .i64 0) 1 8 (by kernel_rfl) HI.out.1 HI.out.2.1 HI.out.2.2.1 HI.out.2.2.2 rfl (by decide) (.slice (some ⟨w.heap.size+1+1,0,none⟩) 0 0) 0 [] rfl ?c0 a' p.hn c' (ic p.h p.hn) rfl (zBk _ _) (zOt _ _) ?c1 ?c3 ?c4 ?c5 ?_))
  case c0=>exact dA.out
  case c1=>exact zJ5 Hp.out.2 rfl iB.out
  case c3=>unfold maxLen;omega
  case c4=>omega
  case c5=>simp
  intro v' w1 iA cA jA;have fA:w1.ownsRow (w.heap.size+1+1) 2 1 v' p.hn (ic p.h p.hn):=(by simpa using iA);obtain⟨ha,hc,rfl,_⟩:=zY fA;have iC:Hid (p.hn=0->∃a,Value.slice ha p.hn hc = .slice a 0 0):=fun e=>⟨_,jA e⟩
  clear jA;have pA:=zT fA;have eC:=zT (aC.out.grown cA dA.out (by omega));have nC:=zT (mB.out.grown cA dA.out (by omega));have fC:Below w.heap.size w w1:=iB.out.grown cA (by simp;omega) (fun q hq=>by have:=dA.out.lt q hq;omega);have bD:w.heap.size+3<=w1.heap.size:=(by have:=cA.size;simp at this;omega);clear iA fA cA aC mB dA iB;have dB:=zT (And.intro ((eC.out.zRX (zC w1 (.cells #[.slice none 0 0,.slice ha p.hn hc] 33)))) (And.intro (zc.zRZ w1 (.slice none 0 0) (.slice ha p.hn hc) 33) (zC w1 (.cells #[.slice none 0 0,.slice ha p.hn hc] 33))));go_wp2
  go_loopw [4] (fun i wr=>∃(k:Nat) (va:Option Addr) (vc:Nat) (kb:Nat->Nat) (kv:Nat->Value),k<=p.n/\i = .int .i64 k/\zc wr w.heap.size (.slice a p.n c) (.slice a' p.hn c')/\zc wr w1.heap.size (.slice va k vc) (.slice ha p.hn hc)/\zE5 wr (w1.heap.size+1) k p.s kb kv (.slice va k vc)/\Below w1.heap.size w1 wr/\w1.heap.size+1<=wr.heap.size) (fun i _=>p.n - (intOf i).toNat)
  case atStart=>exact⟨0,none,0,_,_,Nat.zero_le _,rfl,dB.out.1,dB.out.2.1,zE5.nil _ _ _,dB.out.2.2,by simp⟩
  case round=>
    obtain⟨k,va,vc,kb,kv,hk,rfl,hx,ho,hl,sA,pC⟩:=hrel;have Hx:=zT hx;have Ho:=zT ho;have Hl:=zT hl;have pB:=zA fC sA;clear hx ho hl;by_cases aB:k<p.n
    · have lC:(k:Int)<(p.n:Int):=by omega
      obtain⟨b,off,ka,kc,rfl,hs⟩:=(Hp.out.1.zRX pB).cells aB;have Hs:=zT hs;obtain⟨q0,q1,q2,_⟩:=hs;obtain⟨⟨x0,x1⟩,⟨x2,x3⟩⟩:=Hx.out;obtain⟨⟨y0,y1⟩,⟨y2,y3⟩⟩:=Ho.out;have vC:b<w.heap.size:=by
        obtain⟨b',mC,_,_,he,gC⟩:=Hp.out.1.cells aB;simp only[Option.some.injEq,Addr.mk.injEq,and_true]at he;rw[he.1];exact zD gC.c0
      have n0:w1.heap.size≠w.heap.size:=(by omega);have n1:w1.heap.size≠b:=(by omega);go_wp2_with fail
      go_region_law
        (first
          | (refine step_append_lies _ rfl (.tmp 18) (.tmp 25) 31 rfl (w1.heap.size+1) 127 i1 (.agg #[.int .i64 0,.slice none 0 0,.string ⟨#[]⟩]) 3 48 (by kernel_rfl) tA.out.1 tA.out.2.1 tA.out.2.2.1 tA.out.2.2.2 rfl (by decide) (.slice va k vc) k (sc p.s kv k) (by simp[Act.eval]) ?_ ⟨w2.heap.size,0,none⟩ 1 1 [.int .i64 (p.s k).zRi,.slice na (p.s k).kn nc,.string (p.s k).data] (by simp[Act.eval]) rfl ?_ ?_ (by decide) ?_ ?_ ?_ _ rfl ?_
             exact((Hl.out.zRX aA).zRX (zC w2 _)).row;exact zQh _ _ _ _ _;exact zRL _ _ _ _ _
             (unfold maxLen;omega)
             omega
             (have:=aA.size;rw[World.size_alloc];omega)
             intro g rC w3 gA bA oA gB;have vA:=(Hl.out.zRX aA).zRX (zC w2 (.cells #[.int .i64 (p.s k).zRi,.slice na (p.s k).kn nc,.string (p.s k).data] 127));have t3:=zCL bA;have nA:∀b,b<w1.heap.size+1->¬(Value.slice va k vc).ownBlock=some b:=fun b hb e=>by have:=vA.row.lt b e;omega
             have vB:=((Hx.out.zRX aA).zRX (zC w2 (.cells #[.int .i64 (p.s k).zRi,.slice na (p.s k).kn nc,.string (p.s k).data] 127))).zRf t3 (nA _ (by omega));have kB:=((Ho.out.zRX aA).zRX (zC w2 (.cells #[.int .i64 (p.s k).zRi,.slice na (p.s k).kn nc,.string (p.s k).data] 127))).zRf t3 (nA _ (by omega));have lA:=(Hs.out.zRX aA).zRX (zC w2 (.cells #[.int .i64 (p.s k).zRi,.slice na (p.s k).kn nc,.string (p.s k).data] 127));have z5:=(t3.cell (zD lA.c0) (nA _ (by omega))).trans lA.c0;have z6:=(t3.cell (zD lA.c1) (nA _ (by omega))).trans lA.c1;have z7:=(t3.cell (zD lA.c2) (nA _ (by omega))).trans lA.c2;have cC:=zT vB;have nB:=zT kB;obtain⟨⟨z8,z9⟩,⟨aD,dD⟩⟩:=vB;obtain⟨⟨jD,tC⟩,⟨cD,gD⟩⟩:=kB;have oC:=zT (vA.next (eB.zRX (zC w2 _)) (zNI Hl.out pC (fun h0=>by have:=rA h0;rw[World.size_alloc];exact⟨this.1,by omega⟩)) Hs.out.slot.2.2.2 gA bA oA);have kC:Below w1.heap.size w1 w3:=(zA (zA sA aA) (zC w2 _)).grown bA (by have:=aA.size;rw[World.size_alloc];omega) (fun q hq=>by have:=vA.row.lt q hq;omega);have dC:w1.heap.size+1<=w3.heap.size:=(by have:=bA.size;have:=aA.size;rw[World.size_alloc]at *;omega);clear vA t3 nA lA gA bA oA gB eB rA)
          | (go_simp;go_at_call 146;refine(zLk _ _ _ lo hi (p.s k) _ ?_ (Hn.out k aB)).mono ?_;(first | exact Hs.out.slot | exact Hs.out.slot.zRX (Below.refl _ _).drew);rintro e w2 ⟨nv,nb,rfl,eB,rA,sB⟩;obtain⟨_,na,nc,rfl,_⟩:=id eB;have aA:Below wr.heap.size wr w2:=(by first | exact sB | exact zK sB);have fD:=((Ho.out.zRX aA).zRX (zC w2 (.cells #[.int .i64 (p.s k).zRi,.slice na (p.s k).kn nc,.string (p.s k).data] 127))).1.1;have z0:=(Hx.out.zRX aA).1.1;have z1:=(Ho.out.zRX aA).1.1;have z2:=(Hs.out.zRX aA).c0;have z3:=(Hs.out.zRX aA).c1;have z4:=(Hs.out.zRX aA).c2))
      all_goals
        go_wp2;go_roundw
        case rel=>exact⟨k+1,some ⟨g,0,none⟩,rC,_,_,by omega,by go_num,cC.out.zRY _ (by omega),⟨nB.out.1.set _,nB.out.2.zRY _ (Or.inr (by omega))⟩,oC.out.put (by omega) _,kC.setCell (Nat.le_refl _) _,by rw[World.size_setCell];exact dC⟩
        case measure=>simp[intOf];omega
    · obtain rfl:k=p.n:=by omega
      obtain⟨⟨x0,x1⟩,⟨x2,x3⟩⟩:=Hx.out;obtain⟨⟨y0,y1⟩,⟨y2,y3⟩⟩:=Ho.out;have bC:=zT (nC.out.zRX sA);obtain⟨⟨u0,u1⟩,⟨u2,u3⟩⟩:=bC.out;go_wp2;have jB:=bC.out.put (.slice va p.n vc) (.slice ha p.hn hc);have t:=(zF.put wr (w.heap.size+1) 0 (.slice va p.n vc)).trans (zF.put _ (w.heap.size+1) 1 (.slice ha p.hn hc));have hz:=t.size;obtain⟨bs,jC,mA⟩:=Hl.out.own Hm.out.1;have fB:=pA.out.kept (zBX sA none) (by cases hv:(Value.slice ha p.hn hc).ownBlock<;>simp);refine bodyPost_ret (v:=.agg #[.slice va p.n vc,.slice ha p.hn hc]) (by simp[results,Tryz.results82,go_sem,jB.1.1,jB.2.1]) rfl ⟨_,_,w1.heap.size+1,bs,kb,kv,rfl,?_,Hl.out.zRk,?_,?_,?_,by omega,by omega,?_,iC.out⟩
      · exact jC.zRf t (fun h0 e=>by have:=mA bs (Or.inl ⟨h0,rfl⟩);omega) (fun i hi h0 e=>by have:=mA _ (Or.inr ⟨i,hi,h0,rfl⟩);omega)
      · intro k hk
        have:=mA k hk;omega
      · exact zEj (ownsRow_setCell_below (ownsRow_setCell_below fB (by show w.heap.size+1<_;omega) _) (by show w.heap.size+1<_;omega) _) (by omega)
      · intro k hk
        have:=pA.out.lt k hk;omega
      · exact(pB.setCell (by show _<=w.heap.size+1;omega) _).setCell (by show _<=w.heap.size+1;omega) _
theorem zGx(v0 v1:Value)(lo hi:Nat)(p:zI)(w:World)(h1:zu w lo hi v0 v1 p)(hn:qC p<=1048576):Calls Tryz.prog 82 #[.agg #[v0,v1]] w (zHY p w):=by
  refine(zIz v0 v1 lo hi p w h1 hn).mono ?_;rintro e w' ⟨u0,u1,M,bs,kb,kv,rfl,g1,g2,g3,g4,g5,g6,g7,g8,g9⟩;exact⟨u0,u1,rfl,zJp g1 g2 g3 h1.2.1 g4 (fun k hk=>⟨(g5 k hk).1,Or.inl (g5 k hk).2⟩) g6 g9,g8⟩
def zDk(w:World)(b:Nat)(v0 v1 v2 v3 v4:Value):Prop:=zW w b 0 v0/\zW w b 1 v1/\zW w b 2 v2/\zW w b 3 v3/\zW w b 4 v4
theorem zDk.zRX{w w':World}{b:Nat}{v0 v1 v2 v3 v4:Value}(h:zDk w b v0 v1 v2 v3 v4)(t:Below w.heap.size w w'):zDk w' b v0 v1 v2 v3 v4:=⟨h.1.zRX t,h.2.1.zRX t,h.2.2.1.zRX t,h.2.2.2.1.zRX t,h.2.2.2.2.zRX t⟩
theorem zDk.zRf{S:Nat->Prop}{w w':World}{b:Nat}{v0 v1 v2 v3 v4:Value}(h:zDk w b v0 v1 v2 v3 v4)(t:zF S w w')(hs:¬S b):zDk w' b v0 v1 v2 v3 v4:=⟨h.1.zRf t hs,h.2.1.zRf t hs,h.2.2.1.zRf t hs,h.2.2.2.1.zRf t hs,h.2.2.2.2.zRf t hs⟩
theorem zDk.zRZ(w:World)(v0 v1 v2 v3 v4:Value)(t:TypeId):zDk (w.alloc (.cells #[v0,v1,v2,v3,v4] t)) w.heap.size v0 v1 v2 v3 v4:=by
 have hb:(w.alloc (.cells #[v0,v1,v2,v3,v4] t)).heap[w.heap.size]?=some (.cells #[v0,v1,v2,v3,v4] t):=heap_alloc_new _ _;exact⟨zJ hb rfl,zJ hb rfl,zJ hb rfl,zJ hb rfl,zJ hb rfl⟩
abbrev put5(w:World)(b:Nat)(u0 u1 u2 u3 u4:Value):World:=((((w.setCell ⟨b,0,none⟩ u0).setCell ⟨b,1,none⟩ u1).setCell ⟨b,2,none⟩ u2).setCell ⟨b,3,none⟩ u3).setCell ⟨b,4,none⟩ u4
theorem zDk.put{w:World}{b:Nat}{v0 v1 v2 v3 v4:Value}(h:zDk w b v0 v1 v2 v3 v4)(u0 u1 u2 u3 u4:Value):zDk (put5 w b u0 u1 u2 u3 u4) b u0 u1 u2 u3 u4:=by
 obtain⟨h0,h1,h2,h3,h4⟩:=h;refine⟨?_,?_,?_,?_,?_⟩
 ·exact((((h0.set _).zRY _ (Or.inr (by omega))).zRY _ (Or.inr (by omega))).zRY _ (Or.inr (by omega))).zRY _ (Or.inr (by omega))
 ·exact((((h1.zRY _ (Or.inr (by omega))).set _).zRY _ (Or.inr (by omega))).zRY _ (Or.inr (by omega))).zRY _ (Or.inr (by omega))
 ·exact((((h2.zRY _ (Or.inr (by omega))).zRY _ (Or.inr (by omega))).set _).zRY _ (Or.inr (by omega))).zRY _ (Or.inr (by omega))
 ·exact((((h3.zRY _ (Or.inr (by omega))).zRY _ (Or.inr (by omega))).zRY _ (Or.inr (by omega))).set _).zRY _ (Or.inr (by omega))
 ·exact((((h4.zRY _ (Or.inr (by omega))).zRY _ (Or.inr (by omega))).zRY _ (Or.inr (by omega))).zRY _ (Or.inr (by omega))).set _
theorem zF.put5(w:World)(b:Nat)(u0 u1 u2 u3 u4:Value):zF (fun k=>k=b) w (put5 w b u0 u1 u2 u3 u4):=
 ((((zF.put w b 0 u0).trans (zF.put _ b 1 u1)).trans (zF.put _ b 2 u2)).trans (zF.put _ b 3 u3)).trans (zF.put _ b 4 u4)
structure zDr where
 zRd:zI
 ps:Int
 pb:Int
 code:Int
def zMy(o:zDr)(w:World)(e:Ending)(w':World):Prop:=∃v0 v1,e = .returned (.agg #[v0,v1,.int .i64 o.ps,.int .i64 o.pb,.int .i64 o.code])/\zy w' w.heap.size w'.heap.size v0 v1 o.zRd/\Below w.heap.size w w'
theorem zHl{w:World}{lo hi:Nat}:zy w lo hi (.slice none 0 0) (.slice none 0 0) (zEH 0):=
 zO7 (g:=0) (Nat.zero_le _) ⟨none,0,rfl,Nat.le_refl _,fun h=>absurd h (Nat.lt_irrefl _)⟩ (fun i h=>absurd h (Nat.not_lt_zero _))
def noW:zH:={zRd:=zEH 0,time:=0,next:=0,sn:=0,zRg:=fun _=>⟨⟨#[]⟩,0,0,0,0,0,fun _=>0,fun _=>0⟩,pn:=0,zRe:=fun _=>⟨0,⟨#[]⟩,⟨#[]⟩,0,0,0,0,0,fun _=>0,fun _=>0⟩}
theorem zD5{w:World}{lo hi:Nat}:qM w lo hi (.slice none 0 0) (.slice none 0 0) (.slice none 0 0) (.slice none 0 0) noW:=by
 refine⟨fun k=>lo<=k/\k<hi,fun _=>False,fun _=>False,⟨(zHl (lo:=lo) (hi:=hi)).isIn (fun k h1 h2=>⟨h1,h2⟩),?_,?_,fun _ _ h=>h,fun _ _ h=>h,fun _ h=>h.elim⟩,fun k hk=>?_⟩
 ·exact⟨0,fun _=>0,fun _=>.slice none 0 0,⟨Nat.zero_le _,none,0,rfl,Nat.le_refl _,fun h=>absurd h (Nat.lt_irrefl _)⟩,fun i j hi=>absurd hi (Nat.not_lt_zero _),fun k hk=>by
   rcases hk with⟨h,_⟩ | ⟨i,h,_⟩
   ·exact absurd h (Nat.lt_irrefl _)
   ·exact absurd h (Nat.not_lt_zero _)⟩
 ·exact⟨0,fun _=>0,fun _=>.slice none 0 0,⟨Nat.zero_le _,none,0,rfl,Nat.le_refl _,fun h=>absurd h (Nat.lt_irrefl _)⟩,fun i j hi=>absurd hi (Nat.not_lt_zero _),fun k hk=>by
   rcases hk with⟨h,_⟩ | ⟨i,h,_⟩
   ·exact absurd h (Nat.lt_irrefl _)
   ·exact absurd h (Nat.not_lt_zero _)⟩
 ·rcases hk with h | h | h
  ·exact h
  ·exact h.elim
  ·exact h.elim
def yi(w:World)(b:Nat)(v0 v1 v2 v3 v4 v5 v6 v7 v8:Value):Prop:=zW w b 0 v0/\zW w b 1 v1/\zW w b 2 v2/\zW w b 3 v3/\zW w b 4 v4/\zW w b 5 v5/\zW w b 6 v6/\zW w b 7 v7/\zW w b 8 v8
theorem yi.zRX{w w':World}{b:Nat}{v0 v1 v2 v3 v4 v5 v6 v7 v8:Value}(h:yi w b v0 v1 v2 v3 v4 v5 v6 v7 v8)(t:Below w.heap.size w w'):yi w' b v0 v1 v2 v3 v4 v5 v6 v7 v8:=⟨h.1.zRX t,h.2.1.zRX t,h.2.2.1.zRX t,h.2.2.2.1.zRX t,h.2.2.2.2.1.zRX t,h.2.2.2.2.2.1.zRX t,h.2.2.2.2.2.2.1.zRX t,h.2.2.2.2.2.2.2.1.zRX t,h.2.2.2.2.2.2.2.2.zRX t⟩
theorem yi.zRf{S:Nat->Prop}{w w':World}{b:Nat}{v0 v1 v2 v3 v4 v5 v6 v7 v8:Value}(h:yi w b v0 v1 v2 v3 v4 v5 v6 v7 v8)(t:zF S w w')(hs:¬S b):yi w' b v0 v1 v2 v3 v4 v5 v6 v7 v8:=⟨h.1.zRf t hs,h.2.1.zRf t hs,h.2.2.1.zRf t hs,h.2.2.2.1.zRf t hs,h.2.2.2.2.1.zRf t hs,h.2.2.2.2.2.1.zRf t hs,h.2.2.2.2.2.2.1.zRf t hs,h.2.2.2.2.2.2.2.1.zRf t hs,h.2.2.2.2.2.2.2.2.zRf t hs⟩
theorem yi.zRZ(w:World)(v0 v1 v2 v3 v4 v5 v6 v7 v8:Value)(t:TypeId):yi (w.alloc (.cells #[v0,v1,v2,v3,v4,v5,v6,v7,v8] t)) w.heap.size v0 v1 v2 v3 v4 v5 v6 v7 v8:=by
 have hb:(w.alloc (.cells #[v0,v1,v2,v3,v4,v5,v6,v7,v8] t)).heap[w.heap.size]?=some (.cells #[v0,v1,v2,v3,v4,v5,v6,v7,v8] t):=heap_alloc_new _ _;exact⟨zJ hb rfl,zJ hb rfl,zJ hb rfl,zJ hb rfl,zJ hb rfl,zJ hb rfl,zJ hb rfl,zJ hb rfl,zJ hb rfl⟩
abbrev put9(w:World)(b:Nat)(u0 u1 u2 u3 u4 u5 u6 u7 u8:Value):World:=((((((((w.setCell ⟨b,0,none⟩ u0).setCell ⟨b,1,none⟩ u1).setCell ⟨b,2,none⟩ u2).setCell ⟨b,3,none⟩ u3).setCell ⟨b,4,none⟩ u4).setCell ⟨b,5,none⟩ u5).setCell ⟨b,6,none⟩ u6).setCell ⟨b,7,none⟩ u7).setCell ⟨b,8,none⟩ u8
theorem yi.put{w:World}{b:Nat}{v0 v1 v2 v3 v4 v5 v6 v7 v8:Value}(h:yi w b v0 v1 v2 v3 v4 v5 v6 v7 v8)(u0 u1 u2 u3 u4 u5 u6 u7 u8:Value):yi (put9 w b u0 u1 u2 u3 u4 u5 u6 u7 u8) b u0 u1 u2 u3 u4 u5 u6 u7 u8:=by
 obtain⟨h0,h1,h2,h3,h4,h5,h6,h7,h8⟩:=h;exact⟨(((((((((h0.set _).zRY _ (Or.inr (by omega))).zRY _ (Or.inr (by omega))).zRY _ (Or.inr (by omega))).zRY _ (Or.inr (by omega))).zRY _ (Or.inr (by omega))).zRY _ (Or.inr (by omega))).zRY _ (Or.inr (by omega))).zRY _ (Or.inr (by omega))),
  (((((((((h1.zRY _ (Or.inr (by omega))).set _).zRY _ (Or.inr (by omega))).zRY _ (Or.inr (by omega))).zRY _ (Or.inr (by omega))).zRY _ (Or.inr (by omega))).zRY _ (Or.inr (by omega))).zRY _ (Or.inr (by omega))).zRY _ (Or.inr (by omega))),
  (((((((((h2.zRY _ (Or.inr (by omega))).zRY _ (Or.inr (by omega))).set _).zRY _ (Or.inr (by omega))).zRY _ (Or.inr (by omega))).zRY _ (Or.inr (by omega))).zRY _ (Or.inr (by omega))).zRY _ (Or.inr (by omega))).zRY _ (Or.inr (by omega))),
  (((((((((h3.zRY _ (Or.inr (by omega))).zRY _ (Or.inr (by omega))).zRY _ (Or.inr (by omega))).set _).zRY _ (Or.inr (by omega))).zRY _ (Or.inr (by omega))).zRY _ (Or.inr (by omega))).zRY _ (Or.inr (by omega))).zRY _ (Or.inr (by omega))),
  (((((((((h4.zRY _ (Or.inr (by omega))).zRY _ (Or.inr (by omega))).zRY _ (Or.inr (by omega))).zRY _ (Or.inr (by omega))).set _).zRY _ (Or.inr (by omega))).zRY _ (Or.inr (by omega))).zRY _ (Or.inr (by omega))).zRY _ (Or.inr (by omega))),
  (((((((((h5.zRY _ (Or.inr (by omega))).zRY _ (Or.inr (by omega))).zRY _ (Or.inr (by omega))).zRY _ (Or.inr (by omega))).zRY _ (Or.inr (by omega))).set _).zRY _ (Or.inr (by omega))).zRY _ (Or.inr (by omega))).zRY _ (Or.inr (by omega))),
  (((((((((h6.zRY _ (Or.inr (by omega))).zRY _ (Or.inr (by omega))).zRY _ (Or.inr (by omega))).zRY _ (Or.inr (by omega))).zRY _ (Or.inr (by omega))).zRY _ (Or.inr (by omega))).set _).zRY _ (Or.inr (by omega))).zRY _ (Or.inr (by omega))),
  (((((((((h7.zRY _ (Or.inr (by omega))).zRY _ (Or.inr (by omega))).zRY _ (Or.inr (by omega))).zRY _ (Or.inr (by omega))).zRY _ (Or.inr (by omega))).zRY _ (Or.inr (by omega))).zRY _ (Or.inr (by omega))).set _).zRY _ (Or.inr (by omega))),
  (((((((((h8.zRY _ (Or.inr (by omega))).zRY _ (Or.inr (by omega))).zRY _ (Or.inr (by omega))).zRY _ (Or.inr (by omega))).zRY _ (Or.inr (by omega))).zRY _ (Or.inr (by omega))).zRY _ (Or.inr (by omega))).zRY _ (Or.inr (by omega))).set _)⟩
theorem zF.put9(w:World)(b:Nat)(u0 u1 u2 u3 u4 u5 u6 u7 u8:Value):zF (fun k=>k=b) w (put9 w b u0 u1 u2 u3 u4 u5 u6 u7 u8):=((((((((zF.put w b 0 u0).trans (zF.put _ b 1 u1)).trans (zF.put _ b 2 u2)).trans (zF.put _ b 3 u3)).trans (zF.put _ b 4 u4)).trans (zF.put _ b 5 u5)).trans (zF.put _ b 6 u6)).trans (zF.put _ b 7 u7)).trans (zF.put _ b 8 u8)
structure zCA where
 world:zH
 id:Int
 zRp:Int
 code:Int
abbrev zIS(v0 v1 v2 v3:Value)(o:zCA):Value:=.agg #[v0,v1,.int .i64 o.world.time,.int .i64 o.world.next,v2,v3,.int .i64 o.id,.int .i64 o.zRp,.int .i64 o.code]
def zB0(o:zCA)(w:World)(e:Ending)(w':World):Prop:=∃v0 v1 v2 v3,e = .returned (zIS v0 v1 v2 v3 o)/\qM w' w.heap.size w'.heap.size v0 v1 v2 v3 o.world/\Below w.heap.size w w'
theorem yi.six{w:World}{b:Nat}{v0 v1 v2 v3 v4 v5 v6 v7 v8:Value}(h:yi w b v0 v1 v2 v3 v4 v5 v6 v7 v8)(u0 u1 u2 u3 u4 u5:Value):yi (put6 w b u0 u1 u2 u3 u4 u5) b u0 u1 u2 u3 u4 u5 v6 v7 v8:=by
 obtain⟨h0,h1,h2,h3,h4,h5,h6,h7,h8⟩:=h;exact⟨((((((h0.set _).zRY _ (Or.inr (by omega))).zRY _ (Or.inr (by omega))).zRY _ (Or.inr (by omega))).zRY _ (Or.inr (by omega))).zRY _ (Or.inr (by omega))),((((((h1.zRY _ (Or.inr (by omega))).set _).zRY _ (Or.inr (by omega))).zRY _ (Or.inr (by omega))).zRY _ (Or.inr (by omega))).zRY _ (Or.inr (by omega))),((((((h2.zRY _ (Or.inr (by omega))).zRY _ (Or.inr (by omega))).set _).zRY _ (Or.inr (by omega))).zRY _ (Or.inr (by omega))).zRY _ (Or.inr (by omega))),((((((h3.zRY _ (Or.inr (by omega))).zRY _ (Or.inr (by omega))).zRY _ (Or.inr (by omega))).set _).zRY _ (Or.inr (by omega))).zRY _ (Or.inr (by omega))),((((((h4.zRY _ (Or.inr (by omega))).zRY _ (Or.inr (by omega))).zRY _ (Or.inr (by omega))).zRY _ (Or.inr (by omega))).set _).zRY _ (Or.inr (by omega))),((((((h5.zRY _ (Or.inr (by omega))).zRY _ (Or.inr (by omega))).zRY _ (Or.inr (by omega))).zRY _ (Or.inr (by omega))).zRY _ (Or.inr (by omega))).set _),((((((h6.zRY _ (Or.inr (by omega))).zRY _ (Or.inr (by omega))).zRY _ (Or.inr (by omega))).zRY _ (Or.inr (by omega))).zRY _ (Or.inr (by omega))).zRY _ (Or.inr (by omega))),((((((h7.zRY _ (Or.inr (by omega))).zRY _ (Or.inr (by omega))).zRY _ (Or.inr (by omega))).zRY _ (Or.inr (by omega))).zRY _ (Or.inr (by omega))).zRY _ (Or.inr (by omega))),((((((h8.zRY _ (Or.inr (by omega))).zRY _ (Or.inr (by omega))).zRY _ (Or.inr (by omega))).zRY _ (Or.inr (by omega))).zRY _ (Or.inr (by omega))).zRY _ (Or.inr (by omega)))⟩
theorem zW.under{w w':World}{B b o:Nat}{v:Value}(h:zW w b o v)(t:Below B w w')(hb:b<B):zW w' b o v:=⟨(t.cell (p:=⟨b,o,none⟩) hb).trans h.1,(t.frozen (p:=⟨b,o,none⟩) hb).trans h.2⟩
def zB3(c:Int):zCA:=⟨noW,0,0,c⟩
def zNA(r:Option Nat)(o:zCA):zCA:=match r with
 | some i=>zB3 (zBg i)
 | none=>o
def zNp(f:Nat->qD)(cv:Nat->Value)(i r:Nat):Value:=
 match r with
 | 0=>.string (f i).name
 | 1=>.int .i64 (f i).origin
 | 2=>.int .i64 (f i).zRh
 | 3=>.int .i64 (f i).rs
 | 4=>.int .i64 (f i).rb
 | _=>cv i
def zDA(f:Nat->qD)(cv:Nat->Value)(n:Nat):List Value:=(List.range (n*6)).map fun j=>zNp f cv (j / 6) (j % 6)
theorem zDc(f:Nat->qD)(cv:Nat->Value)(n:Nat):(zDA f cv n).length=n*6:=by simp[zDA]
theorem zCj(f:Nat->qD)(cv:Nat->Value)(n:Nat){i r:Nat}(hi:i<n)(hr:r<6):(zDA f cv n)[i*6+r]?=some (zNp f cv i r):=by
 have h:i*6+r<n*6:=by omega
 have h1:(i*6+r) / 6=i:=by omega
 have h2:(i*6+r) % 6=r:=by omega
 simp[zDA,h,h1,h2]
theorem zE0(f:Nat->qD)(cv:Nat->Value)(n:Nat)(h:∀i,i<n->(cv i).oneCell'=true):∀u∈zDA f cv n,u.oneCell'=true:=by
 intro u hu;unfold zDA at hu;obtain⟨j,hj,rfl⟩:=List.mem_map.1 hu;have aA:=List.mem_range.1 hj;have hi:j / 6<n:=by omega
 have hr:j % 6<6:=by omega
 generalize j % 6=r at hr ⊢;rcases r with _ | _ | _ | _ | _ | _<;>first | rfl | exact h _ hi
def zAp(w:World)(b o:Nat)(s:qD)(vd:Value):Prop:=zW w b o (.string s.name)/\zW w b (o+1) (.int .i64 s.origin)/\zW w b (o+2) (.int .i64 s.zRh)/\zW w b (o+3) (.int .i64 s.rs)/\zW w b (o+4) (.int .i64 s.rb)/\zW w b (o+5) vd
theorem zAp.zRf{S:Nat->Prop}{w w':World}{b o:Nat}{s:qD}{vd:Value}(h:zAp w b o s vd)(t:zF S w w')(hs:¬S b):zAp w' b o s vd:=by
 obtain⟨h0,h1,h2,h3,h4,h5⟩:=h;exact⟨h0.zRf t hs,h1.zRf t hs,h2.zRf t hs,h3.zRf t hs,h4.zRf t hs,h5.zRf t hs⟩
theorem zAp.zRX{w w':World}{b o:Nat}{s:qD}{vd:Value}(h:zAp w b o s vd)(t:Below w.heap.size w w'):zAp w' b o s vd:=
 h.zRf (zF.zRa (S:=fun _=>False) t) (fun h=>h)
theorem zAp.set{w:World}{b o:Nat}{s:qD}{vd:Value}(h:zAp w b o s vd)(u:Value):zAp (w.setCell ⟨b,o+5,none⟩ u) b o s u:=by
 obtain⟨h0,h1,h2,h3,h4,h5⟩:=h;exact⟨h0.zRY _ (Or.inr (by omega)),h1.zRY _ (Or.inr (by omega)),h2.zRY _ (Or.inr (by omega)),h3.zRY _ (Or.inr (by omega)),h4.zRY _ (Or.inr (by omega)),h5.set _⟩
theorem zAp.zRY{w:World}{b o o':Nat}{s:qD}{vd:Value}(h:zAp w b o s vd)(u:Value)(aA:∀r,r<6->o'≠o+r):zAp (w.setCell ⟨b,o',none⟩ u) b o s vd:=by
 obtain⟨h0,h1,h2,h3,h4,h5⟩:=h;exact⟨h0.zRY _ (Or.inr (aA 0 (by omega))),h1.zRY _ (Or.inr (aA 1 (by omega))),h2.zRY _ (Or.inr (aA 2 (by omega))),h3.zRY _ (Or.inr (aA 3 (by omega))),h4.zRY _ (Or.inr (aA 4 (by omega))),h5.zRY _ (Or.inr (aA 5 (by omega)))⟩
structure yC (wr:World) (bs L n k:Nat) (f:Nat->qD) (kb:Nat->Nat) (kv cv:Nat->Value):Prop where
 zRq:∀j,j<n->zAp wr bs (j*6) (f j) (if j<k then kv j else cv j)
 zRl:∀j,j<k->zm wr (kb j) (kv j) (f j).dn (f j).ds (f j).db
 zRm:∀j,j<k->0<(f j).dn->L<=kb j/\kb j<wr.heap.size
 zRk:zBO kb k f
 lt:0<n->bs<L
theorem yC.zRX{wr w':World}{bs L n k:Nat}{f:Nat->qD}{kb:Nat->Nat}{kv cv:Nat->Value}(h:yC wr bs L n k f kb kv cv)(t:Below wr.heap.size wr w'):yC w' bs L n k f kb kv cv:=
 ⟨fun j hj=>(h.zRq j hj).zRX t,fun j hj=>(h.zRl j hj).zRX t,fun j hj h0=>by have:=h.zRm j hj h0;have:=t.size;omega,h.zRk,h.lt⟩
theorem yC.zRf{S:Nat->Prop}{wr w':World}{bs L n k:Nat}{f:Nat->qD}{kb:Nat->Nat}{kv cv:Nat->Value}(h:yC wr bs L n k f kb kv cv)(t:zF S wr w')(hs:∀q,S q->(0<n->q≠bs)/\q<L)(hk:k<=n):yC w' bs L n k f kb kv cv:=
 ⟨fun j hj=>(h.zRq j hj).zRf t (fun e=>(hs _ e).1 (by omega) rfl),fun j hj=>(h.zRl j hj).zRf t (fun h0 e=>by have:=h.zRm j hj h0;have:=(hs _ e).2;omega),fun j hj h0=>by have:=h.zRm j hj h0;have:=t.size;omega,h.zRk,h.lt⟩
theorem yC.next{wr w1:World}{bs L n k b:Nat}{f:Nat->qD}{kb:Nat->Nat}{kv cv:Nat->Value}{v:Value}(h:yC wr bs L n k f kb kv cv)(hk:k<n)(hL:L<=wr.heap.size)(t:Below wr.heap.size wr w1)
  (hp:zm w1 b v (f k).dn (f k).ds (f k).db) (hb:0<(f k).dn->wr.heap.size<=b/\b<w1.heap.size) :
  yC (w1.setCell ⟨bs,k*6+5,none⟩ v) bs L n (k+1) f (fun j=>if j=k then b else kb j) (fun j=>if j=k then v else kv j) cv:=by
 have h':=h.zRX t;have bA:=h.lt (by omega);refine⟨fun j hj=>?_,fun j hj=>?_,fun j hj h0=>?_,fun i j hi hj aA h1 h2=>?_,h.lt⟩
 ·have hh:=h'.zRq j hj;by_cases e:j=k
  ·subst e;rw[if_pos (by omega),if_pos rfl];exact hh.set v
  ·rw[if_neg e];have es:(if j<k+1 then kv j else cv j)=if j<k then kv j else cv j:=by
    by_cases e2:j<k
    ·rw[if_pos e2,if_pos (by omega)]
    ·rw[if_neg e2,if_neg (by omega)]
   rw[es];exact hh.zRY v (fun r hr=>by omega)
 ·by_cases e:j=k
  ·subst e;simp only[if_true];exact hp.zRf (zF.put _ _ _ _) (fun h0 hx=>by have:=hb h0;omega)
  ·simp only[if_neg e];exact(h'.zRl j (by omega)).zRf (zF.put _ _ _ _) (fun h0 hx=>by have:=h'.zRm j (by omega) h0;omega)
 ·simp only[World.size_setCell];by_cases e:j=k
  ·subst e;rw[if_pos rfl];have:=hb h0;omega
  ·rw[if_neg e];have:=h'.zRm j (by omega) h0;omega
 ·show(if i=k then b else kb i)≠(if j=k then b else kb j);by_cases e1:i=k
  ·by_cases e2:j=k
   ·omega
   ·rw[if_pos e1,if_neg e2];subst e1;have:=hb h1;have:=h.zRm j (by omega) h2;omega
  ·by_cases e2:j=k
   ·rw[if_neg e1,if_pos e2];subst e2;have:=hb h2;have:=h.zRm i (by omega) h1;omega
   ·rw[if_neg e1,if_neg e2];exact h.zRk i j (by omega) (by omega) aA h1 h2
theorem yC.own{wr:World}{bs L n c:Nat}{f:Nat->qD}{kb:Nat->Nat}{kv cv:Nat->Value}{a:Option Addr}(h:yC wr bs L n n f kb kv cv)(hm:n<=maxLen)(ha:0<n->a=some ⟨bs,0,none⟩)(hc:n<=c)(hs:∀i,i<n->(f i).name.size<=maxLen):yJ wr bs kb kv (.slice a n c) n f:=
 ⟨hm,a,c,rfl,hc,fun h0=>⟨0,ha h0,fun i hi=>by
  obtain⟨h0,h1,h2,h3,h4,h5⟩:=h.zRq i hi;rw[if_pos hi]at h5;rw[Nat.zero_add];exact⟨h0,h1,h2,h3,h4,h5,h.zRl i hi,hs i hi,fun hk e=>by have:=h.zRm i hi hk;have:=h.lt (by omega);omega⟩⟩⟩
theorem yC.turned0{S:Nat->Prop}{wr w':World}{bs L n:Nat}{f:Nat->qD}{kb:Nat->Nat}{kv cv:Nat->Value}(h:yC wr bs L n 0 f kb kv cv)(t:zF S wr w')(hs:∀q,S q->0<n->q≠bs):yC w' bs L n 0 f kb kv cv:=
 ⟨fun j hj=>(h.zRq j hj).zRf t (fun e=>hs _ e (by omega) rfl),fun j hj=>absurd hj (Nat.not_lt_zero _),fun j hj=>absurd hj (Nat.not_lt_zero _),h.zRk,h.lt⟩
theorem yC.weak{wr:World}{bs L L' n:Nat}{f:Nat->qD}{kb:Nat->Nat}{kv cv:Nat->Value}(h:yC wr bs L n 0 f kb kv cv)(hL:L<=L'):yC wr bs L' n 0 f kb kv cv:=
 ⟨h.zRq,h.zRl,fun j hj=>absurd hj (Nat.not_lt_zero _),h.zRk,fun h0=>Nat.lt_of_lt_of_le (h.lt h0) hL⟩
theorem yW.values{w:World}{lo hi:Nat}{a:Option Addr}{n c:Nat}{f:Nat->qD}(h:yW w lo hi (.slice a n c) n f) :
  ∃cv:Nat->Value,(∀i,i<n->zU w lo hi (cv i) (f i).dn (f i).ds (f i).db/\(f i).name.size<=maxLen)/\
   (0<n->∃b off,a=some ⟨b,off,none⟩/\∀j u,(zDA f cv n)[j]?=some u->w.cell? ⟨b,off+j,none⟩=some u):=by
 obtain⟨_,a0,c0,h0,_,g⟩:=h;simp only[Value.slice.injEq,true_and]at h0;obtain⟨rfl,rfl⟩:=h0;by_cases hn:0<n
 ·obtain⟨b,off,ha,eA,cA,hc⟩:=g hn;have bA:∀i,∃x,i<n->zBd w b (off+i*6) lo hi x (f i):=fun i=>by
   by_cases hi:i<n
   ·obtain⟨vd,hs⟩:=hc i hi;exact⟨vd,fun _=>hs⟩
   ·exact⟨.slice none 0 0,fun h=>absurd h hi⟩
  obtain⟨cv,aA⟩:=Classical.axiomOfChoice bA;refine⟨cv,fun i hi=>⟨(aA i hi).zRl,(aA i hi).zRn⟩,fun _=>⟨b,off,ha,fun j u hj=>?_⟩⟩;have dA:j<n*6:=by
   have:=(List.getElem?_eq_some_iff.1 hj).1
   rwa [zDc]at this
  have hs:=aA (j / 6) (by omega);have e:=zCj f cv n (i:=j / 6) (r:=j % 6) (by omega) (by omega);rw[show j / 6*6+j % 6=j by omega,hj]at e;have hr:j % 6<6:=(by omega);have ho:off+j=off+j / 6*6+j % 6:=(by omega);rw[ho];generalize j % 6=r at hr e ⊢;generalize j / 6=q at hs e ⊢;rcases r with _ | _ | _ | _ | _ | _ | r
  ·cases e;exact hs.c0
  ·cases e;exact hs.c1
  ·cases e;exact hs.c2
  ·cases e;exact hs.c3
  ·cases e;exact hs.c4
  ·cases e;exact hs.c5
  ·omega
 ·exact⟨fun _=>.slice none 0 0,fun i hi=>absurd hi (by omega),fun h=>absurd h hn⟩
theorem zBy{w1:World}{base n:Nat}{v:Value}{f:Nat->qD}{cv:Nat->Value}(bA:w1.ownsRow base 67 6 v n (zDA f cv n))(L:Nat)(hL:w1.heap.size<=L):∃bs a c,v = .slice a n c/\n<=c/\(0<n->a=some ⟨bs,0,none⟩/\base<=bs/\bs<w1.heap.size)/\yC w1 bs L n 0 f (fun _=>0) cv cv:=by
 obtain⟨a1,c1,rfl,cA⟩:=zY bA;by_cases h0:0<n
 ·obtain⟨g,fA,hv,_,dA,eA,aA⟩:=qY bA h0;simp only[Value.slice.injEq,true_and]at hv;obtain⟨rfl,rfl⟩:=hv;refine⟨g,_,_,rfl,cA,fun _=>⟨rfl,dA,eA⟩,fun j hj=>?_,fun j hj=>absurd hj (Nat.not_lt_zero _),fun j hj=>absurd hj (Nat.not_lt_zero _),fun i j hi=>absurd hi (Nat.not_lt_zero _),fun _=>by omega⟩;rw[if_neg (Nat.not_lt_zero _)];exact⟨aA _ _ (zCj f cv n hj (r:=0) (by omega)),aA _ _ (zCj f cv n hj (r:=1) (by omega)),aA _ _ (zCj f cv n hj (r:=2) (by omega)),aA _ _ (zCj f cv n hj (r:=3) (by omega)),aA _ _ (zCj f cv n hj (r:=4) (by omega)),aA _ _ (zCj f cv n hj (r:=5) (by omega))⟩
 ·exact⟨0,_,_,rfl,cA,fun h=>absurd h h0,fun j hj=>absurd hj (by omega),fun j hj=>absurd hj (Nat.not_lt_zero _),fun j hj=>absurd hj (Nat.not_lt_zero _),fun i j hi=>absurd hi (Nat.not_lt_zero _),fun h=>absurd h h0⟩
def zLC(f:Nat->zl)(cv:Nat->Value)(i r:Nat):Value:=
 match r with
 | 0=>.int .i64 (f i).id
 | 1=>.string (f i).name
 | 2=>.string (f i).set
 | 3=>.int .i64 (f i).zRh
 | 4=>.int .i64 (f i).time
 | 5=>.int .i64 (f i).rs
 | 6=>.int .i64 (f i).rb
 | _=>cv i
def zBC(f:Nat->zl)(cv:Nat->Value)(n:Nat):List Value:=(List.range (n*8)).map fun j=>zLC f cv (j / 8) (j % 8)
theorem zBo(f:Nat->zl)(cv:Nat->Value)(n:Nat):(zBC f cv n).length=n*8:=by simp[zBC]
theorem zAv(f:Nat->zl)(cv:Nat->Value)(n:Nat){i r:Nat}(hi:i<n)(hr:r<8):(zBC f cv n)[i*8+r]?=some (zLC f cv i r):=by
 have h:i*8+r<n*8:=by omega
 have h1:(i*8+r) / 8=i:=by omega
 have h2:(i*8+r) % 8=r:=by omega
 simp[zBC,h,h1,h2]
theorem zCy(f:Nat->zl)(cv:Nat->Value)(n:Nat)(h:∀i,i<n->(cv i).oneCell'=true):∀u∈zBC f cv n,u.oneCell'=true:=by
 intro u hu;unfold zBC at hu;obtain⟨j,hj,rfl⟩:=List.mem_map.1 hu;have aA:=List.mem_range.1 hj;have hi:j / 8<n:=by omega
 have hr:j % 8<8:=by omega
 generalize j % 8=r at hr ⊢;rcases r with _ | _ | _ | _ | _ | _ | _ | _<;>first | rfl | exact h _ hi
def zAP(w:World)(b o:Nat)(s:zl)(vd:Value):Prop:=zW w b o (.int .i64 s.id)/\zW w b (o+1) (.string s.name)/\zW w b (o+2) (.string s.set)/\zW w b (o+3) (.int .i64 s.zRh)/\zW w b (o+4) (.int .i64 s.time)/\zW w b (o+5) (.int .i64 s.rs)/\zW w b (o+6) (.int .i64 s.rb)/\zW w b (o+7) vd
theorem zAP.zRf{S:Nat->Prop}{w w':World}{b o:Nat}{s:zl}{vd:Value}(h:zAP w b o s vd)(t:zF S w w')(hs:¬S b):zAP w' b o s vd:=by
 obtain⟨h0,h1,h2,h3,h4,h5,h6,h7⟩:=h;exact⟨h0.zRf t hs,h1.zRf t hs,h2.zRf t hs,h3.zRf t hs,h4.zRf t hs,h5.zRf t hs,h6.zRf t hs,h7.zRf t hs⟩
theorem zAP.zRX{w w':World}{b o:Nat}{s:zl}{vd:Value}(h:zAP w b o s vd)(t:Below w.heap.size w w'):zAP w' b o s vd:=
 h.zRf (zF.zRa (S:=fun _=>False) t) (fun h=>h)
theorem zAP.set{w:World}{b o:Nat}{s:zl}{vd:Value}(h:zAP w b o s vd)(u:Value):zAP (w.setCell ⟨b,o+7,none⟩ u) b o s u:=by
 obtain⟨h0,h1,h2,h3,h4,h5,h6,h7⟩:=h;exact⟨h0.zRY _ (Or.inr (by omega)),h1.zRY _ (Or.inr (by omega)),h2.zRY _ (Or.inr (by omega)),h3.zRY _ (Or.inr (by omega)),h4.zRY _ (Or.inr (by omega)),h5.zRY _ (Or.inr (by omega)),h6.zRY _ (Or.inr (by omega)),h7.set _⟩
theorem zAP.zRY{w:World}{b o o':Nat}{s:zl}{vd:Value}(h:zAP w b o s vd)(u:Value)(aA:∀r,r<8->o'≠o+r):zAP (w.setCell ⟨b,o',none⟩ u) b o s vd:=by
 obtain⟨h0,h1,h2,h3,h4,h5,h6,h7⟩:=h;exact⟨h0.zRY _ (Or.inr (aA 0 (by omega))),h1.zRY _ (Or.inr (aA 1 (by omega))),h2.zRY _ (Or.inr (aA 2 (by omega))),h3.zRY _ (Or.inr (aA 3 (by omega))),h4.zRY _ (Or.inr (aA 4 (by omega))),h5.zRY _ (Or.inr (aA 5 (by omega))),h6.zRY _ (Or.inr (aA 6 (by omega))),h7.zRY _ (Or.inr (aA 7 (by omega)))⟩
structure qb (wr:World) (bs L n k:Nat) (f:Nat->zl) (kb:Nat->Nat) (kv cv:Nat->Value):Prop where
 zRq:∀j,j<n->zAP wr bs (j*8) (f j) (if j<k then kv j else cv j)
 zRl:∀j,j<k->zm wr (kb j) (kv j) (f j).dn (f j).ds (f j).db
 zRm:∀j,j<k->0<(f j).dn->L<=kb j/\kb j<wr.heap.size
 zRk:zBA kb k f
 lt:0<n->bs<L
theorem qb.zRX{wr w':World}{bs L n k:Nat}{f:Nat->zl}{kb:Nat->Nat}{kv cv:Nat->Value}(h:qb wr bs L n k f kb kv cv)(t:Below wr.heap.size wr w'):qb w' bs L n k f kb kv cv:=
 ⟨fun j hj=>(h.zRq j hj).zRX t,fun j hj=>(h.zRl j hj).zRX t,fun j hj h0=>by have:=h.zRm j hj h0;have:=t.size;omega,h.zRk,h.lt⟩
theorem qb.zRf{S:Nat->Prop}{wr w':World}{bs L n k:Nat}{f:Nat->zl}{kb:Nat->Nat}{kv cv:Nat->Value}(h:qb wr bs L n k f kb kv cv)(t:zF S wr w')(hs:∀q,S q->(0<n->q≠bs)/\q<L)(hk:k<=n):qb w' bs L n k f kb kv cv:=
 ⟨fun j hj=>(h.zRq j hj).zRf t (fun e=>(hs _ e).1 (by omega) rfl),fun j hj=>(h.zRl j hj).zRf t (fun h0 e=>by have:=h.zRm j hj h0;have:=(hs _ e).2;omega),fun j hj h0=>by have:=h.zRm j hj h0;have:=t.size;omega,h.zRk,h.lt⟩
theorem qb.next{wr w1:World}{bs L n k b:Nat}{f:Nat->zl}{kb:Nat->Nat}{kv cv:Nat->Value}{v:Value}(h:qb wr bs L n k f kb kv cv)(hk:k<n)(hL:L<=wr.heap.size)(t:Below wr.heap.size wr w1)
  (hp:zm w1 b v (f k).dn (f k).ds (f k).db) (hb:0<(f k).dn->wr.heap.size<=b/\b<w1.heap.size) :
  qb (w1.setCell ⟨bs,k*8+7,none⟩ v) bs L n (k+1) f (fun j=>if j=k then b else kb j) (fun j=>if j=k then v else kv j) cv:=by
 have h':=h.zRX t;have bA:=h.lt (by omega);refine⟨fun j hj=>?_,fun j hj=>?_,fun j hj h0=>?_,fun i j hi hj aA h1 h2=>?_,h.lt⟩
 ·have hh:=h'.zRq j hj;by_cases e:j=k
  ·subst e;rw[if_pos (by omega),if_pos rfl];exact hh.set v
  ·rw[if_neg e];have es:(if j<k+1 then kv j else cv j)=if j<k then kv j else cv j:=by
    by_cases e2:j<k
    ·rw[if_pos e2,if_pos (by omega)]
    ·rw[if_neg e2,if_neg (by omega)]
   rw[es];exact hh.zRY v (fun r hr=>by omega)
 ·by_cases e:j=k
  ·subst e;simp only[if_true];exact hp.zRf (zF.put _ _ _ _) (fun h0 hx=>by have:=hb h0;omega)
  ·simp only[if_neg e];exact(h'.zRl j (by omega)).zRf (zF.put _ _ _ _) (fun h0 hx=>by have:=h'.zRm j (by omega) h0;omega)
 ·simp only[World.size_setCell];by_cases e:j=k
  ·subst e;rw[if_pos rfl];have:=hb h0;omega
  ·rw[if_neg e];have:=h'.zRm j (by omega) h0;omega
 ·show(if i=k then b else kb i)≠(if j=k then b else kb j);by_cases e1:i=k
  ·by_cases e2:j=k
   ·omega
   ·rw[if_pos e1,if_neg e2];subst e1;have:=hb h1;have:=h.zRm j (by omega) h2;omega
  ·by_cases e2:j=k
   ·rw[if_neg e1,if_pos e2];subst e2;have:=hb h2;have:=h.zRm i (by omega) h1;omega
   ·rw[if_neg e1,if_neg e2];exact h.zRk i j (by omega) (by omega) aA h1 h2
theorem qb.own{wr:World}{bs L n c:Nat}{f:Nat->zl}{kb:Nat->Nat}{kv cv:Nat->Value}{a:Option Addr}(h:qb wr bs L n n f kb kv cv)(hm:n<=maxLen)(ha:0<n->a=some ⟨bs,0,none⟩)(hc:n<=c)(hs:∀i,i<n->((f i).name.size<=maxLen/\(f i).set.size<=maxLen)):yT wr bs kb kv (.slice a n c) n f:=
 ⟨hm,a,c,rfl,hc,fun h0=>⟨0,ha h0,fun i hi=>by
  obtain⟨h0,h1,h2,h3,h4,h5,h6,h7⟩:=h.zRq i hi;rw[if_pos hi]at h7;rw[Nat.zero_add];exact⟨h0,h1,h2,h3,h4,h5,h6,h7,h.zRl i hi,hs i hi,fun hk e=>by have:=h.zRm i hi hk;have:=h.lt (by omega);omega⟩⟩⟩
theorem qb.turned0{S:Nat->Prop}{wr w':World}{bs L n:Nat}{f:Nat->zl}{kb:Nat->Nat}{kv cv:Nat->Value}(h:qb wr bs L n 0 f kb kv cv)(t:zF S wr w')(hs:∀q,S q->0<n->q≠bs):qb w' bs L n 0 f kb kv cv:=
 ⟨fun j hj=>(h.zRq j hj).zRf t (fun e=>hs _ e (by omega) rfl),fun j hj=>absurd hj (Nat.not_lt_zero _),fun j hj=>absurd hj (Nat.not_lt_zero _),h.zRk,h.lt⟩
theorem qb.weak{wr:World}{bs L L' n:Nat}{f:Nat->zl}{kb:Nat->Nat}{kv cv:Nat->Value}(h:qb wr bs L n 0 f kb kv cv)(hL:L<=L'):qb wr bs L' n 0 f kb kv cv:=
 ⟨h.zRq,h.zRl,fun j hj=>absurd hj (Nat.not_lt_zero _),h.zRk,fun h0=>Nat.lt_of_lt_of_le (h.lt h0) hL⟩
theorem qu.values{w:World}{lo hi:Nat}{a:Option Addr}{n c:Nat}{f:Nat->zl}(h:qu w lo hi (.slice a n c) n f) :
  ∃cv:Nat->Value,(∀i,i<n->zU w lo hi (cv i) (f i).dn (f i).ds (f i).db/\((f i).name.size<=maxLen/\(f i).set.size<=maxLen))/\
   (0<n->∃b off,a=some ⟨b,off,none⟩/\∀j u,(zBC f cv n)[j]?=some u->w.cell? ⟨b,off+j,none⟩=some u):=by
 obtain⟨_,a0,c0,h0,_,g⟩:=h;simp only[Value.slice.injEq,true_and]at h0;obtain⟨rfl,rfl⟩:=h0;by_cases hn:0<n
 ·obtain⟨b,off,ha,eA,cA,hc⟩:=g hn;have bA:∀i,∃x,i<n->zAo w b (off+i*8) lo hi x (f i):=fun i=>by
   by_cases hi:i<n
   ·obtain⟨vd,hs⟩:=hc i hi;exact⟨vd,fun _=>hs⟩
   ·exact⟨.slice none 0 0,fun h=>absurd h hi⟩
  obtain⟨cv,aA⟩:=Classical.axiomOfChoice bA;refine⟨cv,fun i hi=>⟨(aA i hi).zRl,(aA i hi).zRn⟩,fun _=>⟨b,off,ha,fun j u hj=>?_⟩⟩;have dA:j<n*8:=by
   have:=(List.getElem?_eq_some_iff.1 hj).1
   rwa [zBo]at this
  have hs:=aA (j / 8) (by omega);have e:=zAv f cv n (i:=j / 8) (r:=j % 8) (by omega) (by omega);rw[show j / 8*8+j % 8=j by omega,hj]at e;have hr:j % 8<8:=(by omega);have ho:off+j=off+j / 8*8+j % 8:=(by omega);rw[ho];generalize j % 8=r at hr e ⊢;generalize j / 8=q at hs e ⊢;rcases r with _ | _ | _ | _ | _ | _ | _ | _ | r
  ·cases e;exact hs.c0
  ·cases e;exact hs.c1
  ·cases e;exact hs.c2
  ·cases e;exact hs.c3
  ·cases e;exact hs.c4
  ·cases e;exact hs.c5
  ·cases e;exact hs.c6
  ·cases e;exact hs.c7
  ·omega
 ·exact⟨fun _=>.slice none 0 0,fun i hi=>absurd hi (by omega),fun h=>absurd h hn⟩
theorem zAl{w1:World}{base n:Nat}{v:Value}{f:Nat->zl}{cv:Nat->Value}(bA:w1.ownsRow base 99 8 v n (zBC f cv n))(L:Nat)(hL:w1.heap.size<=L):∃bs a c,v = .slice a n c/\n<=c/\(0<n->a=some ⟨bs,0,none⟩/\base<=bs/\bs<w1.heap.size)/\qb w1 bs L n 0 f (fun _=>0) cv cv:=by
 obtain⟨a1,c1,rfl,cA⟩:=zY bA;by_cases h0:0<n
 ·obtain⟨g,fA,hv,_,dA,eA,aA⟩:=qY bA h0;simp only[Value.slice.injEq,true_and]at hv;obtain⟨rfl,rfl⟩:=hv;refine⟨g,_,_,rfl,cA,fun _=>⟨rfl,dA,eA⟩,fun j hj=>?_,fun j hj=>absurd hj (Nat.not_lt_zero _),fun j hj=>absurd hj (Nat.not_lt_zero _),fun i j hi=>absurd hi (Nat.not_lt_zero _),fun _=>by omega⟩;rw[if_neg (Nat.not_lt_zero _)];exact⟨aA _ _ (zAv f cv n hj (r:=0) (by omega)),aA _ _ (zAv f cv n hj (r:=1) (by omega)),aA _ _ (zAv f cv n hj (r:=2) (by omega)),aA _ _ (zAv f cv n hj (r:=3) (by omega)),aA _ _ (zAv f cv n hj (r:=4) (by omega)),aA _ _ (zAv f cv n hj (r:=5) (by omega)),aA _ _ (zAv f cv n hj (r:=6) (by omega)),aA _ _ (zAv f cv n hj (r:=7) (by omega))⟩
 ·exact⟨0,_,_,rfl,cA,fun h=>absurd h h0,fun j hj=>absurd hj (by omega),fun j hj=>absurd hj (Nat.not_lt_zero _),fun j hj=>absurd hj (Nat.not_lt_zero _),fun i j hi=>absurd hi (Nat.not_lt_zero _),fun h=>absurd h h0⟩
def zDs(W:zH):Prop:=(∀i,i<W.sn->(W.zRg i).dn<=1048576)/\∀i,i<W.pn->(W.zRe i).dn<=1048576
end Go.Proofs.YtmgeglgboadfiaaGreatDoor
