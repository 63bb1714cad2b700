/- A world that the call owns, in blocks that a question tells (no law is proved here). -/
import Derived.Test.YtmgeglgboadfiaaGreatDoorT10
set_option linter.unusedVariables false
set_option maxRecDepth 20000
set_option maxHeartbeats 4000000
namespace Go.Proofs.YtmgeglgboadfiaaGreatDoor
open Go.RowKit
def zBV(w:World)(S:Nat->Prop)(v:Value)(n:Nat)(f:Nat->qC):Prop:=∃(bs:Nat) (kb:Nat->Nat) (kv:Nat->Value),yN w bs kb kv v n f/\zBL kb n f/\∀k,zCB bs kb n f k->S k
def zAo(w:World)(S:Nat->Prop)(v:Value)(n:Nat)(f:Nat->zm):Prop:=∃(bs:Nat) (kb:Nat->Nat) (kv:Nat->Value),yV w bs kb kv v n f/\zBD kb n f/\∀k,zB6 bs kb n f k->S k
theorem zBV.zRR{S T:Nat->Prop}{w w':World}{v:Value}{n:Nat}{f:Nat->qC}(h:zBV w S v n f)(t:zF T w w')(hs:∀k,S k->¬T k):zBV w' S v n f:=by
 obtain⟨bs,kb,kv,h1,h2,h3⟩:=h;exact⟨bs,kb,kv,h1.zRR t (fun k hk=>hs k (h3 k hk)),h2,h3⟩
theorem zAo.zRR{S T:Nat->Prop}{w w':World}{v:Value}{n:Nat}{f:Nat->zm}(h:zAo w S v n f)(t:zF T w w')(hs:∀k,S k->¬T k):zAo w' S v n f:=by
 obtain⟨bs,kb,kv,h1,h2,h3⟩:=h;exact⟨bs,kb,kv,h1.zRR t (fun k hk=>hs k (h3 k hk)),h2,h3⟩
theorem zBV.zRJ{S:Nat->Prop}{w w':World}{v:Value}{n:Nat}{f:Nat->qC}(h:zBV w S v n f)(t:Below w.heap.size w w'):zBV w' S v n f:=by
 obtain⟨bs,kb,kv,h1,h2,h3⟩:=h;exact⟨bs,kb,kv,h1.zRJ t,h2,h3⟩
theorem zAo.zRJ{S:Nat->Prop}{w w':World}{v:Value}{n:Nat}{f:Nat->zm}(h:zAo w S v n f)(t:Below w.heap.size w w'):zAo w' S v n f:=by
 obtain⟨bs,kb,kv,h1,h2,h3⟩:=h;exact⟨bs,kb,kv,h1.zRJ t,h2,h3⟩
theorem zBV.at{S:Nat->Prop}{w:World}{v:Value}{n:Nat}{f:Nat->qC}(h:zBV w S v n f){lo hi:Nat}(hs:∀k,S k->lo<=k/\k<hi):yY w lo hi v n f:=by
 obtain⟨bs,kb,kv,h1,h2,h3⟩:=h;exact h1.at (fun k hk=>hs k (h3 k hk))
theorem zAo.at{S:Nat->Prop}{w:World}{v:Value}{n:Nat}{f:Nat->zm}(h:zAo w S v n f){lo hi:Nat}(hs:∀k,S k->lo<=k/\k<hi):yB w lo hi v n f:=by
 obtain⟨bs,kb,kv,h1,h2,h3⟩:=h;exact h1.at (fun k hk=>hs k (h3 k hk))
theorem zBV.form{S:Nat->Prop}{w:World}{v:Value}{n:Nat}{f:Nat->qC}(h:zBV w S v n f):∃a c,v = .slice a n c/\n<=c:=by
 obtain⟨bs,kb,kv,⟨_,a,c,hv,hc,_⟩,h2,h3⟩:=h;exact⟨a,c,hv,hc⟩
theorem zAo.form{S:Nat->Prop}{w:World}{v:Value}{n:Nat}{f:Nat->zm}(h:zAo w S v n f):∃a c,v = .slice a n c/\n<=c:=by
 obtain⟨bs,kb,kv,⟨_,a,c,hv,hc,_⟩,h2,h3⟩:=h;exact⟨a,c,hv,hc⟩
theorem qZ.form{w:World}{S:Nat->Prop}{v0 v1:Value}{p:zJ}(h:qZ w S v0 v1 p):∃a c a' c',v0 = .slice a p.n c/\v1 = .slice a' p.hn c':=by
 obtain⟨bs,hb,kb,kv,⟨_,a,c,h1,_⟩,h2,⟨_,a',c',h3,_,_⟩,h4,h5⟩:=h;exact⟨a,c,a',c',h1,h3⟩
structure zCI (w:World) (P Q R:Nat->Prop) (v0 v1 v2 v3:Value) (W:zH):Prop where
 zRQ:qZ w P v0 v1 W.zRQ
 zRS:zBV w Q v2 W.sn W.zRS
 zRP:zAo w R v3 W.pn W.zRP
 pq:∀k,P k->¬Q k
 pr:∀k,P k->¬R k
 qr:∀k,Q k->¬R k
def qN(w:World)(lo hi:Nat)(v0 v1 v2 v3:Value)(W:zH):Prop:=∃P Q R,zCI w P Q R v0 v1 v2 v3 W/\∀k,P k\/Q k\/R k->lo<=k/\k<hi
theorem qN.at{w:World}{lo hi:Nat}{v0 v1 v2 v3:Value}{W:zH}(h:qN w lo hi v0 v1 v2 v3 W):zl w lo hi v0 v1 v2 v3 W:=by
 obtain⟨P,Q,R,h,hl⟩:=h;exact⟨h.zRQ.at (fun k hk=>hl k (Or.inl hk)),h.zRS.at (fun k hk=>hl k (Or.inr (Or.inl hk))),h.zRP.at (fun k hk=>hl k (Or.inr (Or.inr hk)))⟩
theorem zCI.zRJ{P Q R:Nat->Prop}{w w':World}{v0 v1 v2 v3:Value}{W:zH}(h:zCI w P Q R v0 v1 v2 v3 W)(t:Below w.heap.size w w'):zCI w' P Q R v0 v1 v2 v3 W:=
 ⟨h.zRQ.zRJ t,h.zRS.zRJ t,h.zRP.zRJ t,h.pq,h.pr,h.qr⟩
theorem qN.zRJ{w w':World}{lo hi:Nat}{v0 v1 v2 v3:Value}{W:zH}(h:qN w lo hi v0 v1 v2 v3 W)(t:Below w.heap.size w w'):qN w' lo hi v0 v1 v2 v3 W:=by
 obtain⟨P,Q,R,h,hl⟩:=h;exact⟨P,Q,R,h.zRJ t,hl⟩
theorem zCI.zRR{P Q R T:Nat->Prop}{w w':World}{v0 v1 v2 v3:Value}{W:zH}(h:zCI w P Q R v0 v1 v2 v3 W)(t:zF T w w')(hs:∀k,P k\/Q k\/R k->¬T k):zCI w' P Q R v0 v1 v2 v3 W:=
 ⟨h.zRQ.zRR t (fun k hk=>hs k (Or.inl hk)),h.zRS.zRR t (fun k hk=>hs k (Or.inr (Or.inl hk))),h.zRP.zRR t (fun k hk=>hs k (Or.inr (Or.inr hk))),h.pq,h.pr,h.qr⟩
theorem qN.zRR{S:Nat->Prop}{w w':World}{lo hi:Nat}{v0 v1 v2 v3:Value}{W:zH}(h:qN w lo hi v0 v1 v2 v3 W)(t:zF S w w')(hs:∀k,S k->k<lo\/hi<=k):qN w' lo hi v0 v1 v2 v3 W:=by
 obtain⟨P,Q,R,h,hl⟩:=h;exact⟨P,Q,R,h.zRR t (fun k hk hx=>by have:=hl k hk;have:=hs k hx;omega),hl⟩
theorem qN.zRO{w:World}{lo hi lo' hi':Nat}{v0 v1 v2 v3:Value}{W:zH}(h:qN w lo hi v0 v1 v2 v3 W)(h1:lo'<=lo)(h2:hi<=hi'):qN w lo' hi' v0 v1 v2 v3 W:=by
 obtain⟨P,Q,R,h,hl⟩:=h;exact⟨P,Q,R,h,fun k hk=>by have:=hl k hk;omega⟩
theorem qN.form{w:World}{lo hi:Nat}{v0 v1 v2 v3:Value}{W:zH}(h:qN w lo hi v0 v1 v2 v3 W):∃a0 c0 a1 c1 a2 c2 a3 c3,v0 = .slice a0 W.zRQ.n c0/\v1 = .slice a1 W.zRQ.hn c1/\v2 = .slice a2 W.sn c2/\v3 = .slice a3 W.pn c3:=by
 obtain⟨P,Q,R,h,hl⟩:=h;obtain⟨a0,c0,a1,c1,e0,e1⟩:=h.zRQ.form;obtain⟨a2,c2,e2,-⟩:=h.zRS.form;obtain⟨a3,c3,e3,-⟩:=h.zRP.form;exact⟨a0,c0,a1,c1,a2,c2,a3,c3,e0,e1,e2,e3⟩
theorem zl.form{w:World}{lo hi:Nat}{v0 v1 v2 v3:Value}{W:zH}(h:zl w lo hi v0 v1 v2 v3 W):∃a0 c0 a1 c1 a2 c2 a3 c3,v0 = .slice a0 W.zRQ.n c0/\v1 = .slice a1 W.zRQ.hn c1/\v2 = .slice a2 W.sn c2/\v3 = .slice a3 W.pn c3:=by
 obtain⟨a0,c0,a1,c1,e0,e1⟩:=h.zRQ.form;obtain⟨-,a2,c2,e2,-⟩:=h.zRS;obtain⟨-,a3,c3,e3,-⟩:=h.zRP;exact⟨a0,c0,a1,c1,a2,c2,a3,c3,e0,e1,e2,e3⟩
def zPZ(W:zH)(w:World)(e:Ending)(w':World):Prop:=∃v0 v1 v2 v3,e = .returned (zz v0 v1 v2 v3 W)/\qN w' w.heap.size w'.heap.size v0 v1 v2 v3 W/\Below w.heap.size w w'
theorem yY.zRO{w:World}{lo hi lo' hi':Nat}{v:Value}{n:Nat}{f:Nat->qC}(h:yY w lo hi v n f)(h1:lo'<=lo)(h2:hi<=hi')(hp:∀{v n f g},zU w lo hi v n f g->zU w lo' hi' v n f g):yY w lo' hi' v n f:=by
 obtain⟨m,a,c,hv,hc,hx⟩:=h;refine⟨m,a,c,hv,hc,fun h0=>?_⟩;obtain⟨b,off,ha,l1,l2,h3⟩:=hx h0;refine⟨b,off,ha,by omega,by omega,fun i hi=>?_⟩;obtain⟨vd,hs⟩:=h3 i hi;exact⟨vd,hs.c0,hs.c1,hs.c2,hs.c3,hs.c4,hs.c5,hp hs.zRX,hs.zRZ⟩
theorem yB.zRO{w:World}{lo hi lo' hi':Nat}{v:Value}{n:Nat}{f:Nat->zm}(h:yB w lo hi v n f)(h1:lo'<=lo)(h2:hi<=hi')(hp:∀{v n f g},zU w lo hi v n f g->zU w lo' hi' v n f g):yB w lo' hi' v n f:=by
 obtain⟨m,a,c,hv,hc,hx⟩:=h;refine⟨m,a,c,hv,hc,fun h0=>?_⟩;obtain⟨b,off,ha,l1,l2,h3⟩:=hx h0;refine⟨b,off,ha,by omega,by omega,fun i hi=>?_⟩;obtain⟨vd,hs⟩:=h3 i hi;exact⟨vd,hs.c0,hs.c1,hs.c2,hs.c3,hs.c4,hs.c5,hs.c6,hs.c7,hp hs.zRX,hs.zRZ⟩
theorem qA.zRO{w:World}{lo hi lo' hi':Nat}{v:Value}{n:Nat}{f:Nat->zL}(h:qA w lo hi v n f)(h1:lo'<=lo)(h2:hi<=hi'):qA w lo' hi' v n f:=by
 obtain⟨m,a,c,hv,hc,hx⟩:=h;refine⟨m,a,c,hv,hc,fun h0=>?_⟩;obtain⟨b,off,ha,l1,l2,h3⟩:=hx h0;refine⟨b,off,ha,by omega,by omega,fun i hi=>?_⟩;obtain⟨x0,x1,x2,c0,c1,c2,e0,hp,e2,hs⟩:=h3 i hi;exact⟨x0,x1,x2,c0,c1,c2,e0,hp.zRO h1 h2,e2,hs⟩
theorem zl.zRO{w:World}{lo hi lo' hi':Nat}{v0 v1 v2 v3:Value}{W:zH}(h:zl w lo hi v0 v1 v2 v3 W)(h1:lo'<=lo)(h2:hi<=hi'):zl w lo' hi' v0 v1 v2 v3 W:=
 ⟨⟨h.zRQ.1.zRO h1 h2,h.zRQ.2.zRO h1 h2⟩,h.zRS.zRO h1 h2 (fun hp=>hp.zRO h1 h2),h.zRP.zRO h1 h2 (fun hp=>hp.zRO h1 h2)⟩
theorem zIm(v:Value)(n lo hi:Nat)(f g:Nat->Int)(w:World)(h1:zU w lo hi v n f g)(hn:n<=1048576) :
  Calls Tryz.prog 171 #[v] w fun e w'=>(∃v' kb,e = .returned v'/\zj w' kb v' n f g/\(0<n->w.heap.size<=kb/\kb<w'.heap.size))/\Below w.heap.size w w':=by
 obtain⟨m1,a,c,rfl,mc,g1⟩:=h1;have G1:Hid (0<n->∃b off,a=some ⟨b,off,none⟩/\lo<=b/\b<hi/\∀i,i<n->w.cell? ⟨b,off+i*2,none⟩=some (.int .i64 (f i))/\w.cell? ⟨b,off+i*2+1,none⟩=some (.int .i64 (g i))):=g1;have Hm:Hid (n<=maxLen):=m1;clear g1 m1;have oA:=fun w=>Lib.run_eql_slice_nil (P:=Tryz.prog) w 62 61 a n c 0 0 (by kernel_rfl)
 cases a with
 | none=>
  have nA:n=0:=by
   by_cases h:0<n
   ·obtain⟨b,off,ha,_⟩:=G1.out h;simp at ha
   ·omega
  subst nA;go_enter Tryz.func171,Tryz.ntmps171;go_wp2;go_ret;exact⟨⟨_,0,rfl,⟨Nat.zero_le _,none,0,rfl,Nat.le_refl _,fun h=>absurd h (Nat.lt_irrefl _)⟩,fun h=>absurd h (Nat.lt_irrefl _)⟩,Below.refl _ _⟩
 | some ad=>
  obtain⟨i0,hi,lA⟩:=Option.map_eq_some_iff.1 zCn;simp only[Prod.mk.injEq]at lA;obtain⟨hz,hs,kA⟩:=lA;have fA:∀(w':World),Below w.heap.size w w'->∀j u,(kc f g n)[j]?=some u->w'.cell? (ad.add j)=some u:=fun w' hb j u hj=>by
   by_cases h0:0<n
   ·obtain⟨b,off,ha,_,_,hc⟩:=G1.out h0;simp only[Option.some.injEq]at ha;subst ha;have:=zFl hc j u hj;have gA:(⟨b,off,none⟩:Addr).add j=⟨b,off+j,none⟩:=(by unfold Addr.add;split<;>simp_all);rw[gA]at this ⊢;exact(hb.cell (zD this)).trans this
   ·obtain rfl:n=0:=(by omega);simp[kc]at hj
  have iA:Hid (∀(w':World),Below w.heap.size w w'->∀j u,(kc f g n)[j]?=some u->w'.cell? (ad.add j)=some u):=fA;have HI:Hid (Tryz.prog.info? 61=some i0/\i0.zero=some (.agg #[.int .i64 0,.int .i64 0])/\i0.size=2/\i0.bytes=16):=⟨hi,hz,hs,kA⟩;have aA:(w.alloc (.cells #[] 61)).ownsRow w.heap.size 61 2 (.slice (some ⟨w.heap.size,0,none⟩) 0 0) 0 []:=World.ownsRow_made w #[] 0 (Nat.le_refl _) (Nat.zero_le _) (by simp);have eA:Hid ((w.alloc (.cells #[] 61)).ownsRow w.heap.size 61 2 (.slice (some ⟨w.heap.size,0,none⟩) 0 0) 0 []):=aA;clear hi hz hs kA fA aA;go_enter Tryz.func171,Tryz.ntmps171;go_wp2_with (first
   | (at_builtin;refine wpList_append_own _ rfl _ _ 62 rfl w.heap.size 61 i0 (.agg #[.int .i64 0,.int .i64 0]) 2 16 (by kernel_rfl) HI.out.1 HI.out.2.1 HI.out.2.2.1 HI.out.2.2.2 rfl (by decide) _ _ _ rfl eA.out ad n c (kc f g n) rfl (zEP f g n) ?c1 (zJv f g n) ?c3 ?c4 ?c5 ?_))
  case c1=>exact iA.out _ ((Below.refl _ _).alloc (Nat.le_refl _) _)
  case c3=>unfold maxLen;omega
  case c4=>omega
  case c5=>simp
  intro v' w1 cA dA jA;have mA:Below w.heap.size w w1:=((Below.refl _ _).alloc (Nat.le_refl _) _).grown dA (by simp) (fun q hq=>by have:=eA.out.lt q hq;omega);have bA:w1.ownsRow w.heap.size 61 2 v' n (kc f g n):=(by simpa using cA);obtain⟨kb,hp,hk⟩:=zCJ Hm.out bA;have Hp:Hid (zj w1 kb v' n f g/\(0<n->w.heap.size<=kb/\kb<w1.heap.size)):=⟨hp,hk⟩;clear hp hk cA bA dA jA;go_wp2;go_ret;exact⟨⟨v',kb,rfl,Hp.out.1,Hp.out.2⟩,mA⟩
theorem zI9(v0 v1 v2:Value)(lo hi:Nat)(s:zL)(w:World)(h1:qI w lo hi v0 v1 v2 s)(hn:s.kn<=1048576) :
  Calls Tryz.prog 219 #[.agg #[v0,v1,v2]] w (zND s w):=by
 obtain⟨rfl,p1,rfl,m1⟩:=h1;have q1:=p1;obtain⟨_,a,c,rfl,_⟩:=p1;go_enter Tryz.func219,Tryz.ntmps219;go_wp2_with fail;have eA:=zC w (.cells #[.int .i64 s.zRU,.slice a s.kn c,.string s.data] 127);have cA:=zA eA (zC _ (.cells #[.int .i64 0,.slice none 0 0,.string ⟨#[]⟩] 127));refine(zIm _ s.kn lo hi _ _ _ (q1.zRJ cA) hn).mono ?_;rintro e w1 ⟨⟨kv,kb,rfl,hp,hk⟩,aA⟩;have HB:Hid (yT w1 w.heap.size (.int .i64 s.zRU) (.slice a s.kn c) (.string s.data)):=((yT.zRL w _ _ _ _).zRJ (zC _ _)).zRJ aA;have HR:Hid (yT w1 (w.heap.size+1) (.int .i64 0) (.slice none 0 0) (.string ⟨#[]⟩)):=by
  have:=((yT.zRL (w.alloc (.cells #[.int .i64 s.zRU,.slice a s.kn c,.string s.data] 127)) (.int .i64 0) (.slice none 0 0) (.string ⟨#[]⟩) 127).zRJ aA);rw[World.size_alloc]at this;exact this
 have fA:=zA cA aA;rw[World.size_alloc,World.size_alloc]at hk;have Hp:Hid (zj w1 kb kv s.kn s.ks s.kb/\(0<s.kn->w.heap.size+1+1<=kb/\kb<w1.heap.size)):=⟨hp,hk⟩;obtain⟨_,ka,dA,rfl,_⟩:=hp;clear eA cA aA hk;obtain⟨⟨x0,x1⟩,⟨x2,x3⟩,⟨x4,x5⟩⟩:=HB.out;obtain⟨⟨y0,y1⟩,⟨y2,y3⟩,⟨y4,y5⟩⟩:=HR.out;go_wp2;have bA:=(HR.out.zRK (b':=w.heap.size) (o':=1) (.slice ka s.kn dA) (by omega)).put (.int .i64 s.zRU) (.slice ka s.kn dA) (.string s.data);refine bodyPost_ret (v:=.agg #[.int .i64 s.zRU,.slice ka s.kn dA,.string s.data]) (by simp[results,Tryz.results219,go_sem,bA.1.1,bA.2.1.1,bA.2.2.1]) rfl ⟨_,kb,rfl,?_,?_,?_⟩
 ·have hk:=Hp.out.2;refine(((Hp.out.1.zRR (zF.put _ _ _ _) ?_).zRR (zF.put _ _ _ _) ?_).zRR (zF.put _ _ _ _) ?_).zRR (zF.put _ _ _ _) ?_
  all_goals exact fun h0 e=>by have:=hk h0;omega
 ·intro h0;have:=Hp.out.2 h0;simp only[World.size_setCell];omega
 ·exact(((fA.setCell (by show _<=w.heap.size;omega) _).setCell (by show _<=w.heap.size+1;omega) _).setCell (by show _<=w.heap.size+1;omega) _).setCell (by show _<=w.heap.size+1;omega) _
theorem zLr(v0 v1 v2:Value)(lo hi:Nat)(s:zL)(w:World)(h1:qI w lo hi v0 v1 v2 s)(hn:s.kn<=1048576) :
  Calls Tryz.prog 146 #[.agg #[v0,v1,v2]] w (zND s w):=by
 obtain⟨rfl,⟨m1,a,c,rfl,mc,g1⟩,rfl,m2⟩:=h1;have G1:Hid (0<s.kn->∃b off,a=some ⟨b,off,none⟩/\lo<=b/\b<hi/\∀i,i<s.kn->w.cell? ⟨b,off+i*2,none⟩=some (.int .i64 (s.ks i))/\w.cell? ⟨b,off+i*2+1,none⟩=some (.int .i64 (s.kb i))):=g1;have Hm:Hid (s.kn<=maxLen):=m1;clear g1 m1;obtain⟨i0,hi',bB⟩:=Option.map_eq_some_iff.1 zCn;simp only[Prod.mk.injEq]at bB;obtain⟨hz,hs,rA⟩:=bB;have HI:Hid (Tryz.prog.info? 61=some i0/\i0.zero=some (.agg #[.int .i64 0,.int .i64 0])/\i0.size=2/\i0.bytes=16):=⟨hi',hz,hs,rA⟩;clear hi' hz hs rA;have vA:=zC w (.cells #[.int .i64 s.zRU,.slice a s.kn c,.string s.data] 127);have sA:=zA vA (zC _ (.cells #[.int .i64 0,.slice none 0 0,.string ⟨#[]⟩] 127));have tA:=zA sA (zC _ (.cells #[] 61));have kA:Hid (Below w.heap.size w (((w.alloc (.cells #[.int .i64 s.zRU,.slice a s.kn c,.string s.data] 127)).alloc (.cells #[.int .i64 0,.slice none 0 0,.string ⟨#[]⟩] 127)).alloc (.cells #[] 61))):=tA;have bA:=World.ownsRow_made (base:=w.heap.size+1+1) (e:=61) (size:=2) ((w.alloc (.cells #[.int .i64 s.zRU,.slice a s.kn c,.string s.data] 127)).alloc (.cells #[.int .i64 0,.slice none 0 0,.string ⟨#[]⟩] 127)) #[] 0 (by simp) (Nat.zero_le _) (by simp);rw[World.size_alloc,World.size_alloc]at bA;have aA:Hid ((((w.alloc (.cells #[.int .i64 s.zRU,.slice a s.kn c,.string s.data] 127)).alloc (.cells #[.int .i64 0,.slice none 0 0,.string ⟨#[]⟩] 127)).alloc (.cells #[] 61)).ownsRow (w.heap.size+1+1) 61 2 (.slice (some ⟨w.heap.size+1+1,0,none⟩) 0 0) 0 []):=bA;have jA:Hid (yT (((w.alloc (.cells #[.int .i64 s.zRU,.slice a s.kn c,.string s.data] 127)).alloc (.cells #[.int .i64 0,.slice none 0 0,.string ⟨#[]⟩] 127)).alloc (.cells #[] 61)) w.heap.size (.int .i64 s.zRU) (.slice a s.kn c) (.string s.data)):=((yT.zRL w _ _ _ _).zRJ (zC _ _)).zRJ (zC _ _);have iA:Hid (yT (((w.alloc (.cells #[.int .i64 s.zRU,.slice a s.kn c,.string s.data] 127)).alloc (.cells #[.int .i64 0,.slice none 0 0,.string ⟨#[]⟩] 127)).alloc (.cells #[] 61)) (w.heap.size+1) (.int .i64 0) (.slice none 0 0) (.string ⟨#[]⟩)):=by
  have:=((yT.zRL (w.alloc (.cells #[.int .i64 s.zRU,.slice a s.kn c,.string s.data] 127)) (.int .i64 0) (.slice none 0 0) (.string ⟨#[]⟩) 127).zRJ (zC _ (.cells #[] 61)));rw[World.size_alloc]at this;exact this
 clear vA sA tA bA;go_enter Tryz.func146,Tryz.ntmps146;cases a with
 | none=>
  have cB:s.kn=0:=by
   by_cases h:0<s.kn
   ·obtain⟨b,off,ha,_⟩:=G1.out h;simp at ha
   ·omega
  have gA:Hid (s.kn=0):=cB;clear cB;go_wp2_with (first
   | (at_builtin;refine zF2 rfl _ _ 62 rfl (w.heap.size+1+1) 61 i0 2 c s.kn (by kernel_rfl) HI.out.1 (.slice (some ⟨w.heap.size+1+1,0,none⟩) 0 0) 0 [] rfl ?c0 gA.out rfl ?_))
  case c0=>exact aA.out
  refine bodyPost_ret (v:=.agg #[.int .i64 s.zRU,.slice (some ⟨w.heap.size+1+1,0,none⟩) 0 0,.string s.data]) (by simp[results,Tryz.results146,go_sem]) rfl ⟨_,0,rfl,?_,?_,?_⟩
  ·exact⟨Hm.out,_,0,by rw[gA.out],by rw[gA.out];exact Nat.le_refl _,fun h=>absurd h (by rw[gA.out];exact Nat.lt_irrefl _)⟩
  ·exact fun h=>absurd h (by rw[gA.out];exact Nat.lt_irrefl _)
  ·exact zA (zA (zC _ _) (zC _ _)) (zC _ _)
 | some ad=>
  have mA:Hid (∀(w':World),Below w.heap.size w w'->∀j u,(kc s.ks s.kb s.kn)[j]?=some u->w'.cell? (ad.add j)=some u):=fun w' hb j u hj=>by
   by_cases h0:0<s.kn
   ·obtain⟨b,off,ha,_,_,hc⟩:=G1.out h0;simp only[Option.some.injEq]at ha;subst ha;have:=zFl hc j u hj;have pA:(⟨b,off,none⟩:Addr).add j=⟨b,off+j,none⟩:=(by unfold Addr.add;split<;>simp_all);rw[pA]at this ⊢;exact(hb.cell (zD this)).trans this
   ·have fB:s.kn=0:=(by omega);rw[fB]at hj;simp[kc]at hj
  go_wp2_with (first
   | (at_builtin;refine wpList_append_own _ rfl _ _ 62 rfl (w.heap.size+1+1) 61 i0 (.agg #[.int .i64 0,.int .i64 0]) 2 16 (by kernel_rfl) HI.out.1 HI.out.2.1 HI.out.2.2.1 HI.out.2.2.2 rfl (by decide) _ 0 [] rfl ?c0 ad s.kn c (kc s.ks s.kb s.kn) rfl (zEP _ _ _) ?c1 (zJv _ _ _) ?c3 ?c4 ?c5 ?_))
  case c0=>exact aA.out
  case c1=>exact mA.out _ kA.out
  case c3=>unfold maxLen;omega
  case c4=>omega
  case c5=>simp
  intro v' w1 dA cA oA;have eA:w1.ownsRow (w.heap.size+1+1) 61 2 v' s.kn (kc s.ks s.kb s.kn):=(by simpa using dA);have dB:Below w.heap.size w w1:=kA.out.grown cA (by simp;omega) (fun q hq=>by have:=aA.out.lt q hq;omega);have fA:∀b,b<w.heap.size+1+1->∀o x,zX (((w.alloc (.cells #[.int .i64 s.zRU,.slice (some ad) s.kn c,.string s.data] 127)).alloc (.cells #[.int .i64 0,.slice none 0 0,.string ⟨#[]⟩] 127)).alloc (.cells #[] 61)) b o x->zX w1 b o x:=fun b hb o x hx=>by
   have e:=zLA cA aA.out hb hx.lt;exact⟨(World.cell?_of_block (a:=⟨b,o,none⟩) e).trans hx.1,(World.frozen?_of_block (a:=⟨b,o,none⟩) e).trans hx.2⟩
  have eB:Hid (yT w1 w.heap.size (.int .i64 s.zRU) (.slice (some ad) s.kn c) (.string s.data)):=⟨fA _ (by omega) _ _ jA.out.1,fA _ (by omega) _ _ jA.out.2.1,fA _ (by omega) _ _ jA.out.2.2⟩;have aB:Hid (yT w1 (w.heap.size+1) (.int .i64 0) (.slice none 0 0) (.string ⟨#[]⟩)):=⟨fA _ (by omega) _ _ iA.out.1,fA _ (by omega) _ _ iA.out.2.1,fA _ (by omega) _ _ iA.out.2.2⟩;obtain⟨kb,hp,hk⟩:=zCJ Hm.out eA;have Hp:Hid (zj w1 kb v' s.kn s.ks s.kb/\(0<s.kn->w.heap.size+1+1<=kb/\kb<w1.heap.size)):=⟨hp,hk⟩;obtain⟨_,ka,lA,rfl,_⟩:=hp;clear hk dA eA cA oA fA jA iA aA kA;obtain⟨⟨x0,x1⟩,⟨x2,x3⟩,⟨x4,x5⟩⟩:=eB.out;obtain⟨⟨y0,y1⟩,⟨y2,y3⟩,⟨y4,y5⟩⟩:=aB.out;go_wp2;have nA:=(aB.out.zRK (b':=w.heap.size) (o':=1) (.slice ka s.kn lA) (by omega)).put (.int .i64 s.zRU) (.slice ka s.kn lA) (.string s.data);refine bodyPost_ret (v:=.agg #[.int .i64 s.zRU,.slice ka s.kn lA,.string s.data]) (by simp[results,Tryz.results146,go_sem,nA.1.1,nA.2.1.1,nA.2.2.1]) rfl ⟨_,kb,rfl,?_,?_,?_⟩
  ·have hk:=Hp.out.2;refine(((Hp.out.1.zRR (zF.put _ _ _ _) ?_).zRR (zF.put _ _ _ _) ?_).zRR (zF.put _ _ _ _) ?_).zRR (zF.put _ _ _ _) ?_
   all_goals exact fun h0 e=>by have:=hk h0;omega
  ·intro h0;have:=Hp.out.2 h0;simp only[World.size_setCell];omega
  ·exact(((dB.setCell (by show _<=w.heap.size;omega) _).setCell (by show _<=w.heap.size+1;omega) _).setCell (by show _<=w.heap.size+1;omega) _).setCell (by show _<=w.heap.size+1;omega) _
theorem zIy(a:Option Addr)(n c:Nat)(xs:List Value)(w:World)(hl:xs.length=n*1)(gA:∀u∈xs,u.oneCell'=true)(hn:n<=1048576)
    (hc:0<n->∃b off,a=some ⟨b,off,none⟩/\∀j u,xs[j]?=some u->w.cell? ⟨b,off+j,none⟩=some u) :
    Calls Tryz.prog 211 #[.slice a n c] w fun e w'=>∃v',e = .returned v'/\w'.ownsRow w.heap.size 2 1 v' n xs/\Below w.heap.size w w'/\(n=0->∃a,v' = .slice a 0 0):=by
  have Hc:Hid (0<n->∃b off,a=some ⟨b,off,none⟩/\∀j u,xs[j]?=some u->w.cell? ⟨b,off+j,none⟩=some u):=hc;have Hl:Hid (xs.length=n*1/\∀u∈xs,u.oneCell'=true):=⟨hl,gA⟩;clear hc hl gA;have pA:=fun w=>Lib.run_eql_slice_nil (P:=Tryz.prog) w 23 2 a n c 0 0 (by kernel_rfl)
  cases a with
  | none=>
    have oA:n=0:=by
      by_cases h:0<n
      · obtain⟨b,off,ha,_⟩:=Hc.out h;simp at ha
      · omega
    subst oA;have nA:xs = []:=List.eq_nil_of_length_eq_zero (by simpa using Hl.out.1);subst nA;go_enter Tryz.func211,Tryz.ntmps211;go_wp2;go_ret;exact⟨_,rfl,World.ownsRow_nil _ _ _ _,Below.refl _ _,fun _=>⟨_,rfl⟩⟩
  | some ad=>
    obtain⟨i0,hi,lA⟩:=Option.map_eq_some_iff.1 zDH;simp only[Prod.mk.injEq]at lA;obtain⟨hz,hs,kA⟩:=lA;have HI:Hid (Tryz.prog.info? 2=some i0/\i0.zero=some (.int .i64 0)/\i0.size=1/\i0.bytes=8):=⟨hi,hz,hs,kA⟩;have eA:Hid ((w.alloc (.cells #[] 2)).ownsRow w.heap.size 2 1 (.slice (some ⟨w.heap.size,0,none⟩) 0 0) 0 []):=World.ownsRow_made w #[] 0 (Nat.le_refl _) (Nat.zero_le _) (by simp);clear hi hz hs kA;go_enter Tryz.func211,Tryz.ntmps211;go_wp2_with (first
      | (at_builtin;refine qJ rfl _ _ 23 rfl w.heap.size 2 i0 (.int .i64 0) 1 8 (by kernel_rfl) HI.out.1 HI.out.2.1 HI.out.2.2.1 HI.out.2.2.2 rfl (by decide) _ _ _ rfl eA.out (some ad) n c xs rfl Hl.out.1 Hl.out.2 ?c1 ?c3 ?c4 ?c5 ?_))
    case c1=>
      intro h0;obtain⟨b,off,ha,cA⟩:=Hc.out h0;exact⟨b,off,ha,fun j u hj=>(((Below.refl _ _).alloc (Nat.le_refl _) _).cell (zD (cA j u hj))).trans (cA j u hj)⟩
    case c3=>unfold maxLen;omega
    case c4=>omega
    case c5=>simp
    intro v' w1 bA dA iA;have mA:Below w.heap.size w w1:=((Below.refl _ _).alloc (Nat.le_refl _) _).grown dA (by simp) (fun q hq=>by have:=eA.out.lt q hq;omega);have aA:w1.ownsRow w.heap.size 2 1 v' n xs:=(by simpa using bA);have fA:Hid (w1.ownsRow w.heap.size 2 1 v' n xs):=aA;have jA:Hid (n=0->v' = .slice (some ⟨w.heap.size,0,none⟩) 0 0):=iA;clear bA aA dA iA;go_wp2;go_ret;exact⟨v',rfl,fA.out,mA,fun e=>⟨_,jA.out e⟩⟩
theorem zIL(a:Option Addr)(n c:Nat)(xs:List Value)(w:World)(hl:xs.length=n*3)(gA:∀u∈xs,u.oneCell'=true)(hn:n<=1048576)
    (hc:0<n->∃b off,a=some ⟨b,off,none⟩/\∀j u,xs[j]?=some u->w.cell? ⟨b,off+j,none⟩=some u) :
    Calls Tryz.prog 218 #[.slice a n c] w fun e w'=>∃v',e = .returned v'/\w'.ownsRow w.heap.size 127 3 v' n xs/\Below w.heap.size w w'/\(n=0->∃a,v' = .slice a 0 0):=by
  have Hc:Hid (0<n->∃b off,a=some ⟨b,off,none⟩/\∀j u,xs[j]?=some u->w.cell? ⟨b,off+j,none⟩=some u):=hc;have Hl:Hid (xs.length=n*3/\∀u∈xs,u.oneCell'=true):=⟨hl,gA⟩;clear hc hl gA;have pA:=fun w=>Lib.run_eql_slice_nil (P:=Tryz.prog) w 31 127 a n c 0 0 (by kernel_rfl)
  cases a with
  | none=>
    have oA:n=0:=by
      by_cases h:0<n
      · obtain⟨b,off,ha,_⟩:=Hc.out h;simp at ha
      · omega
    subst oA;have nA:xs = []:=List.eq_nil_of_length_eq_zero (by simpa using Hl.out.1);subst nA;go_enter Tryz.func218,Tryz.ntmps218;go_wp2;go_ret;exact⟨_,rfl,World.ownsRow_nil _ _ _ _,Below.refl _ _,fun _=>⟨_,rfl⟩⟩
  | some ad=>
    obtain⟨i0,hi,lA⟩:=Option.map_eq_some_iff.1 zEg;simp only[Prod.mk.injEq]at lA;obtain⟨hz,hs,kA⟩:=lA;have HI:Hid (Tryz.prog.info? 127=some i0/\i0.zero=some (.agg #[.int .i64 0,.slice none 0 0,.string ⟨#[]⟩])/\i0.size=3/\i0.bytes=48):=⟨hi,hz,hs,kA⟩;have eA:Hid ((w.alloc (.cells #[] 127)).ownsRow w.heap.size 127 3 (.slice (some ⟨w.heap.size,0,none⟩) 0 0) 0 []):=World.ownsRow_made w #[] 0 (Nat.le_refl _) (Nat.zero_le _) (by simp);clear hi hz hs kA;go_enter Tryz.func218,Tryz.ntmps218;go_wp2_with (first
      | (at_builtin;refine qJ rfl _ _ 31 rfl w.heap.size 127 i0 (.agg #[.int .i64 0,.slice none 0 0,.string ⟨#[]⟩]) 3 48 (by kernel_rfl) HI.out.1 HI.out.2.1 HI.out.2.2.1 HI.out.2.2.2 rfl (by decide) _ _ _ rfl eA.out (some ad) n c xs rfl Hl.out.1 Hl.out.2 ?c1 ?c3 ?c4 ?c5 ?_))
    case c1=>
      intro h0;obtain⟨b,off,ha,cA⟩:=Hc.out h0;exact⟨b,off,ha,fun j u hj=>(((Below.refl _ _).alloc (Nat.le_refl _) _).cell (zD (cA j u hj))).trans (cA j u hj)⟩
    case c3=>unfold maxLen;omega
    case c4=>omega
    case c5=>simp
    intro v' w1 bA dA iA;have mA:Below w.heap.size w w1:=((Below.refl _ _).alloc (Nat.le_refl _) _).grown dA (by simp) (fun q hq=>by have:=eA.out.lt q hq;omega);have aA:w1.ownsRow w.heap.size 127 3 v' n xs:=(by simpa using bA);have fA:Hid (w1.ownsRow w.heap.size 127 3 v' n xs):=aA;have jA:Hid (n=0->v' = .slice (some ⟨w.heap.size,0,none⟩) 0 0):=iA;clear bA aA dA iA;go_wp2;go_ret;exact⟨v',rfl,fA.out,mA,fun e=>⟨_,jA.out e⟩⟩
theorem zIt(v0 v1:Value)(lo hi:Nat)(p:zJ)(w:World)(h1:zy w lo hi v0 v1 p)(hn:qD p<=1048576):Calls Tryz.prog 82 #[.agg #[v0,v1]] w (zPD p w):=by
  have Hp:=zT h1;obtain⟨⟨m1,a,c,rfl,mc,g1⟩,⟨m2,a',c',rfl,gD,g2⟩⟩:=h1;have Hm:=zT (And.intro m1 m2);clear g1 g2 m1 m2;unfold qD at hn;have Hn:Hid (∀j,j<p.n->(p.s j).kn<=1048576):=fun j hj=>by have h2:=zFf p.s hj;unfold zAU at h2;omega
  have bD:p.n<=1048576:=(by omega);have dD:p.hn<=1048576:=(by omega);clear hn;obtain⟨i0,tB,fB⟩:=Option.map_eq_some_iff.1 zDH;simp only[Prod.mk.injEq]at fB;have HI:=zT (And.intro tB fB);obtain⟨i1,kB,mA⟩:=Option.map_eq_some_iff.1 zEg;simp only[Prod.mk.injEq]at mA;have vA:=zT (And.intro kB mA);clear tB fB kB mA;have rB:=zC w (.cells #[.slice a p.n c,.slice a' p.hn c'] 33);have lB:=zA rB (zC _ (.cells #[.slice none 0 0,.slice none 0 0] 33));have aB:=zT (zA lB (zC _ (.cells #[] 2)));have eA:=World.ownsRow_made (base:=w.heap.size+1+1) (e:=2) (size:=1) ((w.alloc (.cells #[.slice a p.n c,.slice a' p.hn c'] 33)).alloc (.cells #[.slice none 0 0,.slice none 0 0] 33)) #[] 0 (by simp) (Nat.zero_le _) (by simp);rw[World.size_alloc,World.size_alloc]at eA;have dA:=zT eA;have oB:=zT (((zc.zRL w (.slice a p.n c) (.slice a' p.hn c') 33).zRJ (zC _ (.cells #[.slice none 0 0,.slice none 0 0] 33))).zRJ (zC _ (.cells #[] 2)));have eB:=(zc.zRL (w.alloc (.cells #[.slice a p.n c,.slice a' p.hn c'] 33)) (.slice none 0 0) (.slice none 0 0) 33).zRJ (zC _ (.cells #[] 2));rw[World.size_alloc]at eB;have nB:=zT eB;clear rB lB eA eB;go_enter Tryz.func82,Tryz.ntmps82;go_wp2_with (first
    | (at_builtin;refine qJ rfl _ _ 23 rfl (w.heap.size+1+1) 2 i0 (.int .i64 0) 1 8 (by kernel_rfl) HI.out.1 HI.out.2.1 HI.out.2.2.1 HI.out.2.2.2 rfl (by decide) (.slice (some ⟨w.heap.size+1+1,0,none⟩) 0 0) 0 [] rfl ?c0 a' p.hn c' (ic p.h p.hn) rfl (zBo _ _) (zPS _ _) ?c1 ?c3 ?c4 ?c5 ?_))
  case c0=>exact dA.out
  case c1=>exact zJy Hp.out.2 rfl aB.out
  case c3=>unfold maxLen;omega
  case c4=>omega
  case c5=>simp
  intro v' w1 gA cA iA;have fA:w1.ownsRow (w.heap.size+1+1) 2 1 v' p.hn (ic p.h p.hn):=(by simpa using gA);obtain⟨ha,hc,rfl,_⟩:=zW fA;have dC:Hid (p.hn=0->∃a,Value.slice ha p.hn hc = .slice a 0 0):=fun e=>⟨_,iA e⟩
  clear iA;have pA:=zT fA;have kC:=zT (oB.out.grown cA dA.out (by omega));have nC:=zT (nB.out.grown cA dA.out (by omega));have jC:Below w.heap.size w w1:=aB.out.grown cA (by simp;omega) (fun q hq=>by have:=dA.out.lt q hq;omega);have aD:w.heap.size+3<=w1.heap.size:=(by have:=cA.size;simp at this;omega);clear gA fA cA oB nB dA aB;have gB:=zT (And.intro ((kC.out.zRJ (zC w1 (.cells #[.slice none 0 0,.slice ha p.hn hc] 33)))) (And.intro (zc.zRL w1 (.slice none 0 0) (.slice ha p.hn hc) 33) (zC w1 (.cells #[.slice none 0 0,.slice ha p.hn hc] 33))));go_wp2
  go_loopw [4] (fun i wr=>∃(k:Nat) (va:Option Addr) (vc:Nat) (kb:Nat->Nat) (kv:Nat->Value),k<=p.n/\i = .int .i64 k/\zc wr w.heap.size (.slice a p.n c) (.slice a' p.hn c')/\zc wr w1.heap.size (.slice va k vc) (.slice ha p.hn hc)/\zEo wr (w1.heap.size+1) k p.s kb kv (.slice va k vc)/\Below w1.heap.size w1 wr/\w1.heap.size+1<=wr.heap.size) (fun i _=>p.n - (intOf i).toNat)
  case atStart=>exact⟨0,none,0,_,_,Nat.zero_le _,rfl,gB.out.1,gB.out.2.1,zEo.nil _ _ _,gB.out.2.2,by simp⟩
  case round=>
    obtain⟨k,va,vc,kb,kv,hk,rfl,hx,ho,hl,tA,cC⟩:=hrel;have Hx:=zT hx;have Ho:=zT ho;have Hl:=zT hl;have jB:=zA jC tA;clear hx ho hl;by_cases dB:k<p.n
    · have lC:(k:Int)<(p.n:Int):=by omega
      obtain⟨b,off,ka,kc,rfl,hs⟩:=(Hp.out.1.zRJ jB).cells dB;have Hs:=zT hs;obtain⟨q0,q1,q2,_⟩:=hs;obtain⟨⟨x0,x1⟩,⟨x2,x3⟩⟩:=Hx.out;obtain⟨⟨y0,y1⟩,⟨y2,y3⟩⟩:=Ho.out;have fD:b<w.heap.size:=by
        obtain⟨b',oC,_,_,he,gC⟩:=Hp.out.1.cells dB;simp only[Option.some.injEq,Addr.mk.injEq,and_true]at he;rw[he.1];exact zD gC.c0
      have n0:w1.heap.size≠w.heap.size:=(by omega);have n1:w1.heap.size≠b:=(by omega);go_wp2_with fail
      go_region_law
        (first
          | (refine step_append_lies _ rfl (.tmp 18) (.tmp 25) 31 rfl (w1.heap.size+1) 127 i1 (.agg #[.int .i64 0,.slice none 0 0,.string ⟨#[]⟩]) 3 48 (by kernel_rfl) vA.out.1 vA.out.2.1 vA.out.2.2.1 vA.out.2.2.2 rfl (by decide) (.slice va k vc) k (sc p.s kv k) (by simp[Act.eval]) ?_ ⟨w2.heap.size,0,none⟩ 1 1 [.int .i64 (p.s k).zRU,.slice na (p.s k).kn nc,.string (p.s k).data] (by simp[Act.eval]) rfl ?_ ?_ (by decide) ?_ ?_ ?_ _ rfl ?_
             exact((Hl.out.zRJ aA).zRJ (zC w2 _)).row;exact zQR _ _ _ _ _;exact zQx _ _ _ _ _
             (unfold maxLen;omega)
             omega
             (have:=aA.size;rw[World.size_alloc];omega)
             intro g iC w3 jA bA oA iB;have sA:=(Hl.out.zRJ aA).zRJ (zC w2 (.cells #[.int .i64 (p.s k).zRU,.slice na (p.s k).kn nc,.string (p.s k).data] 127));have t3:=zB7 bA;have nA:∀b,b<w1.heap.size+1->¬(Value.slice va k vc).ownBlock=some b:=fun b hb e=>by have:=sA.row.lt b e;omega
             have mB:=((Hx.out.zRJ aA).zRJ (zC w2 (.cells #[.int .i64 (p.s k).zRU,.slice na (p.s k).kn nc,.string (p.s k).data] 127))).zRR t3 (nA _ (by omega));have aC:=((Ho.out.zRJ aA).zRJ (zC w2 (.cells #[.int .i64 (p.s k).zRU,.slice na (p.s k).kn nc,.string (p.s k).data] 127))).zRR t3 (nA _ (by omega));have lA:=(Hs.out.zRJ aA).zRJ (zC w2 (.cells #[.int .i64 (p.s k).zRU,.slice na (p.s k).kn nc,.string (p.s k).data] 127));have z5:=(t3.cell (zD lA.c0) (nA _ (by omega))).trans lA.c0;have z6:=(t3.cell (zD lA.c1) (nA _ (by omega))).trans lA.c1;have z7:=(t3.cell (zD lA.c2) (nA _ (by omega))).trans lA.c2;have eC:=zT mB;have bC:=zT aC;obtain⟨⟨z8,z9⟩,⟨eD,sC⟩⟩:=mB;obtain⟨⟨vC,jD⟩,⟨cD,iD⟩⟩:=aC;have fC:=zT (sA.next (cB.zRJ (zC w2 _)) (zMI Hl.out cC (fun h0=>by have:=rA h0;rw[World.size_alloc];exact⟨this.1,by omega⟩)) Hs.out.slot.2.2.2 jA bA oA);have mC:Below w1.heap.size w1 w3:=(zA (zA tA aA) (zC w2 _)).grown bA (by have:=aA.size;rw[World.size_alloc];omega) (fun q hq=>by have:=sA.row.lt q hq;omega);have rC:w1.heap.size+1<=w3.heap.size:=(by have:=bA.size;have:=aA.size;rw[World.size_alloc]at *;omega);clear sA t3 nA lA jA bA oA iB cB rA)
          | (go_simp;go_at_call 146;refine(zLr _ _ _ lo hi (p.s k) _ ?_ (Hn.out k dB)).mono ?_;(first | exact Hs.out.slot | exact Hs.out.slot.zRJ (Below.refl _ _).drew);rintro e w2 ⟨nv,nb,rfl,cB,rA,sB⟩;obtain⟨_,na,nc,rfl,_⟩:=id cB;have aA:Below wr.heap.size wr w2:=(by first | exact sB | exact zK sB);have tC:=((Ho.out.zRJ aA).zRJ (zC w2 (.cells #[.int .i64 (p.s k).zRU,.slice na (p.s k).kn nc,.string (p.s k).data] 127))).1.1;have z0:=(Hx.out.zRJ aA).1.1;have z1:=(Ho.out.zRJ aA).1.1;have z2:=(Hs.out.zRJ aA).c0;have z3:=(Hs.out.zRJ aA).c1;have z4:=(Hs.out.zRJ aA).c2))
      all_goals
        go_wp2;go_roundw
        case rel=>exact⟨k+1,some ⟨g,0,none⟩,iC,_,_,by omega,by go_num,eC.out.zRK _ (by omega),⟨bC.out.1.set _,bC.out.2.zRK _ (Or.inr (by omega))⟩,fC.out.put (by omega) _,mC.setCell (Nat.le_refl _) _,by rw[World.size_setCell];exact rC⟩
        case measure=>simp[intOf];omega
    · obtain rfl:k=p.n:=by omega
      obtain⟨⟨x0,x1⟩,⟨x2,x3⟩⟩:=Hx.out;obtain⟨⟨y0,y1⟩,⟨y2,y3⟩⟩:=Ho.out;have vB:=zT (nC.out.zRJ tA);obtain⟨⟨u0,u1⟩,⟨u2,u3⟩⟩:=vB.out;go_wp2;have pB:=vB.out.put (.slice va p.n vc) (.slice ha p.hn hc);have t:=(zF.put wr (w.heap.size+1) 0 (.slice va p.n vc)).trans (zF.put _ (w.heap.size+1) 1 (.slice ha p.hn hc));have hz:=t.size;obtain⟨bs,pC,kA⟩:=Hl.out.own Hm.out.1;have bB:=pA.out.kept (zBa tA none) (by cases hv:(Value.slice ha p.hn hc).ownBlock<;>simp);refine bodyPost_ret (v:=.agg #[.slice va p.n vc,.slice ha p.hn hc]) (by simp[results,Tryz.results82,go_sem,pB.1.1,pB.2.1]) rfl ⟨_,_,w1.heap.size+1,bs,kb,kv,rfl,?_,Hl.out.zRW,?_,?_,?_,by omega,by omega,?_,dC.out⟩
      · exact pC.zRR t (fun h0 e=>by have:=kA bs (Or.inl ⟨h0,rfl⟩);omega) (fun i hi h0 e=>by have:=kA _ (Or.inr ⟨i,hi,h0,rfl⟩);omega)
      · intro k hk
        have:=kA k hk;omega
      · exact zEF (ownsRow_setCell_below (ownsRow_setCell_below bB (by show w.heap.size+1<_;omega) _) (by show w.heap.size+1<_;omega) _) (by omega)
      · intro k hk
        have:=pA.out.lt k hk;omega
      · exact(jB.setCell (by show _<=w.heap.size+1;omega) _).setCell (by show _<=w.heap.size+1;omega) _
theorem zG0(v0 v1:Value)(lo hi:Nat)(p:zJ)(w:World)(h1:zy w lo hi v0 v1 p)(hn:qD p<=1048576):Calls Tryz.prog 82 #[.agg #[v0,v1]] w (zHM p w):=by
  refine(zIt v0 v1 lo hi p w h1 hn).mono ?_;rintro e w' ⟨u0,u1,M,bs,kb,kv,rfl,g1,g2,g3,g4,g5,g6,g7,g8,g9⟩;exact⟨u0,u1,rfl,zJW g1 g2 g3 h1.2.1 g4 (fun k hk=>⟨(g5 k hk).1,Or.inl (g5 k hk).2⟩) g6 g9,g8⟩
def zFW(w:World)(b:Nat)(v0 v1 v2 v3 v4:Value):Prop:=zX w b 0 v0/\zX w b 1 v1/\zX w b 2 v2/\zX w b 3 v3/\zX w b 4 v4
theorem zFW.zRJ{w w':World}{b:Nat}{v0 v1 v2 v3 v4:Value}(h:zFW w b v0 v1 v2 v3 v4)(t:Below w.heap.size w w'):zFW w' b v0 v1 v2 v3 v4:=⟨h.1.zRJ t,h.2.1.zRJ t,h.2.2.1.zRJ t,h.2.2.2.1.zRJ t,h.2.2.2.2.zRJ t⟩
theorem zFW.zRL(w:World)(v0 v1 v2 v3 v4:Value)(t:TypeId):zFW (w.alloc (.cells #[v0,v1,v2,v3,v4] t)) w.heap.size v0 v1 v2 v3 v4:=by
 have hb:(w.alloc (.cells #[v0,v1,v2,v3,v4] t)).heap[w.heap.size]?=some (.cells #[v0,v1,v2,v3,v4] t):=heap_alloc_new _ _;exact⟨zI hb rfl,zI hb rfl,zI hb rfl,zI hb rfl,zI hb rfl⟩
abbrev put5(w:World)(b:Nat)(u0 u1 u2 u3 u4:Value):World:=((((w.setCell ⟨b,0,none⟩ u0).setCell ⟨b,1,none⟩ u1).setCell ⟨b,2,none⟩ u2).setCell ⟨b,3,none⟩ u3).setCell ⟨b,4,none⟩ u4
theorem zFW.put{w:World}{b:Nat}{v0 v1 v2 v3 v4:Value}(h:zFW w b v0 v1 v2 v3 v4)(u0 u1 u2 u3 u4:Value):zFW (put5 w b u0 u1 u2 u3 u4) b u0 u1 u2 u3 u4:=by
 obtain⟨h0,h1,h2,h3,h4⟩:=h;refine⟨?_,?_,?_,?_,?_⟩
 ·exact((((h0.set _).zRK _ (Or.inr (by omega))).zRK _ (Or.inr (by omega))).zRK _ (Or.inr (by omega))).zRK _ (Or.inr (by omega))
 ·exact((((h1.zRK _ (Or.inr (by omega))).set _).zRK _ (Or.inr (by omega))).zRK _ (Or.inr (by omega))).zRK _ (Or.inr (by omega))
 ·exact((((h2.zRK _ (Or.inr (by omega))).zRK _ (Or.inr (by omega))).set _).zRK _ (Or.inr (by omega))).zRK _ (Or.inr (by omega))
 ·exact((((h3.zRK _ (Or.inr (by omega))).zRK _ (Or.inr (by omega))).zRK _ (Or.inr (by omega))).set _).zRK _ (Or.inr (by omega))
 ·exact((((h4.zRK _ (Or.inr (by omega))).zRK _ (Or.inr (by omega))).zRK _ (Or.inr (by omega))).zRK _ (Or.inr (by omega))).set _
theorem zF.put5(w:World)(b:Nat)(u0 u1 u2 u3 u4:Value):zF (fun k=>k=b) w (put5 w b u0 u1 u2 u3 u4):=
 ((((zF.put w b 0 u0).trans (zF.put _ b 1 u1)).trans (zF.put _ b 2 u2)).trans (zF.put _ b 3 u3)).trans (zF.put _ b 4 u4)
structure zDk where
 zRQ:zJ
 ps:Int
 pb:Int
 code:Int
def zM1(o:zDk)(w:World)(e:Ending)(w':World):Prop:=∃v0 v1,e = .returned (.agg #[v0,v1,.int .i64 o.ps,.int .i64 o.pb,.int .i64 o.code])/\zt w' w.heap.size w'.heap.size v0 v1 o.zRQ/\Below w.heap.size w w'
theorem zHn{w:World}{lo hi:Nat}:zt w lo hi (.slice none 0 0) (.slice none 0 0) (zDp 0):=
 zOx (g:=0) (Nat.zero_le _) ⟨none,0,rfl,Nat.le_refl _,fun h=>absurd h (Nat.lt_irrefl _)⟩ (fun i h=>absurd h (Nat.not_lt_zero _))
def noW:zH:={zRQ:=zDp 0,time:=0,next:=0,sn:=0,zRS:=fun _=>⟨⟨#[]⟩,0,0,0,0,0,fun _=>0,fun _=>0⟩,pn:=0,zRP:=fun _=>⟨0,⟨#[]⟩,⟨#[]⟩,0,0,0,0,0,fun _=>0,fun _=>0⟩}
theorem zEY{w:World}{lo hi:Nat}:qN w lo hi (.slice none 0 0) (.slice none 0 0) (.slice none 0 0) (.slice none 0 0) noW:=by
 refine⟨fun k=>lo<=k/\k<hi,fun _=>False,fun _=>False,⟨(zHn (lo:=lo) (hi:=hi)).isIn (fun k h1 h2=>⟨h1,h2⟩),?_,?_,fun _ _ h=>h,fun _ _ h=>h,fun _ h=>h.elim⟩,fun k hk=>?_⟩
 ·exact⟨0,fun _=>0,fun _=>.slice none 0 0,⟨Nat.zero_le _,none,0,rfl,Nat.le_refl _,fun h=>absurd h (Nat.lt_irrefl _)⟩,fun i j hi=>absurd hi (Nat.not_lt_zero _),fun k hk=>by
   rcases hk with⟨h,_⟩ | ⟨i,h,_⟩
   ·exact absurd h (Nat.lt_irrefl _)
   ·exact absurd h (Nat.not_lt_zero _)⟩
 ·exact⟨0,fun _=>0,fun _=>.slice none 0 0,⟨Nat.zero_le _,none,0,rfl,Nat.le_refl _,fun h=>absurd h (Nat.lt_irrefl _)⟩,fun i j hi=>absurd hi (Nat.not_lt_zero _),fun k hk=>by
   rcases hk with⟨h,_⟩ | ⟨i,h,_⟩
   ·exact absurd h (Nat.lt_irrefl _)
   ·exact absurd h (Nat.not_lt_zero _)⟩
 ·rcases hk with h | h | h
  ·exact h
  ·exact h.elim
  ·exact h.elim
def yj(w:World)(b:Nat)(v0 v1 v2 v3 v4 v5 v6 v7 v8:Value):Prop:=zX w b 0 v0/\zX w b 1 v1/\zX w b 2 v2/\zX w b 3 v3/\zX w b 4 v4/\zX w b 5 v5/\zX w b 6 v6/\zX w b 7 v7/\zX w b 8 v8
theorem yj.zRJ{w w':World}{b:Nat}{v0 v1 v2 v3 v4 v5 v6 v7 v8:Value}(h:yj w b v0 v1 v2 v3 v4 v5 v6 v7 v8)(t:Below w.heap.size w w'):yj w' b v0 v1 v2 v3 v4 v5 v6 v7 v8:=⟨h.1.zRJ t,h.2.1.zRJ t,h.2.2.1.zRJ t,h.2.2.2.1.zRJ t,h.2.2.2.2.1.zRJ t,h.2.2.2.2.2.1.zRJ t,h.2.2.2.2.2.2.1.zRJ t,h.2.2.2.2.2.2.2.1.zRJ t,h.2.2.2.2.2.2.2.2.zRJ t⟩
theorem yj.zRR{S:Nat->Prop}{w w':World}{b:Nat}{v0 v1 v2 v3 v4 v5 v6 v7 v8:Value}(h:yj w b v0 v1 v2 v3 v4 v5 v6 v7 v8)(t:zF S w w')(hs:¬S b):yj w' b v0 v1 v2 v3 v4 v5 v6 v7 v8:=⟨h.1.zRR t hs,h.2.1.zRR t hs,h.2.2.1.zRR t hs,h.2.2.2.1.zRR t hs,h.2.2.2.2.1.zRR t hs,h.2.2.2.2.2.1.zRR t hs,h.2.2.2.2.2.2.1.zRR t hs,h.2.2.2.2.2.2.2.1.zRR t hs,h.2.2.2.2.2.2.2.2.zRR t hs⟩
theorem yj.zRL(w:World)(v0 v1 v2 v3 v4 v5 v6 v7 v8:Value)(t:TypeId):yj (w.alloc (.cells #[v0,v1,v2,v3,v4,v5,v6,v7,v8] t)) w.heap.size v0 v1 v2 v3 v4 v5 v6 v7 v8:=by
 have hb:(w.alloc (.cells #[v0,v1,v2,v3,v4,v5,v6,v7,v8] t)).heap[w.heap.size]?=some (.cells #[v0,v1,v2,v3,v4,v5,v6,v7,v8] t):=heap_alloc_new _ _;exact⟨zI hb rfl,zI hb rfl,zI hb rfl,zI hb rfl,zI hb rfl,zI hb rfl,zI hb rfl,zI hb rfl,zI hb rfl⟩
abbrev put9(w:World)(b:Nat)(u0 u1 u2 u3 u4 u5 u6 u7 u8:Value):World:=((((((((w.setCell ⟨b,0,none⟩ u0).setCell ⟨b,1,none⟩ u1).setCell ⟨b,2,none⟩ u2).setCell ⟨b,3,none⟩ u3).setCell ⟨b,4,none⟩ u4).setCell ⟨b,5,none⟩ u5).setCell ⟨b,6,none⟩ u6).setCell ⟨b,7,none⟩ u7).setCell ⟨b,8,none⟩ u8
theorem yj.put{w:World}{b:Nat}{v0 v1 v2 v3 v4 v5 v6 v7 v8:Value}(h:yj w b v0 v1 v2 v3 v4 v5 v6 v7 v8)(u0 u1 u2 u3 u4 u5 u6 u7 u8:Value):yj (put9 w b u0 u1 u2 u3 u4 u5 u6 u7 u8) b u0 u1 u2 u3 u4 u5 u6 u7 u8:=by
 obtain⟨h0,h1,h2,h3,h4,h5,h6,h7,h8⟩:=h;exact⟨(((((((((h0.set _).zRK _ (Or.inr (by omega))).zRK _ (Or.inr (by omega))).zRK _ (Or.inr (by omega))).zRK _ (Or.inr (by omega))).zRK _ (Or.inr (by omega))).zRK _ (Or.inr (by omega))).zRK _ (Or.inr (by omega))).zRK _ (Or.inr (by omega))),
  (((((((((h1.zRK _ (Or.inr (by omega))).set _).zRK _ (Or.inr (by omega))).zRK _ (Or.inr (by omega))).zRK _ (Or.inr (by omega))).zRK _ (Or.inr (by omega))).zRK _ (Or.inr (by omega))).zRK _ (Or.inr (by omega))).zRK _ (Or.inr (by omega))),
  (((((((((h2.zRK _ (Or.inr (by omega))).zRK _ (Or.inr (by omega))).set _).zRK _ (Or.inr (by omega))).zRK _ (Or.inr (by omega))).zRK _ (Or.inr (by omega))).zRK _ (Or.inr (by omega))).zRK _ (Or.inr (by omega))).zRK _ (Or.inr (by omega))),
  (((((((((h3.zRK _ (Or.inr (by omega))).zRK _ (Or.inr (by omega))).zRK _ (Or.inr (by omega))).set _).zRK _ (Or.inr (by omega))).zRK _ (Or.inr (by omega))).zRK _ (Or.inr (by omega))).zRK _ (Or.inr (by omega))).zRK _ (Or.inr (by omega))),
  (((((((((h4.zRK _ (Or.inr (by omega))).zRK _ (Or.inr (by omega))).zRK _ (Or.inr (by omega))).zRK _ (Or.inr (by omega))).set _).zRK _ (Or.inr (by omega))).zRK _ (Or.inr (by omega))).zRK _ (Or.inr (by omega))).zRK _ (Or.inr (by omega))),
  (((((((((h5.zRK _ (Or.inr (by omega))).zRK _ (Or.inr (by omega))).zRK _ (Or.inr (by omega))).zRK _ (Or.inr (by omega))).zRK _ (Or.inr (by omega))).set _).zRK _ (Or.inr (by omega))).zRK _ (Or.inr (by omega))).zRK _ (Or.inr (by omega))),
  (((((((((h6.zRK _ (Or.inr (by omega))).zRK _ (Or.inr (by omega))).zRK _ (Or.inr (by omega))).zRK _ (Or.inr (by omega))).zRK _ (Or.inr (by omega))).zRK _ (Or.inr (by omega))).set _).zRK _ (Or.inr (by omega))).zRK _ (Or.inr (by omega))),
  (((((((((h7.zRK _ (Or.inr (by omega))).zRK _ (Or.inr (by omega))).zRK _ (Or.inr (by omega))).zRK _ (Or.inr (by omega))).zRK _ (Or.inr (by omega))).zRK _ (Or.inr (by omega))).zRK _ (Or.inr (by omega))).set _).zRK _ (Or.inr (by omega))),
  (((((((((h8.zRK _ (Or.inr (by omega))).zRK _ (Or.inr (by omega))).zRK _ (Or.inr (by omega))).zRK _ (Or.inr (by omega))).zRK _ (Or.inr (by omega))).zRK _ (Or.inr (by omega))).zRK _ (Or.inr (by omega))).zRK _ (Or.inr (by omega))).set _)⟩
theorem zF.put9(w:World)(b:Nat)(u0 u1 u2 u3 u4 u5 u6 u7 u8:Value):zF (fun k=>k=b) w (put9 w b u0 u1 u2 u3 u4 u5 u6 u7 u8):=((((((((zF.put w b 0 u0).trans (zF.put _ b 1 u1)).trans (zF.put _ b 2 u2)).trans (zF.put _ b 3 u3)).trans (zF.put _ b 4 u4)).trans (zF.put _ b 5 u5)).trans (zF.put _ b 6 u6)).trans (zF.put _ b 7 u7)).trans (zF.put _ b 8 u8)
structure zB0 where
 world:zH
 id:Int
 zRb:Int
 code:Int
abbrev zH8(v0 v1 v2 v3:Value)(o:zB0):Value:=.agg #[v0,v1,.int .i64 o.world.time,.int .i64 o.world.next,v2,v3,.int .i64 o.id,.int .i64 o.zRb,.int .i64 o.code]
def zBu(o:zB0)(w:World)(e:Ending)(w':World):Prop:=∃v0 v1 v2 v3,e = .returned (zH8 v0 v1 v2 v3 o)/\qN w' w.heap.size w'.heap.size v0 v1 v2 v3 o.world/\Below w.heap.size w w'
theorem yj.six{w:World}{b:Nat}{v0 v1 v2 v3 v4 v5 v6 v7 v8:Value}(h:yj w b v0 v1 v2 v3 v4 v5 v6 v7 v8)(u0 u1 u2 u3 u4 u5:Value):yj (put6 w b u0 u1 u2 u3 u4 u5) b u0 u1 u2 u3 u4 u5 v6 v7 v8:=by
 obtain⟨h0,h1,h2,h3,h4,h5,h6,h7,h8⟩:=h;exact⟨((((((h0.set _).zRK _ (Or.inr (by omega))).zRK _ (Or.inr (by omega))).zRK _ (Or.inr (by omega))).zRK _ (Or.inr (by omega))).zRK _ (Or.inr (by omega))),((((((h1.zRK _ (Or.inr (by omega))).set _).zRK _ (Or.inr (by omega))).zRK _ (Or.inr (by omega))).zRK _ (Or.inr (by omega))).zRK _ (Or.inr (by omega))),((((((h2.zRK _ (Or.inr (by omega))).zRK _ (Or.inr (by omega))).set _).zRK _ (Or.inr (by omega))).zRK _ (Or.inr (by omega))).zRK _ (Or.inr (by omega))),((((((h3.zRK _ (Or.inr (by omega))).zRK _ (Or.inr (by omega))).zRK _ (Or.inr (by omega))).set _).zRK _ (Or.inr (by omega))).zRK _ (Or.inr (by omega))),((((((h4.zRK _ (Or.inr (by omega))).zRK _ (Or.inr (by omega))).zRK _ (Or.inr (by omega))).zRK _ (Or.inr (by omega))).set _).zRK _ (Or.inr (by omega))),((((((h5.zRK _ (Or.inr (by omega))).zRK _ (Or.inr (by omega))).zRK _ (Or.inr (by omega))).zRK _ (Or.inr (by omega))).zRK _ (Or.inr (by omega))).set _),((((((h6.zRK _ (Or.inr (by omega))).zRK _ (Or.inr (by omega))).zRK _ (Or.inr (by omega))).zRK _ (Or.inr (by omega))).zRK _ (Or.inr (by omega))).zRK _ (Or.inr (by omega))),((((((h7.zRK _ (Or.inr (by omega))).zRK _ (Or.inr (by omega))).zRK _ (Or.inr (by omega))).zRK _ (Or.inr (by omega))).zRK _ (Or.inr (by omega))).zRK _ (Or.inr (by omega))),((((((h8.zRK _ (Or.inr (by omega))).zRK _ (Or.inr (by omega))).zRK _ (Or.inr (by omega))).zRK _ (Or.inr (by omega))).zRK _ (Or.inr (by omega))).zRK _ (Or.inr (by omega)))⟩
theorem zX.under{w w':World}{B b o:Nat}{v:Value}(h:zX w b o v)(t:Below B w w')(hb:b<B):zX w' b o v:=⟨(t.cell (p:=⟨b,o,none⟩) hb).trans h.1,(t.frozen (p:=⟨b,o,none⟩) hb).trans h.2⟩
def zBy(c:Int):zB0:=⟨noW,0,0,c⟩
def zMR(r:Option Nat)(o:zB0):zB0:=match r with
 | some i=>zBy (zBW i)
 | none=>o
def zNR(f:Nat->qC)(cv:Nat->Value)(i r:Nat):Value:=
 match r with
 | 0=>.string (f i).name
 | 1=>.int .i64 (f i).origin
 | 2=>.int .i64 (f i).zRT
 | 3=>.int .i64 (f i).rs
 | 4=>.int .i64 (f i).rb
 | _=>cv i
def zC2(f:Nat->qC)(cv:Nat->Value)(n:Nat):List Value:=(List.range (n*6)).map fun j=>zNR f cv (j / 6) (j % 6)
theorem zDE(f:Nat->qC)(cv:Nat->Value)(n:Nat):(zC2 f cv n).length=n*6:=by simp[zC2]
theorem zCT(f:Nat->qC)(cv:Nat->Value)(n:Nat){i r:Nat}(hi:i<n)(hr:r<6):(zC2 f cv n)[i*6+r]?=some (zNR f cv i r):=by
 have h:i*6+r<n*6:=by omega
 have h1:(i*6+r) / 6=i:=by omega
 have h2:(i*6+r) % 6=r:=by omega
 simp[zC2,h,h1,h2]
theorem zEe(f:Nat->qC)(cv:Nat->Value)(n:Nat)(h:∀i,i<n->(cv i).oneCell'=true):∀u∈zC2 f cv n,u.oneCell'=true:=by
 intro u hu;unfold zC2 at hu;obtain⟨j,hj,rfl⟩:=List.mem_map.1 hu;have aA:=List.mem_range.1 hj;have hi:j / 6<n:=by omega
 have hr:j % 6<6:=by omega
 generalize j % 6=r at hr ⊢;rcases r with _ | _ | _ | _ | _ | _<;>first | rfl | exact h _ hi
def zAp(w:World)(b o:Nat)(s:qC)(vd:Value):Prop:=zX w b o (.string s.name)/\zX w b (o+1) (.int .i64 s.origin)/\zX w b (o+2) (.int .i64 s.zRT)/\zX w b (o+3) (.int .i64 s.rs)/\zX w b (o+4) (.int .i64 s.rb)/\zX w b (o+5) vd
theorem zAp.zRR{S:Nat->Prop}{w w':World}{b o:Nat}{s:qC}{vd:Value}(h:zAp w b o s vd)(t:zF S w w')(hs:¬S b):zAp w' b o s vd:=by
 obtain⟨h0,h1,h2,h3,h4,h5⟩:=h;exact⟨h0.zRR t hs,h1.zRR t hs,h2.zRR t hs,h3.zRR t hs,h4.zRR t hs,h5.zRR t hs⟩
theorem zAp.zRJ{w w':World}{b o:Nat}{s:qC}{vd:Value}(h:zAp w b o s vd)(t:Below w.heap.size w w'):zAp w' b o s vd:=
 h.zRR (zF.zRM (S:=fun _=>False) t) (fun h=>h)
theorem zAp.set{w:World}{b o:Nat}{s:qC}{vd:Value}(h:zAp w b o s vd)(u:Value):zAp (w.setCell ⟨b,o+5,none⟩ u) b o s u:=by
 obtain⟨h0,h1,h2,h3,h4,h5⟩:=h;exact⟨h0.zRK _ (Or.inr (by omega)),h1.zRK _ (Or.inr (by omega)),h2.zRK _ (Or.inr (by omega)),h3.zRK _ (Or.inr (by omega)),h4.zRK _ (Or.inr (by omega)),h5.set _⟩
theorem zAp.zRK{w:World}{b o o':Nat}{s:qC}{vd:Value}(h:zAp w b o s vd)(u:Value)(aA:∀r,r<6->o'≠o+r):zAp (w.setCell ⟨b,o',none⟩ u) b o s vd:=by
 obtain⟨h0,h1,h2,h3,h4,h5⟩:=h;exact⟨h0.zRK _ (Or.inr (aA 0 (by omega))),h1.zRK _ (Or.inr (aA 1 (by omega))),h2.zRK _ (Or.inr (aA 2 (by omega))),h3.zRK _ (Or.inr (aA 3 (by omega))),h4.zRK _ (Or.inr (aA 4 (by omega))),h5.zRK _ (Or.inr (aA 5 (by omega)))⟩
structure yF (wr:World) (bs L n k:Nat) (f:Nat->qC) (kb:Nat->Nat) (kv cv:Nat->Value):Prop where
 zRc:∀j,j<n->zAp wr bs (j*6) (f j) (if j<k then kv j else cv j)
 zRX:∀j,j<k->zj wr (kb j) (kv j) (f j).dn (f j).ds (f j).db
 zRY:∀j,j<k->0<(f j).dn->L<=kb j/\kb j<wr.heap.size
 zRW:zBL kb k f
 lt:0<n->bs<L
theorem yF.zRJ{wr w':World}{bs L n k:Nat}{f:Nat->qC}{kb:Nat->Nat}{kv cv:Nat->Value}(h:yF wr bs L n k f kb kv cv)(t:Below wr.heap.size wr w'):yF w' bs L n k f kb kv cv:=
 ⟨fun j hj=>(h.zRc j hj).zRJ t,fun j hj=>(h.zRX j hj).zRJ t,fun j hj h0=>by have:=h.zRY j hj h0;have:=t.size;omega,h.zRW,h.lt⟩
theorem yF.zRR{S:Nat->Prop}{wr w':World}{bs L n k:Nat}{f:Nat->qC}{kb:Nat->Nat}{kv cv:Nat->Value}(h:yF wr bs L n k f kb kv cv)(t:zF S wr w')(hs:∀q,S q->(0<n->q≠bs)/\q<L)(hk:k<=n):yF w' bs L n k f kb kv cv:=
 ⟨fun j hj=>(h.zRc j hj).zRR t (fun e=>(hs _ e).1 (by omega) rfl),fun j hj=>(h.zRX j hj).zRR t (fun h0 e=>by have:=h.zRY j hj h0;have:=(hs _ e).2;omega),fun j hj h0=>by have:=h.zRY j hj h0;have:=t.size;omega,h.zRW,h.lt⟩
theorem yF.next{wr w1:World}{bs L n k b:Nat}{f:Nat->qC}{kb:Nat->Nat}{kv cv:Nat->Value}{v:Value}(h:yF wr bs L n k f kb kv cv)(hk:k<n)(hL:L<=wr.heap.size)(t:Below wr.heap.size wr w1)
  (hp:zj w1 b v (f k).dn (f k).ds (f k).db) (hb:0<(f k).dn->wr.heap.size<=b/\b<w1.heap.size) :
  yF (w1.setCell ⟨bs,k*6+5,none⟩ v) bs L n (k+1) f (fun j=>if j=k then b else kb j) (fun j=>if j=k then v else kv j) cv:=by
 have h':=h.zRJ t;have bA:=h.lt (by omega);refine⟨fun j hj=>?_,fun j hj=>?_,fun j hj h0=>?_,fun i j hi hj aA h1 h2=>?_,h.lt⟩
 ·have hh:=h'.zRc j hj;by_cases e:j=k
  ·subst e;rw[if_pos (by omega),if_pos rfl];exact hh.set v
  ·rw[if_neg e];have es:(if j<k+1 then kv j else cv j)=if j<k then kv j else cv j:=by
    by_cases e2:j<k
    ·rw[if_pos e2,if_pos (by omega)]
    ·rw[if_neg e2,if_neg (by omega)]
   rw[es];exact hh.zRK v (fun r hr=>by omega)
 ·by_cases e:j=k
  ·subst e;simp only[if_true];exact hp.zRR (zF.put _ _ _ _) (fun h0 hx=>by have:=hb h0;omega)
  ·simp only[if_neg e];exact(h'.zRX j (by omega)).zRR (zF.put _ _ _ _) (fun h0 hx=>by have:=h'.zRY j (by omega) h0;omega)
 ·simp only[World.size_setCell];by_cases e:j=k
  ·subst e;rw[if_pos rfl];have:=hb h0;omega
  ·rw[if_neg e];have:=h'.zRY j (by omega) h0;omega
 ·show(if i=k then b else kb i)≠(if j=k then b else kb j);by_cases e1:i=k
  ·by_cases e2:j=k
   ·omega
   ·rw[if_pos e1,if_neg e2];subst e1;have:=hb h1;have:=h.zRY j (by omega) h2;omega
  ·by_cases e2:j=k
   ·rw[if_neg e1,if_pos e2];subst e2;have:=hb h2;have:=h.zRY i (by omega) h1;omega
   ·rw[if_neg e1,if_neg e2];exact h.zRW i j (by omega) (by omega) aA h1 h2
theorem yF.own{wr:World}{bs L n c:Nat}{f:Nat->qC}{kb:Nat->Nat}{kv cv:Nat->Value}{a:Option Addr}(h:yF wr bs L n n f kb kv cv)(hm:n<=maxLen)(ha:0<n->a=some ⟨bs,0,none⟩)(hc:n<=c)(hs:∀i,i<n->(f i).name.size<=maxLen):yN wr bs kb kv (.slice a n c) n f:=
 ⟨hm,a,c,rfl,hc,fun h0=>⟨0,ha h0,fun i hi=>by
  obtain⟨h0,h1,h2,h3,h4,h5⟩:=h.zRc i hi;rw[if_pos hi]at h5;rw[Nat.zero_add];exact⟨h0,h1,h2,h3,h4,h5,h.zRX i hi,hs i hi,fun hk e=>by have:=h.zRY i hi hk;have:=h.lt (by omega);omega⟩⟩⟩
theorem yF.turned0{S:Nat->Prop}{wr w':World}{bs L n:Nat}{f:Nat->qC}{kb:Nat->Nat}{kv cv:Nat->Value}(h:yF wr bs L n 0 f kb kv cv)(t:zF S wr w')(hs:∀q,S q->0<n->q≠bs):yF w' bs L n 0 f kb kv cv:=
 ⟨fun j hj=>(h.zRc j hj).zRR t (fun e=>hs _ e (by omega) rfl),fun j hj=>absurd hj (Nat.not_lt_zero _),fun j hj=>absurd hj (Nat.not_lt_zero _),h.zRW,h.lt⟩
theorem yF.weak{wr:World}{bs L L' n:Nat}{f:Nat->qC}{kb:Nat->Nat}{kv cv:Nat->Value}(h:yF wr bs L n 0 f kb kv cv)(hL:L<=L'):yF wr bs L' n 0 f kb kv cv:=
 ⟨h.zRc,h.zRX,fun j hj=>absurd hj (Nat.not_lt_zero _),h.zRW,fun h0=>Nat.lt_of_lt_of_le (h.lt h0) hL⟩
theorem yY.values{w:World}{lo hi:Nat}{a:Option Addr}{n c:Nat}{f:Nat->qC}(h:yY w lo hi (.slice a n c) n f) :
  ∃cv:Nat->Value,(∀i,i<n->zU w lo hi (cv i) (f i).dn (f i).ds (f i).db/\(f i).name.size<=maxLen)/\
   (0<n->∃b off,a=some ⟨b,off,none⟩/\∀j u,(zC2 f cv n)[j]?=some u->w.cell? ⟨b,off+j,none⟩=some u):=by
 obtain⟨_,a0,c0,h0,_,g⟩:=h;simp only[Value.slice.injEq,true_and]at h0;obtain⟨rfl,rfl⟩:=h0;by_cases hn:0<n
 ·obtain⟨b,off,ha,dA,cA,hc⟩:=g hn;have bA:∀i,∃x,i<n->zBO w b (off+i*6) lo hi x (f i):=fun i=>by
   by_cases hi:i<n
   ·obtain⟨vd,hs⟩:=hc i hi;exact⟨vd,fun _=>hs⟩
   ·exact⟨.slice none 0 0,fun h=>absurd h hi⟩
  obtain⟨cv,aA⟩:=Classical.axiomOfChoice bA;refine⟨cv,fun i hi=>⟨(aA i hi).zRX,(aA i hi).zRZ⟩,fun _=>⟨b,off,ha,fun j u hj=>?_⟩⟩;have eA:j<n*6:=by
   have:=(List.getElem?_eq_some_iff.1 hj).1
   rwa [zDE]at this
  have hs:=aA (j / 6) (by omega);have e:=zCT f cv n (i:=j / 6) (r:=j % 6) (by omega) (by omega);rw[show j / 6*6+j % 6=j by omega,hj]at e;have hr:j % 6<6:=(by omega);have ho:off+j=off+j / 6*6+j % 6:=(by omega);rw[ho];generalize j % 6=r at hr e ⊢;generalize j / 6=q at hs e ⊢;rcases r with _ | _ | _ | _ | _ | _ | r
  ·cases e;exact hs.c0
  ·cases e;exact hs.c1
  ·cases e;exact hs.c2
  ·cases e;exact hs.c3
  ·cases e;exact hs.c4
  ·cases e;exact hs.c5
  ·omega
 ·exact⟨fun _=>.slice none 0 0,fun i hi=>absurd hi (by omega),fun h=>absurd h hn⟩
theorem zBs{w1:World}{base n:Nat}{v:Value}{f:Nat->qC}{cv:Nat->Value}(bA:w1.ownsRow base 67 6 v n (zC2 f cv n))(L:Nat)(hL:w1.heap.size<=L):∃bs a c,v = .slice a n c/\n<=c/\(0<n->a=some ⟨bs,0,none⟩/\base<=bs/\bs<w1.heap.size)/\yF w1 bs L n 0 f (fun _=>0) cv cv:=by
 obtain⟨a1,c1,rfl,cA⟩:=zW bA;by_cases h0:0<n
 ·obtain⟨g,fA,hv,_,dA,eA,aA⟩:=qe bA h0;simp only[Value.slice.injEq,true_and]at hv;obtain⟨rfl,rfl⟩:=hv;refine⟨g,_,_,rfl,cA,fun _=>⟨rfl,dA,eA⟩,fun j hj=>?_,fun j hj=>absurd hj (Nat.not_lt_zero _),fun j hj=>absurd hj (Nat.not_lt_zero _),fun i j hi=>absurd hi (Nat.not_lt_zero _),fun _=>by omega⟩;rw[if_neg (Nat.not_lt_zero _)];exact⟨aA _ _ (zCT f cv n hj (r:=0) (by omega)),aA _ _ (zCT f cv n hj (r:=1) (by omega)),aA _ _ (zCT f cv n hj (r:=2) (by omega)),aA _ _ (zCT f cv n hj (r:=3) (by omega)),aA _ _ (zCT f cv n hj (r:=4) (by omega)),aA _ _ (zCT f cv n hj (r:=5) (by omega))⟩
 ·exact⟨0,_,_,rfl,cA,fun h=>absurd h h0,fun j hj=>absurd hj (by omega),fun j hj=>absurd hj (Nat.not_lt_zero _),fun j hj=>absurd hj (Nat.not_lt_zero _),fun i j hi=>absurd hi (Nat.not_lt_zero _),fun h=>absurd h h0⟩
def zLj(f:Nat->zm)(cv:Nat->Value)(i r:Nat):Value:=
 match r with
 | 0=>.int .i64 (f i).id
 | 1=>.string (f i).name
 | 2=>.string (f i).set
 | 3=>.int .i64 (f i).zRT
 | 4=>.int .i64 (f i).time
 | 5=>.int .i64 (f i).rs
 | 6=>.int .i64 (f i).rb
 | _=>cv i
def zA9(f:Nat->zm)(cv:Nat->Value)(n:Nat):List Value:=(List.range (n*8)).map fun j=>zLj f cv (j / 8) (j % 8)
theorem zBk(f:Nat->zm)(cv:Nat->Value)(n:Nat):(zA9 f cv n).length=n*8:=by simp[zA9]
theorem zAr(f:Nat->zm)(cv:Nat->Value)(n:Nat){i r:Nat}(hi:i<n)(hr:r<8):(zA9 f cv n)[i*8+r]?=some (zLj f cv i r):=by
 have h:i*8+r<n*8:=by omega
 have h1:(i*8+r) / 8=i:=by omega
 have h2:(i*8+r) % 8=r:=by omega
 simp[zA9,h,h1,h2]
theorem zCV(f:Nat->zm)(cv:Nat->Value)(n:Nat)(h:∀i,i<n->(cv i).oneCell'=true):∀u∈zA9 f cv n,u.oneCell'=true:=by
 intro u hu;unfold zA9 at hu;obtain⟨j,hj,rfl⟩:=List.mem_map.1 hu;have aA:=List.mem_range.1 hj;have hi:j / 8<n:=by omega
 have hr:j % 8<8:=by omega
 generalize j % 8=r at hr ⊢;rcases r with _ | _ | _ | _ | _ | _ | _ | _<;>first | rfl | exact h _ hi
def zAK(w:World)(b o:Nat)(s:zm)(vd:Value):Prop:=zX w b o (.int .i64 s.id)/\zX w b (o+1) (.string s.name)/\zX w b (o+2) (.string s.set)/\zX w b (o+3) (.int .i64 s.zRT)/\zX w b (o+4) (.int .i64 s.time)/\zX w b (o+5) (.int .i64 s.rs)/\zX w b (o+6) (.int .i64 s.rb)/\zX w b (o+7) vd
theorem zAK.zRR{S:Nat->Prop}{w w':World}{b o:Nat}{s:zm}{vd:Value}(h:zAK w b o s vd)(t:zF S w w')(hs:¬S b):zAK w' b o s vd:=by
 obtain⟨h0,h1,h2,h3,h4,h5,h6,h7⟩:=h;exact⟨h0.zRR t hs,h1.zRR t hs,h2.zRR t hs,h3.zRR t hs,h4.zRR t hs,h5.zRR t hs,h6.zRR t hs,h7.zRR t hs⟩
theorem zAK.zRJ{w w':World}{b o:Nat}{s:zm}{vd:Value}(h:zAK w b o s vd)(t:Below w.heap.size w w'):zAK w' b o s vd:=
 h.zRR (zF.zRM (S:=fun _=>False) t) (fun h=>h)
theorem zAK.set{w:World}{b o:Nat}{s:zm}{vd:Value}(h:zAK w b o s vd)(u:Value):zAK (w.setCell ⟨b,o+7,none⟩ u) b o s u:=by
 obtain⟨h0,h1,h2,h3,h4,h5,h6,h7⟩:=h;exact⟨h0.zRK _ (Or.inr (by omega)),h1.zRK _ (Or.inr (by omega)),h2.zRK _ (Or.inr (by omega)),h3.zRK _ (Or.inr (by omega)),h4.zRK _ (Or.inr (by omega)),h5.zRK _ (Or.inr (by omega)),h6.zRK _ (Or.inr (by omega)),h7.set _⟩
theorem zAK.zRK{w:World}{b o o':Nat}{s:zm}{vd:Value}(h:zAK w b o s vd)(u:Value)(aA:∀r,r<8->o'≠o+r):zAK (w.setCell ⟨b,o',none⟩ u) b o s vd:=by
 obtain⟨h0,h1,h2,h3,h4,h5,h6,h7⟩:=h;exact⟨h0.zRK _ (Or.inr (aA 0 (by omega))),h1.zRK _ (Or.inr (aA 1 (by omega))),h2.zRK _ (Or.inr (aA 2 (by omega))),h3.zRK _ (Or.inr (aA 3 (by omega))),h4.zRK _ (Or.inr (aA 4 (by omega))),h5.zRK _ (Or.inr (aA 5 (by omega))),h6.zRK _ (Or.inr (aA 6 (by omega))),h7.zRK _ (Or.inr (aA 7 (by omega)))⟩
structure qg (wr:World) (bs L n k:Nat) (f:Nat->zm) (kb:Nat->Nat) (kv cv:Nat->Value):Prop where
 zRc:∀j,j<n->zAK wr bs (j*8) (f j) (if j<k then kv j else cv j)
 zRX:∀j,j<k->zj wr (kb j) (kv j) (f j).dn (f j).ds (f j).db
 zRY:∀j,j<k->0<(f j).dn->L<=kb j/\kb j<wr.heap.size
 zRW:zBD kb k f
 lt:0<n->bs<L
theorem qg.zRJ{wr w':World}{bs L n k:Nat}{f:Nat->zm}{kb:Nat->Nat}{kv cv:Nat->Value}(h:qg wr bs L n k f kb kv cv)(t:Below wr.heap.size wr w'):qg w' bs L n k f kb kv cv:=
 ⟨fun j hj=>(h.zRc j hj).zRJ t,fun j hj=>(h.zRX j hj).zRJ t,fun j hj h0=>by have:=h.zRY j hj h0;have:=t.size;omega,h.zRW,h.lt⟩
theorem qg.zRR{S:Nat->Prop}{wr w':World}{bs L n k:Nat}{f:Nat->zm}{kb:Nat->Nat}{kv cv:Nat->Value}(h:qg wr bs L n k f kb kv cv)(t:zF S wr w')(hs:∀q,S q->(0<n->q≠bs)/\q<L)(hk:k<=n):qg w' bs L n k f kb kv cv:=
 ⟨fun j hj=>(h.zRc j hj).zRR t (fun e=>(hs _ e).1 (by omega) rfl),fun j hj=>(h.zRX j hj).zRR t (fun h0 e=>by have:=h.zRY j hj h0;have:=(hs _ e).2;omega),fun j hj h0=>by have:=h.zRY j hj h0;have:=t.size;omega,h.zRW,h.lt⟩
theorem qg.next{wr w1:World}{bs L n k b:Nat}{f:Nat->zm}{kb:Nat->Nat}{kv cv:Nat->Value}{v:Value}(h:qg wr bs L n k f kb kv cv)(hk:k<n)(hL:L<=wr.heap.size)(t:Below wr.heap.size wr w1)
  (hp:zj w1 b v (f k).dn (f k).ds (f k).db) (hb:0<(f k).dn->wr.heap.size<=b/\b<w1.heap.size) :
  qg (w1.setCell ⟨bs,k*8+7,none⟩ v) bs L n (k+1) f (fun j=>if j=k then b else kb j) (fun j=>if j=k then v else kv j) cv:=by
 have h':=h.zRJ t;have bA:=h.lt (by omega);refine⟨fun j hj=>?_,fun j hj=>?_,fun j hj h0=>?_,fun i j hi hj aA h1 h2=>?_,h.lt⟩
 ·have hh:=h'.zRc j hj;by_cases e:j=k
  ·subst e;rw[if_pos (by omega),if_pos rfl];exact hh.set v
  ·rw[if_neg e];have es:(if j<k+1 then kv j else cv j)=if j<k then kv j else cv j:=by
    by_cases e2:j<k
    ·rw[if_pos e2,if_pos (by omega)]
    ·rw[if_neg e2,if_neg (by omega)]
   rw[es];exact hh.zRK v (fun r hr=>by omega)
 ·by_cases e:j=k
  ·subst e;simp only[if_true];exact hp.zRR (zF.put _ _ _ _) (fun h0 hx=>by have:=hb h0;omega)
  ·simp only[if_neg e];exact(h'.zRX j (by omega)).zRR (zF.put _ _ _ _) (fun h0 hx=>by have:=h'.zRY j (by omega) h0;omega)
 ·simp only[World.size_setCell];by_cases e:j=k
  ·subst e;rw[if_pos rfl];have:=hb h0;omega
  ·rw[if_neg e];have:=h'.zRY j (by omega) h0;omega
 ·show(if i=k then b else kb i)≠(if j=k then b else kb j);by_cases e1:i=k
  ·by_cases e2:j=k
   ·omega
   ·rw[if_pos e1,if_neg e2];subst e1;have:=hb h1;have:=h.zRY j (by omega) h2;omega
  ·by_cases e2:j=k
   ·rw[if_neg e1,if_pos e2];subst e2;have:=hb h2;have:=h.zRY i (by omega) h1;omega
   ·rw[if_neg e1,if_neg e2];exact h.zRW i j (by omega) (by omega) aA h1 h2
theorem qg.own{wr:World}{bs L n c:Nat}{f:Nat->zm}{kb:Nat->Nat}{kv cv:Nat->Value}{a:Option Addr}(h:qg wr bs L n n f kb kv cv)(hm:n<=maxLen)(ha:0<n->a=some ⟨bs,0,none⟩)(hc:n<=c)(hs:∀i,i<n->((f i).name.size<=maxLen/\(f i).set.size<=maxLen)):yV wr bs kb kv (.slice a n c) n f:=
 ⟨hm,a,c,rfl,hc,fun h0=>⟨0,ha h0,fun i hi=>by
  obtain⟨h0,h1,h2,h3,h4,h5,h6,h7⟩:=h.zRc i hi;rw[if_pos hi]at h7;rw[Nat.zero_add];exact⟨h0,h1,h2,h3,h4,h5,h6,h7,h.zRX i hi,hs i hi,fun hk e=>by have:=h.zRY i hi hk;have:=h.lt (by omega);omega⟩⟩⟩
theorem qg.turned0{S:Nat->Prop}{wr w':World}{bs L n:Nat}{f:Nat->zm}{kb:Nat->Nat}{kv cv:Nat->Value}(h:qg wr bs L n 0 f kb kv cv)(t:zF S wr w')(hs:∀q,S q->0<n->q≠bs):qg w' bs L n 0 f kb kv cv:=
 ⟨fun j hj=>(h.zRc j hj).zRR t (fun e=>hs _ e (by omega) rfl),fun j hj=>absurd hj (Nat.not_lt_zero _),fun j hj=>absurd hj (Nat.not_lt_zero _),h.zRW,h.lt⟩
theorem qg.weak{wr:World}{bs L L' n:Nat}{f:Nat->zm}{kb:Nat->Nat}{kv cv:Nat->Value}(h:qg wr bs L n 0 f kb kv cv)(hL:L<=L'):qg wr bs L' n 0 f kb kv cv:=
 ⟨h.zRc,h.zRX,fun j hj=>absurd hj (Nat.not_lt_zero _),h.zRW,fun h0=>Nat.lt_of_lt_of_le (h.lt h0) hL⟩
theorem yB.values{w:World}{lo hi:Nat}{a:Option Addr}{n c:Nat}{f:Nat->zm}(h:yB w lo hi (.slice a n c) n f) :
  ∃cv:Nat->Value,(∀i,i<n->zU w lo hi (cv i) (f i).dn (f i).ds (f i).db/\((f i).name.size<=maxLen/\(f i).set.size<=maxLen))/\
   (0<n->∃b off,a=some ⟨b,off,none⟩/\∀j u,(zA9 f cv n)[j]?=some u->w.cell? ⟨b,off+j,none⟩=some u):=by
 obtain⟨_,a0,c0,h0,_,g⟩:=h;simp only[Value.slice.injEq,true_and]at h0;obtain⟨rfl,rfl⟩:=h0;by_cases hn:0<n
 ·obtain⟨b,off,ha,dA,cA,hc⟩:=g hn;have bA:∀i,∃x,i<n->zAl w b (off+i*8) lo hi x (f i):=fun i=>by
   by_cases hi:i<n
   ·obtain⟨vd,hs⟩:=hc i hi;exact⟨vd,fun _=>hs⟩
   ·exact⟨.slice none 0 0,fun h=>absurd h hi⟩
  obtain⟨cv,aA⟩:=Classical.axiomOfChoice bA;refine⟨cv,fun i hi=>⟨(aA i hi).zRX,(aA i hi).zRZ⟩,fun _=>⟨b,off,ha,fun j u hj=>?_⟩⟩;have eA:j<n*8:=by
   have:=(List.getElem?_eq_some_iff.1 hj).1
   rwa [zBk]at this
  have hs:=aA (j / 8) (by omega);have e:=zAr f cv n (i:=j / 8) (r:=j % 8) (by omega) (by omega);rw[show j / 8*8+j % 8=j by omega,hj]at e;have hr:j % 8<8:=(by omega);have ho:off+j=off+j / 8*8+j % 8:=(by omega);rw[ho];generalize j % 8=r at hr e ⊢;generalize j / 8=q at hs e ⊢;rcases r with _ | _ | _ | _ | _ | _ | _ | _ | r
  ·cases e;exact hs.c0
  ·cases e;exact hs.c1
  ·cases e;exact hs.c2
  ·cases e;exact hs.c3
  ·cases e;exact hs.c4
  ·cases e;exact hs.c5
  ·cases e;exact hs.c6
  ·cases e;exact hs.c7
  ·omega
 ·exact⟨fun _=>.slice none 0 0,fun i hi=>absurd hi (by omega),fun h=>absurd h hn⟩
theorem zAf{w1:World}{base n:Nat}{v:Value}{f:Nat->zm}{cv:Nat->Value}(bA:w1.ownsRow base 99 8 v n (zA9 f cv n))(L:Nat)(hL:w1.heap.size<=L):∃bs a c,v = .slice a n c/\n<=c/\(0<n->a=some ⟨bs,0,none⟩/\base<=bs/\bs<w1.heap.size)/\qg w1 bs L n 0 f (fun _=>0) cv cv:=by
 obtain⟨a1,c1,rfl,cA⟩:=zW bA;by_cases h0:0<n
 ·obtain⟨g,fA,hv,_,dA,eA,aA⟩:=qe bA h0;simp only[Value.slice.injEq,true_and]at hv;obtain⟨rfl,rfl⟩:=hv;refine⟨g,_,_,rfl,cA,fun _=>⟨rfl,dA,eA⟩,fun j hj=>?_,fun j hj=>absurd hj (Nat.not_lt_zero _),fun j hj=>absurd hj (Nat.not_lt_zero _),fun i j hi=>absurd hi (Nat.not_lt_zero _),fun _=>by omega⟩;rw[if_neg (Nat.not_lt_zero _)];exact⟨aA _ _ (zAr f cv n hj (r:=0) (by omega)),aA _ _ (zAr f cv n hj (r:=1) (by omega)),aA _ _ (zAr f cv n hj (r:=2) (by omega)),aA _ _ (zAr f cv n hj (r:=3) (by omega)),aA _ _ (zAr f cv n hj (r:=4) (by omega)),aA _ _ (zAr f cv n hj (r:=5) (by omega)),aA _ _ (zAr f cv n hj (r:=6) (by omega)),aA _ _ (zAr f cv n hj (r:=7) (by omega))⟩
 ·exact⟨0,_,_,rfl,cA,fun h=>absurd h h0,fun j hj=>absurd hj (by omega),fun j hj=>absurd hj (Nat.not_lt_zero _),fun j hj=>absurd hj (Nat.not_lt_zero _),fun i j hi=>absurd hi (Nat.not_lt_zero _),fun h=>absurd h h0⟩
def zDb(W:zH):Prop:=(∀i,i<W.sn->(W.zRS i).dn<=1048576)/\∀i,i<W.pn->(W.zRP i).dn<=1048576
end Go.Proofs.YtmgeglgboadfiaaGreatDoor
