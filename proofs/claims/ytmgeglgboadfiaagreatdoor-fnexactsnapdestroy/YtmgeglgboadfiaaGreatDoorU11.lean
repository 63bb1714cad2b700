/- A part of the proof. -/
import Derived.Test.YtmgeglgboadfiaaGreatDoorU10
set_option linter.unusedVariables false
set_option maxRecDepth 20000
set_option maxHeartbeats 4000000
namespace Go.Proofs.YtmgeglgboadfiaaGreatDoor
open Go.RowKit
def yo(w:World)(S:Nat->Prop)(v:Value)(n:Nat)(f:Nat->zv):Prop:=∃(bs:Nat) (kb:Nat->Nat) (kv:Nat->Value),qm w bs kb kv v n f/\zAG kb n f/\∀k,zA4 bs kb n f k->S k
def ym(w:World)(S:Nat->Prop)(v:Value)(n:Nat)(f:Nat->zY):Prop:=∃(bs:Nat) (kb:Nat->Nat) (kv:Nat->Value),qI w bs kb kv v n f/\qw kb n f/\∀k,yq bs kb n f k->S k
theorem yo.zPF{S T:Nat->Prop}{w w':World}{v:Value}{n:Nat}{f:Nat->zv}(h:yo w S v n f)(t:zF T w w')(hs:∀k,S k->¬T k):yo w' S v n f:=by
 obtain⟨bs,kb,kv,h1,h2,h3⟩:=h;exact⟨bs,kb,kv,h1.zPF t (fun k hk=>hs k (h3 k hk)),h2,h3⟩
theorem ym.zPF{S T:Nat->Prop}{w w':World}{v:Value}{n:Nat}{f:Nat->zY}(h:ym w S v n f)(t:zF T w w')(hs:∀k,S k->¬T k):ym w' S v n f:=by
 obtain⟨bs,kb,kv,h1,h2,h3⟩:=h;exact⟨bs,kb,kv,h1.zPF t (fun k hk=>hs k (h3 k hk)),h2,h3⟩
theorem yo.zO9{S:Nat->Prop}{w w':World}{v:Value}{n:Nat}{f:Nat->zv}(h:yo w S v n f)(t:Below w.heap.size w w'):yo w' S v n f:=by
 obtain⟨bs,kb,kv,h1,h2,h3⟩:=h;exact⟨bs,kb,kv,h1.zO9 t,h2,h3⟩
theorem ym.zO9{S:Nat->Prop}{w w':World}{v:Value}{n:Nat}{f:Nat->zY}(h:ym w S v n f)(t:Below w.heap.size w w'):ym w' S v n f:=by
 obtain⟨bs,kb,kv,h1,h2,h3⟩:=h;exact⟨bs,kb,kv,h1.zO9 t,h2,h3⟩
theorem yo.at{S:Nat->Prop}{w:World}{v:Value}{n:Nat}{f:Nat->zv}(h:yo w S v n f){lo hi:Nat}(hs:∀k,S k->lo<=k/\k<hi):yY w lo hi v n f:=by
 obtain⟨bs,kb,kv,h1,h2,h3⟩:=h;exact h1.at (fun k hk=>hs k (h3 k hk))
theorem ym.at{S:Nat->Prop}{w:World}{v:Value}{n:Nat}{f:Nat->zY}(h:ym w S v n f){lo hi:Nat}(hs:∀k,S k->lo<=k/\k<hi):qf w lo hi v n f:=by
 obtain⟨bs,kb,kv,h1,h2,h3⟩:=h;exact h1.at (fun k hk=>hs k (h3 k hk))
theorem yo.zPO{S:Nat->Prop}{w:World}{v:Value}{n:Nat}{f:Nat->zv}(h:yo w S v n f):∃a c,v = .slice a n c/\n<=c:=by
 obtain⟨bs,kb,kv,⟨_,a,c,hv,hc,_⟩,h2,h3⟩:=h;exact⟨a,c,hv,hc⟩
theorem ym.zPO{S:Nat->Prop}{w:World}{v:Value}{n:Nat}{f:Nat->zY}(h:ym w S v n f):∃a c,v = .slice a n c/\n<=c:=by
 obtain⟨bs,kb,kv,⟨_,a,c,hv,hc,_⟩,h2,h3⟩:=h;exact⟨a,c,hv,hc⟩
theorem qi.zPO{w:World}{S:Nat->Prop}{v0 v1:Value}{p:zN}(h:qi w S v0 v1 p):∃a c a' c',v0 = .slice a p.n c/\v1 = .slice a' p.hn c':=by
 obtain⟨bs,hb,kb,kv,⟨_,a,c,h1,_⟩,h2,⟨_,a',c',h3,_,_⟩,h4,h5⟩:=h;exact⟨a,c,a',c',h1,h3⟩
structure zAv (w:World) (P Q R:Nat->Prop) (v0 v1 v2 v3:Value) (W:zE):Prop where
 zPE:qi w P v0 v1 W.zPE
 zPG:yo w Q v2 W.sn W.zPG
 zPD:ym w R v3 W.pn W.zPD
 pq:∀k,P k->¬Q k
 pr:∀k,P k->¬R k
 qr:∀k,Q k->¬R k
def qP(w:World)(lo hi:Nat)(v0 v1 v2 v3:Value)(W:zE):Prop:=∃P Q R,zAv w P Q R v0 v1 v2 v3 W/\∀k,P k\/Q k\/R k->lo<=k/\k<hi
theorem qP.at{w:World}{lo hi:Nat}{v0 v1 v2 v3:Value}{W:zE}(h:qP w lo hi v0 v1 v2 v3 W):zd w lo hi v0 v1 v2 v3 W:=by
 obtain⟨P,Q,R,h,hl⟩:=h;exact⟨h.zPE.at (fun k hk=>hl k (Or.inl hk)),h.zPG.at (fun k hk=>hl k (Or.inr (Or.inl hk))),h.zPD.at (fun k hk=>hl k (Or.inr (Or.inr hk)))⟩
theorem zAv.zO9{P Q R:Nat->Prop}{w w':World}{v0 v1 v2 v3:Value}{W:zE}(h:zAv w P Q R v0 v1 v2 v3 W)(t:Below w.heap.size w w'):zAv w' P Q R v0 v1 v2 v3 W:=
 ⟨h.zPE.zO9 t,h.zPG.zO9 t,h.zPD.zO9 t,h.pq,h.pr,h.qr⟩
theorem qP.zO9{w w':World}{lo hi:Nat}{v0 v1 v2 v3:Value}{W:zE}(h:qP w lo hi v0 v1 v2 v3 W)(t:Below w.heap.size w w'):qP w' lo hi v0 v1 v2 v3 W:=by
 obtain⟨P,Q,R,h,hl⟩:=h;exact⟨P,Q,R,h.zO9 t,hl⟩
theorem zAv.zPF{P Q R T:Nat->Prop}{w w':World}{v0 v1 v2 v3:Value}{W:zE}(h:zAv w P Q R v0 v1 v2 v3 W)(t:zF T w w')(hs:∀k,P k\/Q k\/R k->¬T k):zAv w' P Q R v0 v1 v2 v3 W:=
 ⟨h.zPE.zPF t (fun k hk=>hs k (Or.inl hk)),h.zPG.zPF t (fun k hk=>hs k (Or.inr (Or.inl hk))),h.zPD.zPF t (fun k hk=>hs k (Or.inr (Or.inr hk))),h.pq,h.pr,h.qr⟩
theorem qP.zPF{S:Nat->Prop}{w w':World}{lo hi:Nat}{v0 v1 v2 v3:Value}{W:zE}(h:qP w lo hi v0 v1 v2 v3 W)(t:zF S w w')(hs:∀k,S k->k<lo\/hi<=k):qP w' lo hi v0 v1 v2 v3 W:=by
 obtain⟨P,Q,R,h,hl⟩:=h;exact⟨P,Q,R,h.zPF t (fun k hk hx=>by have:=hl k hk;have:=hs k hx;omega),hl⟩
theorem qP.wide{w:World}{lo hi bA aA:Nat}{v0 v1 v2 v3:Value}{W:zE}(h:qP w lo hi v0 v1 v2 v3 W)(h1:bA<=lo)(h2:hi<=aA):qP w bA aA v0 v1 v2 v3 W:=by
 obtain⟨P,Q,R,h,hl⟩:=h;exact⟨P,Q,R,h,fun k hk=>by have:=hl k hk;omega⟩
theorem qP.zPO{w:World}{lo hi:Nat}{v0 v1 v2 v3:Value}{W:zE}(h:qP w lo hi v0 v1 v2 v3 W):∃a0 c0 a1 c1 a2 c2 a3 c3,v0 = .slice a0 W.zPE.n c0/\v1 = .slice a1 W.zPE.hn c1/\v2 = .slice a2 W.sn c2/\v3 = .slice a3 W.pn c3:=by
 obtain⟨P,Q,R,h,hl⟩:=h;obtain⟨a0,c0,a1,c1,e0,e1⟩:=h.zPE.zPO;obtain⟨a2,c2,e2,-⟩:=h.zPG.zPO;obtain⟨a3,c3,e3,-⟩:=h.zPD.zPO;exact⟨a0,c0,a1,c1,a2,c2,a3,c3,e0,e1,e2,e3⟩
theorem zd.zPO{w:World}{lo hi:Nat}{v0 v1 v2 v3:Value}{W:zE}(h:zd w lo hi v0 v1 v2 v3 W):∃a0 c0 a1 c1 a2 c2 a3 c3,v0 = .slice a0 W.zPE.n c0/\v1 = .slice a1 W.zPE.hn c1/\v2 = .slice a2 W.sn c2/\v3 = .slice a3 W.pn c3:=by
 obtain⟨a0,c0,a1,c1,e0,e1⟩:=h.zPE.zPO;obtain⟨-,a2,c2,e2,-⟩:=h.zPG;obtain⟨-,a3,c3,e3,-⟩:=h.zPD;exact⟨a0,c0,a1,c1,a2,c2,a3,c3,e0,e1,e2,e3⟩
def zMv(W:zE)(w:World)(e:Ending)(w':World):Prop:=∃v0 v1 v2 v3,e = .returned (zt v0 v1 v2 v3 W)/\qP w' w.heap.size w'.heap.size v0 v1 v2 v3 W/\Below w.heap.size w w'
theorem yY.wide{w:World}{lo hi bA aA:Nat}{v:Value}{n:Nat}{f:Nat->zv}(h:yY w lo hi v n f)(h1:bA<=lo)(h2:hi<=aA)(hp:∀{v n f g},zR w lo hi v n f g->zR w bA aA v n f g):yY w bA aA v n f:=by
 obtain⟨m,a,c,hv,hc,hx⟩:=h;refine⟨m,a,c,hv,hc,fun h0=>?_⟩;obtain⟨b,off,ha,l1,l2,h3⟩:=hx h0;refine⟨b,off,ha,by omega,by omega,fun i hi=>?_⟩;obtain⟨vd,hs⟩:=h3 i hi;exact⟨vd,hs.c0,hs.c1,hs.c2,hs.c3,hs.c4,hs.c5,hp hs.zPK,hs.zPN⟩
theorem qf.wide{w:World}{lo hi bA aA:Nat}{v:Value}{n:Nat}{f:Nat->zY}(h:qf w lo hi v n f)(h1:bA<=lo)(h2:hi<=aA)(hp:∀{v n f g},zR w lo hi v n f g->zR w bA aA v n f g):qf w bA aA v n f:=by
 obtain⟨m,a,c,hv,hc,hx⟩:=h;refine⟨m,a,c,hv,hc,fun h0=>?_⟩;obtain⟨b,off,ha,l1,l2,h3⟩:=hx h0;refine⟨b,off,ha,by omega,by omega,fun i hi=>?_⟩;obtain⟨vd,hs⟩:=h3 i hi;exact⟨vd,hs.c0,hs.c1,hs.c2,hs.c3,hs.c4,hs.c5,hs.c6,hs.c7,hp hs.zPK,hs.zPN⟩
theorem qG.wide{w:World}{lo hi bA aA:Nat}{v:Value}{n:Nat}{f:Nat->zO}(h:qG w lo hi v n f)(h1:bA<=lo)(h2:hi<=aA):qG w bA aA v n f:=by
 obtain⟨m,a,c,hv,hc,hx⟩:=h;refine⟨m,a,c,hv,hc,fun h0=>?_⟩;obtain⟨b,off,ha,l1,l2,h3⟩:=hx h0;refine⟨b,off,ha,by omega,by omega,fun i hi=>?_⟩;obtain⟨x0,x1,x2,c0,c1,c2,e0,hp,e2,hs⟩:=h3 i hi;exact⟨x0,x1,x2,c0,c1,c2,e0,hp.wide h1 h2,e2,hs⟩
theorem zd.wide{w:World}{lo hi bA aA:Nat}{v0 v1 v2 v3:Value}{W:zE}(h:zd w lo hi v0 v1 v2 v3 W)(h1:bA<=lo)(h2:hi<=aA):zd w bA aA v0 v1 v2 v3 W:=
 ⟨⟨h.zPE.1.wide h1 h2,h.zPE.2.wide h1 h2⟩,h.zPG.wide h1 h2 (fun hp=>hp.wide h1 h2),h.zPD.wide h1 h2 (fun hp=>hp.wide h1 h2)⟩
theorem zHV(v:Value)(n lo hi:Nat)(f g:Nat->Int)(w:World)(h1:zR w lo hi v n f g)(hn:n<=1048576) :
  Calls Tryz.prog 171 #[v] w fun e w'=>(∃v' kb,e = .returned v'/\zj w' kb v' n f g/\(0<n->w.heap.size<=kb/\kb<w'.heap.size))/\Below w.heap.size w w':=by
 obtain⟨m1,a,c,rfl,mc,g1⟩:=h1;have G1:Hid (0<n->∃b off,a=some ⟨b,off,none⟩/\lo<=b/\b<hi/\∀i,i<n->w.cell? ⟨b,off+i*2,none⟩=some (.int .i64 (f i))/\w.cell? ⟨b,off+i*2+1,none⟩=some (.int .i64 (g i))):=g1;have Hm:Hid (n<=maxLen):=m1;clear g1 m1;have oA:=fun w=>Lib.run_eql_slice_nil (P:=Tryz.prog) w 62 61 a n c 0 0 (by kernel_rfl)
 cases a with
 | none=>
  have nA:n=0:=by
   by_cases h:0<n
   ·obtain⟨b,off,ha,_⟩:=G1.out h;simp at ha
   ·omega
  subst nA;go_enter Tryz.func171,Tryz.ntmps171;go_wp2;go_ret;exact⟨⟨_,0,rfl,⟨Nat.zero_le _,none,0,rfl,Nat.le_refl _,fun h=>absurd h (Nat.lt_irrefl _)⟩,fun h=>absurd h (Nat.lt_irrefl _)⟩,Below.refl _ _⟩
 | some ad=>
  obtain⟨i0,hi,lA⟩:=Option.map_eq_some_iff.1 zBS;simp only[Prod.mk.injEq]at lA;obtain⟨hz,hs,kA⟩:=lA;have fA:∀(w':World),Below w.heap.size w w'->∀j u,(kc f g n)[j]?=some u->w'.cell? (ad.add j)=some u:=fun w' hb j u hj=>by
   by_cases h0:0<n
   ·obtain⟨b,off,ha,_,_,hc⟩:=G1.out h0;simp only[Option.some.injEq]at ha;subst ha;have:=zEx hc j u hj;have iA:(⟨b,off,none⟩:Addr).add j=⟨b,off+j,none⟩:=(by unfold Addr.add;split<;>simp_all);rw[iA]at this ⊢;exact(hb.cell (zD this)).trans this
   ·obtain rfl:n=0:=(by omega);simp[kc]at hj
  have gA:Hid (∀(w':World),Below w.heap.size w w'->∀j u,(kc f g n)[j]?=some u->w'.cell? (ad.add j)=some u):=fA;have HI:Hid (Tryz.prog.info? 61=some i0/\i0.zero=some (.agg #[.int .i64 0,.int .i64 0])/\i0.size=2/\i0.bytes=16):=⟨hi,hz,hs,kA⟩;have dA:(w.alloc (.cells #[] 61)).ownsRow w.heap.size 61 2 (.slice (some ⟨w.heap.size,0,none⟩) 0 0) 0 []:=World.ownsRow_made w #[] 0 (Nat.le_refl _) (Nat.zero_le _) (by simp);have aA:Hid ((w.alloc (.cells #[] 61)).ownsRow w.heap.size 61 2 (.slice (some ⟨w.heap.size,0,none⟩) 0 0) 0 []):=dA;clear hi hz hs kA fA dA;go_enter Tryz.func171,Tryz.ntmps171;go_wp2_with (first
   | (at_builtin;refine wpList_append_own _ rfl _ _ 62 rfl w.heap.size 61 i0 (.agg #[.int .i64 0,.int .i64 0]) 2 16 (by kernel_rfl) HI.out.1 HI.out.2.1 HI.out.2.2.1 HI.out.2.2.2 rfl (by decide) _ _ _ rfl aA.out ad n c (kc f g n) rfl (zDU f g n) ?c1 (zIv f g n) ?c3 ?c4 ?c5 ?_))
  case c1=>exact gA.out _ ((Below.refl _ _).alloc (Nat.le_refl _) _)
  case c3=>unfold maxLen;omega
  case c4=>omega
  case c5=>simp
  intro v' w1 cA bA jA;have mA:Below w.heap.size w w1:=((Below.refl _ _).alloc (Nat.le_refl _) _).grown bA (by simp) (fun q hq=>by have:=aA.out.lt q hq;omega);have eA:w1.ownsRow w.heap.size 61 2 v' n (kc f g n):=(by simpa using cA);obtain⟨kb,hp,hk⟩:=zBf Hm.out eA;have Hp:Hid (zj w1 kb v' n f g/\(0<n->w.heap.size<=kb/\kb<w1.heap.size)):=⟨hp,hk⟩;clear hp hk cA eA bA jA;go_wp2;go_ret;exact⟨⟨v',kb,rfl,Hp.out.1,Hp.out.2⟩,mA⟩
theorem zHW(v0 v1 v2:Value)(lo hi:Nat)(s:zO)(w:World)(h1:qT w lo hi v0 v1 v2 s)(hn:s.kn<=1048576) :
  Calls Tryz.prog 219 #[.agg #[v0,v1,v2]] w (zLf s w):=by
 obtain⟨rfl,p1,rfl,m1⟩:=h1;have q1:=p1;obtain⟨_,a,c,rfl,_⟩:=p1;go_enter Tryz.func219,Tryz.ntmps219;go_wp2_with fail;have eA:=zC w (.cells #[.int .i64 s.zPI,.slice a s.kn c,.string s.data] 127);have cA:=zA eA (zC _ (.cells #[.int .i64 0,.slice none 0 0,.string ⟨#[]⟩] 127));refine(zHV _ s.kn lo hi _ _ _ (q1.zO9 cA) hn).mono ?_;rintro e w1 ⟨⟨kv,kb,rfl,hp,hk⟩,aA⟩;have HB:Hid (yX w1 w.heap.size (.int .i64 s.zPI) (.slice a s.kn c) (.string s.data)):=((yX.new w _ _ _ _).zO9 (zC _ _)).zO9 aA;have HR:Hid (yX w1 (w.heap.size+1) (.int .i64 0) (.slice none 0 0) (.string ⟨#[]⟩)):=by
  have:=((yX.new (w.alloc (.cells #[.int .i64 s.zPI,.slice a s.kn c,.string s.data] 127)) (.int .i64 0) (.slice none 0 0) (.string ⟨#[]⟩) 127).zO9 aA);rw[World.size_alloc]at this;exact this
 have fA:=zA cA aA;rw[World.size_alloc,World.size_alloc]at hk;have Hp:Hid (zj w1 kb kv s.kn s.ks s.kb/\(0<s.kn->w.heap.size+1+1<=kb/\kb<w1.heap.size)):=⟨hp,hk⟩;obtain⟨_,ka,dA,rfl,_⟩:=hp;clear eA cA aA hk;obtain⟨⟨x0,x1⟩,⟨x2,x3⟩,⟨x4,x5⟩⟩:=HB.out;obtain⟨⟨y0,y1⟩,⟨y2,y3⟩,⟨y4,y5⟩⟩:=HR.out;go_wp2;have bA:=(HR.out.zPA (b':=w.heap.size) (o':=1) (.slice ka s.kn dA) (by omega)).put (.int .i64 s.zPI) (.slice ka s.kn dA) (.string s.data);refine bodyPost_ret (v:=.agg #[.int .i64 s.zPI,.slice ka s.kn dA,.string s.data]) (by simp[results,Tryz.results219,go_sem,bA.1.1,bA.2.1.1,bA.2.2.1]) rfl ⟨_,kb,rfl,?_,?_,?_⟩
 ·have hk:=Hp.out.2;refine(((Hp.out.1.zPF (zF.put _ _ _ _) ?_).zPF (zF.put _ _ _ _) ?_).zPF (zF.put _ _ _ _) ?_).zPF (zF.put _ _ _ _) ?_
  all_goals exact fun h0 e=>by have:=hk h0;omega
 ·intro h0;have:=Hp.out.2 h0;simp only[World.size_setCell];omega
 ·exact(((fA.setCell (by show _<=w.heap.size;omega) _).setCell (by show _<=w.heap.size+1;omega) _).setCell (by show _<=w.heap.size+1;omega) _).setCell (by show _<=w.heap.size+1;omega) _
theorem zJ0(v0 v1 v2:Value)(lo hi:Nat)(s:zO)(w:World)(h1:qT w lo hi v0 v1 v2 s)(hn:s.kn<=1048576) :
  Calls Tryz.prog 146 #[.agg #[v0,v1,v2]] w (zLf s w):=by
 obtain⟨rfl,⟨m1,a,c,rfl,mc,g1⟩,rfl,m2⟩:=h1;have G1:Hid (0<s.kn->∃b off,a=some ⟨b,off,none⟩/\lo<=b/\b<hi/\∀i,i<s.kn->w.cell? ⟨b,off+i*2,none⟩=some (.int .i64 (s.ks i))/\w.cell? ⟨b,off+i*2+1,none⟩=some (.int .i64 (s.kb i))):=g1;have Hm:Hid (s.kn<=maxLen):=m1;clear g1 m1;obtain⟨i0,bB,dB⟩:=Option.map_eq_some_iff.1 zBS;simp only[Prod.mk.injEq]at dB;obtain⟨hz,hs,aB⟩:=dB;have HI:Hid (Tryz.prog.info? 61=some i0/\i0.zero=some (.agg #[.int .i64 0,.int .i64 0])/\i0.size=2/\i0.bytes=16):=⟨bB,hz,hs,aB⟩;clear bB hz hs aB;have sA:=zC w (.cells #[.int .i64 s.zPI,.slice a s.kn c,.string s.data] 127);have tA:=zA sA (zC _ (.cells #[.int .i64 0,.slice none 0 0,.string ⟨#[]⟩] 127));have vA:=zA tA (zC _ (.cells #[] 61));have lA:Hid (Below w.heap.size w (((w.alloc (.cells #[.int .i64 s.zPI,.slice a s.kn c,.string s.data] 127)).alloc (.cells #[.int .i64 0,.slice none 0 0,.string ⟨#[]⟩] 127)).alloc (.cells #[] 61))):=vA;have cA:=World.ownsRow_made (base:=w.heap.size+1+1) (e:=61) (size:=2) ((w.alloc (.cells #[.int .i64 s.zPI,.slice a s.kn c,.string s.data] 127)).alloc (.cells #[.int .i64 0,.slice none 0 0,.string ⟨#[]⟩] 127)) #[] 0 (by simp) (Nat.zero_le _) (by simp);rw[World.size_alloc,World.size_alloc]at cA;have aA:Hid ((((w.alloc (.cells #[.int .i64 s.zPI,.slice a s.kn c,.string s.data] 127)).alloc (.cells #[.int .i64 0,.slice none 0 0,.string ⟨#[]⟩] 127)).alloc (.cells #[] 61)).ownsRow (w.heap.size+1+1) 61 2 (.slice (some ⟨w.heap.size+1+1,0,none⟩) 0 0) 0 []):=cA;have iA:Hid (yX (((w.alloc (.cells #[.int .i64 s.zPI,.slice a s.kn c,.string s.data] 127)).alloc (.cells #[.int .i64 0,.slice none 0 0,.string ⟨#[]⟩] 127)).alloc (.cells #[] 61)) w.heap.size (.int .i64 s.zPI) (.slice a s.kn c) (.string s.data)):=((yX.new w _ _ _ _).zO9 (zC _ _)).zO9 (zC _ _);have jA:Hid (yX (((w.alloc (.cells #[.int .i64 s.zPI,.slice a s.kn c,.string s.data] 127)).alloc (.cells #[.int .i64 0,.slice none 0 0,.string ⟨#[]⟩] 127)).alloc (.cells #[] 61)) (w.heap.size+1) (.int .i64 0) (.slice none 0 0) (.string ⟨#[]⟩)):=by
  have:=((yX.new (w.alloc (.cells #[.int .i64 s.zPI,.slice a s.kn c,.string s.data] 127)) (.int .i64 0) (.slice none 0 0) (.string ⟨#[]⟩) 127).zO9 (zC _ (.cells #[] 61)));rw[World.size_alloc]at this;exact this
 clear sA tA vA cA;go_enter Tryz.func146,Tryz.ntmps146;cases a with
 | none=>
  have cB:s.kn=0:=by
   by_cases h:0<s.kn
   ·obtain⟨b,off,ha,_⟩:=G1.out h;simp at ha
   ·omega
  have gA:Hid (s.kn=0):=cB;clear cB;go_wp2_with (first
   | (at_builtin;refine zFH rfl _ _ 62 rfl (w.heap.size+1+1) 61 i0 2 c s.kn (by kernel_rfl) HI.out.1 (.slice (some ⟨w.heap.size+1+1,0,none⟩) 0 0) 0 [] rfl ?c0 gA.out rfl ?_))
  case c0=>exact aA.out
  refine bodyPost_ret (v:=.agg #[.int .i64 s.zPI,.slice (some ⟨w.heap.size+1+1,0,none⟩) 0 0,.string s.data]) (by simp[results,Tryz.results146,go_sem]) rfl ⟨_,0,rfl,?_,?_,?_⟩
  ·exact⟨Hm.out,_,0,by rw[gA.out],by rw[gA.out];exact Nat.le_refl _,fun h=>absurd h (by rw[gA.out];exact Nat.lt_irrefl _)⟩
  ·exact fun h=>absurd h (by rw[gA.out];exact Nat.lt_irrefl _)
  ·exact zA (zA (zC _ _) (zC _ _)) (zC _ _)
 | some ad=>
  have mA:Hid (∀(w':World),Below w.heap.size w w'->∀j u,(kc s.ks s.kb s.kn)[j]?=some u->w'.cell? (ad.add j)=some u):=fun w' hb j u hj=>by
   by_cases h0:0<s.kn
   ·obtain⟨b,off,ha,_,_,hc⟩:=G1.out h0;simp only[Option.some.injEq]at ha;subst ha;have:=zEx hc j u hj;have nA:(⟨b,off,none⟩:Addr).add j=⟨b,off+j,none⟩:=(by unfold Addr.add;split<;>simp_all);rw[nA]at this ⊢;exact(hb.cell (zD this)).trans this
   ·have fB:s.kn=0:=(by omega);rw[fB]at hj;simp[kc]at hj
  go_wp2_with (first
   | (at_builtin;refine wpList_append_own _ rfl _ _ 62 rfl (w.heap.size+1+1) 61 i0 (.agg #[.int .i64 0,.int .i64 0]) 2 16 (by kernel_rfl) HI.out.1 HI.out.2.1 HI.out.2.2.1 HI.out.2.2.2 rfl (by decide) _ 0 [] rfl ?c0 ad s.kn c (kc s.ks s.kb s.kn) rfl (zDU _ _ _) ?c1 (zIv _ _ _) ?c3 ?c4 ?c5 ?_))
  case c0=>exact aA.out
  case c1=>exact mA.out _ lA.out
  case c3=>unfold maxLen;omega
  case c4=>omega
  case c5=>simp
  intro v' w1 dA bA oA;have eA:w1.ownsRow (w.heap.size+1+1) 61 2 v' s.kn (kc s.ks s.kb s.kn):=(by simpa using dA);have gB:Below w.heap.size w w1:=lA.out.grown bA (by simp;omega) (fun q hq=>by have:=aA.out.lt q hq;omega);have fA:∀b,b<w.heap.size+1+1->∀o x,zQ (((w.alloc (.cells #[.int .i64 s.zPI,.slice (some ad) s.kn c,.string s.data] 127)).alloc (.cells #[.int .i64 0,.slice none 0 0,.string ⟨#[]⟩] 127)).alloc (.cells #[] 61)) b o x->zQ w1 b o x:=fun b hb o x hx=>by
   have e:=zJp bA aA.out hb hx.lt;exact⟨(World.cell?_of_block (a:=⟨b,o,none⟩) e).trans hx.1,(World.frozen?_of_block (a:=⟨b,o,none⟩) e).trans hx.2⟩
  have eB:Hid (yX w1 w.heap.size (.int .i64 s.zPI) (.slice (some ad) s.kn c) (.string s.data)):=⟨fA _ (by omega) _ _ iA.out.1,fA _ (by omega) _ _ iA.out.2.1,fA _ (by omega) _ _ iA.out.2.2⟩;have rA:Hid (yX w1 (w.heap.size+1) (.int .i64 0) (.slice none 0 0) (.string ⟨#[]⟩)):=⟨fA _ (by omega) _ _ jA.out.1,fA _ (by omega) _ _ jA.out.2.1,fA _ (by omega) _ _ jA.out.2.2⟩;obtain⟨kb,hp,hk⟩:=zBf Hm.out eA;have Hp:Hid (zj w1 kb v' s.kn s.ks s.kb/\(0<s.kn->w.heap.size+1+1<=kb/\kb<w1.heap.size)):=⟨hp,hk⟩;obtain⟨_,ka,pA,rfl,_⟩:=hp;clear hk dA eA bA oA fA iA jA aA lA;obtain⟨⟨x0,x1⟩,⟨x2,x3⟩,⟨x4,x5⟩⟩:=eB.out;obtain⟨⟨y0,y1⟩,⟨y2,y3⟩,⟨y4,y5⟩⟩:=rA.out;go_wp2;have kA:=(rA.out.zPA (b':=w.heap.size) (o':=1) (.slice ka s.kn pA) (by omega)).put (.int .i64 s.zPI) (.slice ka s.kn pA) (.string s.data);refine bodyPost_ret (v:=.agg #[.int .i64 s.zPI,.slice ka s.kn pA,.string s.data]) (by simp[results,Tryz.results146,go_sem,kA.1.1,kA.2.1.1,kA.2.2.1]) rfl ⟨_,kb,rfl,?_,?_,?_⟩
  ·have hk:=Hp.out.2;refine(((Hp.out.1.zPF (zF.put _ _ _ _) ?_).zPF (zF.put _ _ _ _) ?_).zPF (zF.put _ _ _ _) ?_).zPF (zF.put _ _ _ _) ?_
   all_goals exact fun h0 e=>by have:=hk h0;omega
  ·intro h0;have:=Hp.out.2 h0;simp only[World.size_setCell];omega
  ·exact(((gB.setCell (by show _<=w.heap.size;omega) _).setCell (by show _<=w.heap.size+1;omega) _).setCell (by show _<=w.heap.size+1;omega) _).setCell (by show _<=w.heap.size+1;omega) _
theorem zHU(a:Option Addr)(n c:Nat)(xs:List Value)(w:World)(hl:xs.length=n*1)(iA:∀u∈xs,u.oneCell'=true)(hn:n<=1048576)
    (hc:0<n->∃b off,a=some ⟨b,off,none⟩/\∀j u,xs[j]?=some u->w.cell? ⟨b,off+j,none⟩=some u) :
    Calls Tryz.prog 211 #[.slice a n c] w fun e w'=>∃v',e = .returned v'/\w'.ownsRow w.heap.size 2 1 v' n xs/\Below w.heap.size w w'/\(n=0->∃a,v' = .slice a 0 0):=by
  have Hc:Hid (0<n->∃b off,a=some ⟨b,off,none⟩/\∀j u,xs[j]?=some u->w.cell? ⟨b,off+j,none⟩=some u):=hc;have Hl:Hid (xs.length=n*1/\∀u∈xs,u.oneCell'=true):=⟨hl,iA⟩;clear hc hl iA;have pA:=fun w=>Lib.run_eql_slice_nil (P:=Tryz.prog) w 23 2 a n c 0 0 (by kernel_rfl)
  cases a with
  | none=>
    have nA:n=0:=by
      by_cases h:0<n
      · obtain⟨b,off,ha,_⟩:=Hc.out h;simp at ha
      · omega
    subst nA;have oA:xs = []:=List.eq_nil_of_length_eq_zero (by simpa using Hl.out.1);subst oA;go_enter Tryz.func211,Tryz.ntmps211;go_wp2;go_ret;exact⟨_,rfl,World.ownsRow_nil _ _ _ _,Below.refl _ _,fun _=>⟨_,rfl⟩⟩
  | some ad=>
    obtain⟨i0,hi,lA⟩:=Option.map_eq_some_iff.1 zCd;simp only[Prod.mk.injEq]at lA;obtain⟨hz,hs,kA⟩:=lA;have HI:Hid (Tryz.prog.info? 2=some i0/\i0.zero=some (.int .i64 0)/\i0.size=1/\i0.bytes=8):=⟨hi,hz,hs,kA⟩;have aA:Hid ((w.alloc (.cells #[] 2)).ownsRow w.heap.size 2 1 (.slice (some ⟨w.heap.size,0,none⟩) 0 0) 0 []):=World.ownsRow_made w #[] 0 (Nat.le_refl _) (Nat.zero_le _) (by simp);clear hi hz hs kA;go_enter Tryz.func211,Tryz.ntmps211;go_wp2_with (first
      | (at_builtin;refine qR rfl _ _ 23 rfl w.heap.size 2 i0 (.int .i64 0) 1 8 (by kernel_rfl) HI.out.1 HI.out.2.1 HI.out.2.2.1 HI.out.2.2.2 rfl (by decide) _ _ _ rfl aA.out (some ad) n c xs rfl Hl.out.1 Hl.out.2 ?c1 ?c3 ?c4 ?c5 ?_))
    case c1=>
      intro h0;obtain⟨b,off,ha,bA⟩:=Hc.out h0;exact⟨b,off,ha,fun j u hj=>(((Below.refl _ _).alloc (Nat.le_refl _) _).cell (zD (bA j u hj))).trans (bA j u hj)⟩
    case c3=>unfold maxLen;omega
    case c4=>omega
    case c5=>simp
    intro v' w1 dA cA gA;have mA:Below w.heap.size w w1:=((Below.refl _ _).alloc (Nat.le_refl _) _).grown cA (by simp) (fun q hq=>by have:=aA.out.lt q hq;omega);have eA:w1.ownsRow w.heap.size 2 1 v' n xs:=(by simpa using dA);have fA:Hid (w1.ownsRow w.heap.size 2 1 v' n xs):=eA;have jA:Hid (n=0->v' = .slice (some ⟨w.heap.size,0,none⟩) 0 0):=gA;clear dA eA cA gA;go_wp2;go_ret;exact⟨v',rfl,fA.out,mA,fun e=>⟨_,jA.out e⟩⟩
theorem zGP(a:Option Addr)(n c:Nat)(xs:List Value)(w:World)(hl:xs.length=n*3)(iA:∀u∈xs,u.oneCell'=true)(hn:n<=1048576)
    (hc:0<n->∃b off,a=some ⟨b,off,none⟩/\∀j u,xs[j]?=some u->w.cell? ⟨b,off+j,none⟩=some u) :
    Calls Tryz.prog 218 #[.slice a n c] w fun e w'=>∃v',e = .returned v'/\w'.ownsRow w.heap.size 127 3 v' n xs/\Below w.heap.size w w'/\(n=0->∃a,v' = .slice a 0 0):=by
  have Hc:Hid (0<n->∃b off,a=some ⟨b,off,none⟩/\∀j u,xs[j]?=some u->w.cell? ⟨b,off+j,none⟩=some u):=hc;have Hl:Hid (xs.length=n*3/\∀u∈xs,u.oneCell'=true):=⟨hl,iA⟩;clear hc hl iA;have pA:=fun w=>Lib.run_eql_slice_nil (P:=Tryz.prog) w 31 127 a n c 0 0 (by kernel_rfl)
  cases a with
  | none=>
    have nA:n=0:=by
      by_cases h:0<n
      · obtain⟨b,off,ha,_⟩:=Hc.out h;simp at ha
      · omega
    subst nA;have oA:xs = []:=List.eq_nil_of_length_eq_zero (by simpa using Hl.out.1);subst oA;go_enter Tryz.func218,Tryz.ntmps218;go_wp2;go_ret;exact⟨_,rfl,World.ownsRow_nil _ _ _ _,Below.refl _ _,fun _=>⟨_,rfl⟩⟩
  | some ad=>
    obtain⟨i0,hi,lA⟩:=Option.map_eq_some_iff.1 zFV;simp only[Prod.mk.injEq]at lA;obtain⟨hz,hs,kA⟩:=lA;have HI:Hid (Tryz.prog.info? 127=some i0/\i0.zero=some (.agg #[.int .i64 0,.slice none 0 0,.string ⟨#[]⟩])/\i0.size=3/\i0.bytes=48):=⟨hi,hz,hs,kA⟩;have aA:Hid ((w.alloc (.cells #[] 127)).ownsRow w.heap.size 127 3 (.slice (some ⟨w.heap.size,0,none⟩) 0 0) 0 []):=World.ownsRow_made w #[] 0 (Nat.le_refl _) (Nat.zero_le _) (by simp);clear hi hz hs kA;go_enter Tryz.func218,Tryz.ntmps218;go_wp2_with (first
      | (at_builtin;refine qR rfl _ _ 31 rfl w.heap.size 127 i0 (.agg #[.int .i64 0,.slice none 0 0,.string ⟨#[]⟩]) 3 48 (by kernel_rfl) HI.out.1 HI.out.2.1 HI.out.2.2.1 HI.out.2.2.2 rfl (by decide) _ _ _ rfl aA.out (some ad) n c xs rfl Hl.out.1 Hl.out.2 ?c1 ?c3 ?c4 ?c5 ?_))
    case c1=>
      intro h0;obtain⟨b,off,ha,bA⟩:=Hc.out h0;exact⟨b,off,ha,fun j u hj=>(((Below.refl _ _).alloc (Nat.le_refl _) _).cell (zD (bA j u hj))).trans (bA j u hj)⟩
    case c3=>unfold maxLen;omega
    case c4=>omega
    case c5=>simp
    intro v' w1 dA cA gA;have mA:Below w.heap.size w w1:=((Below.refl _ _).alloc (Nat.le_refl _) _).grown cA (by simp) (fun q hq=>by have:=aA.out.lt q hq;omega);have eA:w1.ownsRow w.heap.size 127 3 v' n xs:=(by simpa using dA);have fA:Hid (w1.ownsRow w.heap.size 127 3 v' n xs):=eA;have jA:Hid (n=0->v' = .slice (some ⟨w.heap.size,0,none⟩) 0 0):=gA;clear dA eA cA gA;go_wp2;go_ret;exact⟨v',rfl,fA.out,mA,fun e=>⟨_,jA.out e⟩⟩
theorem zHe(v0 v1:Value)(lo hi:Nat)(p:zN)(w:World)(h1:qS w lo hi v0 v1 p)(hn:yL p<=1048576):Calls Tryz.prog 82 #[.agg #[v0,v1]] w (zMu p w):=by
  have Hp:=zi h1;obtain⟨⟨m1,a,c,rfl,mc,g1⟩,⟨m2,a',c',rfl,aD,g2⟩⟩:=h1;have Hm:=zi (And.intro m1 m2);clear g1 g2 m1 m2;unfold yL at hn;have Hn:Hid (∀j,j<p.n->(p.s j).kn<=1048576):=fun j hj=>by have h2:=zFA p.s hj;unfold zCE at h2;omega
  have sC:p.n<=1048576:=(by omega);have tC:p.hn<=1048576:=(by omega);clear hn;obtain⟨i0,aC,iB⟩:=Option.map_eq_some_iff.1 zCd;simp only[Prod.mk.injEq]at iB;have HI:=zi (And.intro aC iB);obtain⟨i1,bC,mA⟩:=Option.map_eq_some_iff.1 zFV;simp only[Prod.mk.injEq]at mA;have sA:=zi (And.intro bC mA);clear aC iB bC mA;have rB:=zC w (.cells #[.slice a p.n c,.slice a' p.hn c'] 33);have sB:=zA rB (zC _ (.cells #[.slice none 0 0,.slice none 0 0] 33));have aB:=zi (zA sB (zC _ (.cells #[] 2)));have eA:=World.ownsRow_made (base:=w.heap.size+1+1) (e:=2) (size:=1) ((w.alloc (.cells #[.slice a p.n c,.slice a' p.hn c'] 33)).alloc (.cells #[.slice none 0 0,.slice none 0 0] 33)) #[] 0 (by simp) (Nat.zero_le _) (by simp);rw[World.size_alloc,World.size_alloc]at eA;have cA:=zi eA;have jB:=zi (((zp.new w (.slice a p.n c) (.slice a' p.hn c') 33).zO9 (zC _ (.cells #[.slice none 0 0,.slice none 0 0] 33))).zO9 (zC _ (.cells #[] 2)));have fB:=(zp.new (w.alloc (.cells #[.slice a p.n c,.slice a' p.hn c'] 33)) (.slice none 0 0) (.slice none 0 0) 33).zO9 (zC _ (.cells #[] 2));rw[World.size_alloc]at fB;have lB:=zi fB;clear rB sB eA fB;go_enter Tryz.func82,Tryz.ntmps82;go_wp2_with (first
    | (at_builtin;refine qR rfl _ _ 23 rfl (w.heap.size+1+1) 2 i0 (.int .i64 0) 1 8 (by kernel_rfl) HI.out.1 HI.out.2.1 HI.out.2.2.1 HI.out.2.2.2 rfl (by decide) (.slice (some ⟨w.heap.size+1+1,0,none⟩) 0 0) 0 [] rfl ?c0 a' p.hn c' (ic p.h p.hn) rfl (zBD _ _) (zNH _ _) ?c1 ?c3 ?c4 ?c5 ?_))
  case c0=>exact cA.out
  case c1=>exact zI9 Hp.out.2 rfl aB.out
  case c3=>unfold maxLen;omega
  case c4=>omega
  case c5=>simp
  intro v' w1 gA dA jA;have fA:w1.ownsRow (w.heap.size+1+1) 2 1 v' p.hn (ic p.h p.hn):=(by simpa using gA);obtain⟨ha,hc,rfl,_⟩:=za fA;have gC:Hid (p.hn=0->∃a,Value.slice ha p.hn hc = .slice a 0 0):=fun e=>⟨_,jA e⟩
  clear jA;have oA:=zi fA;have cC:=zi (jB.out.grown dA cA.out (by omega));have eC:=zi (lB.out.grown dA cA.out (by omega));have kC:Below w.heap.size w w1:=aB.out.grown dA (by simp;omega) (fun q hq=>by have:=cA.out.lt q hq;omega);have vC:w.heap.size+3<=w1.heap.size:=(by have:=dA.size;simp at this;omega);clear gA fA dA jB lB cA aB;have bB:=zi (And.intro ((cC.out.zO9 (zC w1 (.cells #[.slice none 0 0,.slice ha p.hn hc] 33)))) (And.intro (zp.new w1 (.slice none 0 0) (.slice ha p.hn hc) 33) (zC w1 (.cells #[.slice none 0 0,.slice ha p.hn hc] 33))));go_wp2
  go_loopw [4] (fun i wr=>∃(k:Nat) (va:Option Addr) (vc:Nat) (kb:Nat->Nat) (kv:Nat->Value),k<=p.n/\i = .int .i64 k/\zp wr w.heap.size (.slice a p.n c) (.slice a' p.hn c')/\zp wr w1.heap.size (.slice va k vc) (.slice ha p.hn hc)/\zDy wr (w1.heap.size+1) k p.s kb kv (.slice va k vc)/\Below w1.heap.size w1 wr/\w1.heap.size+1<=wr.heap.size) (fun i _=>p.n - (intOf i).toNat)
  case atStart=>exact⟨0,none,0,_,_,Nat.zero_le _,rfl,bB.out.1,bB.out.2.1,zDy.nil _ _ _,bB.out.2.2,by simp⟩
  case round=>
    obtain⟨k,va,vc,kb,kv,hk,rfl,hx,ho,hl,tA,oC⟩:=hrel;have Hx:=zi hx;have Ho:=zi ho;have Hl:=zi hl;have vB:=zA kC tA;clear hx ho hl;by_cases cB:k<p.n
    · have lC:(k:Int)<(p.n:Int):=by omega
      obtain⟨b,off,ka,kc,rfl,hs⟩:=(Hp.out.1.zO9 vB).cells cB;have Hs:=zi hs;obtain⟨q0,q1,q2,_⟩:=hs;obtain⟨⟨x0,x1⟩,⟨x2,x3⟩⟩:=Hx.out;obtain⟨⟨y0,y1⟩,⟨y2,y3⟩⟩:=Ho.out;have rC:b<w.heap.size:=by
        obtain⟨b',pC,_,_,he,mC⟩:=Hp.out.1.cells cB;simp only[Option.some.injEq,Addr.mk.injEq,and_true]at he;rw[he.1];exact zD mC.c0
      have n0:w1.heap.size≠w.heap.size:=(by omega);have n1:w1.heap.size≠b:=(by omega);go_wp2_with fail
      go_region_law
        (first
          | (refine step_append_lies _ rfl (.tmp 18) (.tmp 25) 31 rfl (w1.heap.size+1) 127 i1 (.agg #[.int .i64 0,.slice none 0 0,.string ⟨#[]⟩]) 3 48 (by kernel_rfl) sA.out.1 sA.out.2.1 sA.out.2.2.1 sA.out.2.2.2 rfl (by decide) (.slice va k vc) k (sc p.s kv k) (by simp[Act.eval]) ?_ ⟨w2.heap.size,0,none⟩ 1 1 [.int .i64 (p.s k).zPI,.slice na (p.s k).kn nc,.string (p.s k).data] (by simp[Act.eval]) rfl ?_ ?_ (by decide) ?_ ?_ ?_ _ rfl ?_
             exact((Hl.out.zO9 aA).zO9 (zC w2 _)).row;exact zOy _ _ _ _ _;exact zO7 _ _ _ _ _
             (unfold maxLen;omega)
             omega
             (have:=aA.size;rw[World.size_alloc];omega)
             intro g cap w3 iA bA pA dB;have vA:=(Hl.out.zO9 aA).zO9 (zC w2 (.cells #[.int .i64 (p.s k).zPI,.slice na (p.s k).kn nc,.string (p.s k).data] 127));have t3:=zBa bA;have nA:∀b,b<w1.heap.size+1->¬(Value.slice va k vc).ownBlock=some b:=fun b hb e=>by have:=vA.row.lt b e;omega
             have pB:=((Hx.out.zO9 aA).zO9 (zC w2 (.cells #[.int .i64 (p.s k).zPI,.slice na (p.s k).kn nc,.string (p.s k).data] 127))).zPF t3 (nA _ (by omega));have oB:=((Ho.out.zO9 aA).zO9 (zC w2 (.cells #[.int .i64 (p.s k).zPI,.slice na (p.s k).kn nc,.string (p.s k).data] 127))).zPF t3 (nA _ (by omega));have kA:=(Hs.out.zO9 aA).zO9 (zC w2 (.cells #[.int .i64 (p.s k).zPI,.slice na (p.s k).kn nc,.string (p.s k).data] 127));have z5:=(t3.cell (zD kA.c0) (nA _ (by omega))).trans kA.c0;have z6:=(t3.cell (zD kA.c1) (nA _ (by omega))).trans kA.c1;have z7:=(t3.cell (zD kA.c2) (nA _ (by omega))).trans kA.c2;have fC:=zi pB;have kB:=zi oB;obtain⟨⟨z8,z9⟩,⟨bD,cD⟩⟩:=pB;obtain⟨⟨dD,eD⟩,⟨fD,gD⟩⟩:=oB;have dC:=zi (vA.next (eB.zO9 (zC w2 _)) (zK6 Hl.out oC (fun h0=>by have:=rA h0;rw[World.size_alloc];exact⟨this.1,by omega⟩)) Hs.out.slot.2.2.2 iA bA pA);have iC:Below w1.heap.size w1 w3:=(zA (zA tA aA) (zC w2 _)).grown bA (by have:=aA.size;rw[World.size_alloc];omega) (fun q hq=>by have:=vA.row.lt q hq;omega);have jC:w1.heap.size+1<=w3.heap.size:=(by have:=bA.size;have:=aA.size;rw[World.size_alloc]at *;omega);clear vA t3 nA kA iA bA pA dB eB rA)
          | (go_simp;go_at_call 146;refine(zJ0 _ _ _ lo hi (p.s k) _ ?_ (Hn.out k cB)).mono ?_;(first | exact Hs.out.slot | exact Hs.out.slot.zO9 (Below.refl _ _).drew);rintro e w2 ⟨nv,nb,rfl,eB,rA,tB⟩;obtain⟨_,na,nc,rfl,_⟩:=id eB;have aA:Below wr.heap.size wr w2:=(by first | exact tB | exact zI tB);have iD:=((Ho.out.zO9 aA).zO9 (zC w2 (.cells #[.int .i64 (p.s k).zPI,.slice na (p.s k).kn nc,.string (p.s k).data] 127))).1.1;have z0:=(Hx.out.zO9 aA).1.1;have z1:=(Ho.out.zO9 aA).1.1;have z2:=(Hs.out.zO9 aA).c0;have z3:=(Hs.out.zO9 aA).c1;have z4:=(Hs.out.zO9 aA).c2))
      all_goals
        go_wp2;go_roundw
        case rel=>exact⟨k+1,some ⟨g,0,none⟩,cap,_,_,by omega,by go_num,fC.out.zPA _ (by omega),⟨kB.out.1.set _,kB.out.2.zPA _ (Or.inr (by omega))⟩,dC.out.put (by omega) _,iC.setCell (Nat.le_refl _) _,by rw[World.size_setCell];exact jC⟩
        case measure=>simp[intOf];omega
    · obtain rfl:k=p.n:=by omega
      obtain⟨⟨x0,x1⟩,⟨x2,x3⟩⟩:=Hx.out;obtain⟨⟨y0,y1⟩,⟨y2,y3⟩⟩:=Ho.out;have mB:=zi (eC.out.zO9 tA);obtain⟨⟨u0,u1⟩,⟨u2,u3⟩⟩:=mB.out;go_wp2;have nB:=mB.out.put (.slice va p.n vc) (.slice ha p.hn hc);have t:=(zF.put wr (w.heap.size+1) 0 (.slice va p.n vc)).trans (zF.put _ (w.heap.size+1) 1 (.slice ha p.hn hc));have hz:=t.size;obtain⟨bs,nC,lA⟩:=Hl.out.own Hm.out.1;have gB:=oA.out.kept (zAz tA none) (by cases hv:(Value.slice ha p.hn hc).ownBlock<;>simp);refine bodyPost_ret (v:=.agg #[.slice va p.n vc,.slice ha p.hn hc]) (by simp[results,Tryz.results82,go_sem,nB.1.1,nB.2.1]) rfl ⟨_,_,w1.heap.size+1,bs,kb,kv,rfl,?_,Hl.out.zPJ,?_,?_,?_,by omega,by omega,?_,gC.out⟩
      · exact nC.zPF t (fun h0 e=>by have:=lA bs (Or.inl ⟨h0,rfl⟩);omega) (fun i hi h0 e=>by have:=lA _ (Or.inr ⟨i,hi,h0,rfl⟩);omega)
      · intro k hk
        have:=lA k hk;omega
      · exact zE8 (ownsRow_setCell_below (ownsRow_setCell_below gB (by show w.heap.size+1<_;omega) _) (by show w.heap.size+1<_;omega) _) (by omega)
      · intro k hk
        have:=oA.out.lt k hk;omega
      · exact(vB.setCell (by show _<=w.heap.size+1;omega) _).setCell (by show _<=w.heap.size+1;omega) _
theorem zJz(v0 v1:Value)(lo hi:Nat)(p:zN)(w:World)(h1:qS w lo hi v0 v1 p)(hn:yL p<=1048576):Calls Tryz.prog 82 #[.agg #[v0,v1]] w (zIc p w):=by
  refine(zHe v0 v1 lo hi p w h1 hn).mono ?_;rintro e w' ⟨u0,u1,M,bs,kb,kv,rfl,g1,g2,g3,g4,g5,g6,g7,g8,g9⟩;exact⟨u0,u1,rfl,zIF g1 g2 g3 h1.2.1 g4 (fun k hk=>⟨(g5 k hk).1,Or.inl (g5 k hk).2⟩) g6 g9,g8⟩
def zHO(w:World)(b:Nat)(v0 v1 v2 v3 v4:Value):Prop:=zQ w b 0 v0/\zQ w b 1 v1/\zQ w b 2 v2/\zQ w b 3 v3/\zQ w b 4 v4
theorem zHO.zO9{w w':World}{b:Nat}{v0 v1 v2 v3 v4:Value}(h:zHO w b v0 v1 v2 v3 v4)(t:Below w.heap.size w w'):zHO w' b v0 v1 v2 v3 v4:=⟨h.1.zO9 t,h.2.1.zO9 t,h.2.2.1.zO9 t,h.2.2.2.1.zO9 t,h.2.2.2.2.zO9 t⟩
theorem zHO.new(w:World)(v0 v1 v2 v3 v4:Value)(t:TypeId):zHO (w.alloc (.cells #[v0,v1,v2,v3,v4] t)) w.heap.size v0 v1 v2 v3 v4:=by
 have hb:(w.alloc (.cells #[v0,v1,v2,v3,v4] t)).heap[w.heap.size]?=some (.cells #[v0,v1,v2,v3,v4] t):=heap_alloc_new _ _;exact⟨zH hb rfl,zH hb rfl,zH hb rfl,zH hb rfl,zH hb rfl⟩
abbrev put5(w:World)(b:Nat)(u0 u1 u2 u3 u4:Value):World:=((((w.setCell ⟨b,0,none⟩ u0).setCell ⟨b,1,none⟩ u1).setCell ⟨b,2,none⟩ u2).setCell ⟨b,3,none⟩ u3).setCell ⟨b,4,none⟩ u4
theorem zHO.put{w:World}{b:Nat}{v0 v1 v2 v3 v4:Value}(h:zHO w b v0 v1 v2 v3 v4)(u0 u1 u2 u3 u4:Value):zHO (put5 w b u0 u1 u2 u3 u4) b u0 u1 u2 u3 u4:=by
 obtain⟨h0,h1,h2,h3,h4⟩:=h;refine⟨?_,?_,?_,?_,?_⟩
 ·exact((((h0.set _).zPA _ (Or.inr (by omega))).zPA _ (Or.inr (by omega))).zPA _ (Or.inr (by omega))).zPA _ (Or.inr (by omega))
 ·exact((((h1.zPA _ (Or.inr (by omega))).set _).zPA _ (Or.inr (by omega))).zPA _ (Or.inr (by omega))).zPA _ (Or.inr (by omega))
 ·exact((((h2.zPA _ (Or.inr (by omega))).zPA _ (Or.inr (by omega))).set _).zPA _ (Or.inr (by omega))).zPA _ (Or.inr (by omega))
 ·exact((((h3.zPA _ (Or.inr (by omega))).zPA _ (Or.inr (by omega))).zPA _ (Or.inr (by omega))).set _).zPA _ (Or.inr (by omega))
 ·exact((((h4.zPA _ (Or.inr (by omega))).zPA _ (Or.inr (by omega))).zPA _ (Or.inr (by omega))).zPA _ (Or.inr (by omega))).set _
theorem zF.put5(w:World)(b:Nat)(u0 u1 u2 u3 u4:Value):zF (fun k=>k=b) w (put5 w b u0 u1 u2 u3 u4):=
 ((((zF.put w b 0 u0).trans (zF.put _ b 1 u1)).trans (zF.put _ b 2 u2)).trans (zF.put _ b 3 u3)).trans (zF.put _ b 4 u4)
structure zOr where
 zPE:zN
 ps:Int
 pb:Int
 zPQ:Int
def zOU(o:zOr)(w:World)(e:Ending)(w':World):Prop:=∃v0 v1,e = .returned (.agg #[v0,v1,.int .i64 o.ps,.int .i64 o.pb,.int .i64 o.zPQ])/\qF w' w.heap.size w'.heap.size v0 v1 o.zPE/\Below w.heap.size w w'
theorem zKA{w:World}{lo hi:Nat}:qF w lo hi (.slice none 0 0) (.slice none 0 0) (zI8 0):=
 zNX (g:=0) (Nat.zero_le _) ⟨none,0,rfl,Nat.le_refl _,fun h=>absurd h (Nat.lt_irrefl _)⟩ (fun i h=>absurd h (Nat.not_lt_zero _))
def noW:zE:={zPE:=zI8 0,time:=0,next:=0,sn:=0,zPG:=fun _=>⟨⟨#[]⟩,0,0,0,0,0,fun _=>0,fun _=>0⟩,pn:=0,zPD:=fun _=>⟨0,⟨#[]⟩,⟨#[]⟩,0,0,0,0,0,fun _=>0,fun _=>0⟩}
theorem zE7{w:World}{lo hi:Nat}:qP w lo hi (.slice none 0 0) (.slice none 0 0) (.slice none 0 0) (.slice none 0 0) noW:=by
 refine⟨fun k=>lo<=k/\k<hi,fun _=>False,fun _=>False,⟨(zKA (lo:=lo) (hi:=hi)).isIn (fun k h1 h2=>⟨h1,h2⟩),?_,?_,fun _ _ h=>h,fun _ _ h=>h,fun _ h=>h.elim⟩,fun k hk=>?_⟩
 ·exact⟨0,fun _=>0,fun _=>.slice none 0 0,⟨Nat.zero_le _,none,0,rfl,Nat.le_refl _,fun h=>absurd h (Nat.lt_irrefl _)⟩,fun i j hi=>absurd hi (Nat.not_lt_zero _),fun k hk=>by
   rcases hk with⟨h,_⟩ | ⟨i,h,_⟩
   ·exact absurd h (Nat.lt_irrefl _)
   ·exact absurd h (Nat.not_lt_zero _)⟩
 ·exact⟨0,fun _=>0,fun _=>.slice none 0 0,⟨Nat.zero_le _,none,0,rfl,Nat.le_refl _,fun h=>absurd h (Nat.lt_irrefl _)⟩,fun i j hi=>absurd hi (Nat.not_lt_zero _),fun k hk=>by
   rcases hk with⟨h,_⟩ | ⟨i,h,_⟩
   ·exact absurd h (Nat.lt_irrefl _)
   ·exact absurd h (Nat.not_lt_zero _)⟩
 ·rcases hk with h | h | h
  ·exact h
  ·exact h.elim
  ·exact h.elim
def yM(w:World)(b:Nat)(v0 v1 v2 v3 v4 v5 v6 v7 v8:Value):Prop:=zQ w b 0 v0/\zQ w b 1 v1/\zQ w b 2 v2/\zQ w b 3 v3/\zQ w b 4 v4/\zQ w b 5 v5/\zQ w b 6 v6/\zQ w b 7 v7/\zQ w b 8 v8
theorem yM.zO9{w w':World}{b:Nat}{v0 v1 v2 v3 v4 v5 v6 v7 v8:Value}(h:yM w b v0 v1 v2 v3 v4 v5 v6 v7 v8)(t:Below w.heap.size w w'):yM w' b v0 v1 v2 v3 v4 v5 v6 v7 v8:=⟨h.1.zO9 t,h.2.1.zO9 t,h.2.2.1.zO9 t,h.2.2.2.1.zO9 t,h.2.2.2.2.1.zO9 t,h.2.2.2.2.2.1.zO9 t,h.2.2.2.2.2.2.1.zO9 t,h.2.2.2.2.2.2.2.1.zO9 t,h.2.2.2.2.2.2.2.2.zO9 t⟩
theorem yM.zPF{S:Nat->Prop}{w w':World}{b:Nat}{v0 v1 v2 v3 v4 v5 v6 v7 v8:Value}(h:yM w b v0 v1 v2 v3 v4 v5 v6 v7 v8)(t:zF S w w')(hs:¬S b):yM w' b v0 v1 v2 v3 v4 v5 v6 v7 v8:=⟨h.1.zPF t hs,h.2.1.zPF t hs,h.2.2.1.zPF t hs,h.2.2.2.1.zPF t hs,h.2.2.2.2.1.zPF t hs,h.2.2.2.2.2.1.zPF t hs,h.2.2.2.2.2.2.1.zPF t hs,h.2.2.2.2.2.2.2.1.zPF t hs,h.2.2.2.2.2.2.2.2.zPF t hs⟩
theorem yM.new(w:World)(v0 v1 v2 v3 v4 v5 v6 v7 v8:Value)(t:TypeId):yM (w.alloc (.cells #[v0,v1,v2,v3,v4,v5,v6,v7,v8] t)) w.heap.size v0 v1 v2 v3 v4 v5 v6 v7 v8:=by
 have hb:(w.alloc (.cells #[v0,v1,v2,v3,v4,v5,v6,v7,v8] t)).heap[w.heap.size]?=some (.cells #[v0,v1,v2,v3,v4,v5,v6,v7,v8] t):=heap_alloc_new _ _;exact⟨zH hb rfl,zH hb rfl,zH hb rfl,zH hb rfl,zH hb rfl,zH hb rfl,zH hb rfl,zH hb rfl,zH hb rfl⟩
abbrev put9(w:World)(b:Nat)(u0 u1 u2 u3 u4 u5 u6 u7 u8:Value):World:=((((((((w.setCell ⟨b,0,none⟩ u0).setCell ⟨b,1,none⟩ u1).setCell ⟨b,2,none⟩ u2).setCell ⟨b,3,none⟩ u3).setCell ⟨b,4,none⟩ u4).setCell ⟨b,5,none⟩ u5).setCell ⟨b,6,none⟩ u6).setCell ⟨b,7,none⟩ u7).setCell ⟨b,8,none⟩ u8
theorem yM.put{w:World}{b:Nat}{v0 v1 v2 v3 v4 v5 v6 v7 v8:Value}(h:yM w b v0 v1 v2 v3 v4 v5 v6 v7 v8)(u0 u1 u2 u3 u4 u5 u6 u7 u8:Value):yM (put9 w b u0 u1 u2 u3 u4 u5 u6 u7 u8) b u0 u1 u2 u3 u4 u5 u6 u7 u8:=by
 obtain⟨h0,h1,h2,h3,h4,h5,h6,h7,h8⟩:=h;exact⟨(((((((((h0.set _).zPA _ (Or.inr (by omega))).zPA _ (Or.inr (by omega))).zPA _ (Or.inr (by omega))).zPA _ (Or.inr (by omega))).zPA _ (Or.inr (by omega))).zPA _ (Or.inr (by omega))).zPA _ (Or.inr (by omega))).zPA _ (Or.inr (by omega))),
  (((((((((h1.zPA _ (Or.inr (by omega))).set _).zPA _ (Or.inr (by omega))).zPA _ (Or.inr (by omega))).zPA _ (Or.inr (by omega))).zPA _ (Or.inr (by omega))).zPA _ (Or.inr (by omega))).zPA _ (Or.inr (by omega))).zPA _ (Or.inr (by omega))),
  (((((((((h2.zPA _ (Or.inr (by omega))).zPA _ (Or.inr (by omega))).set _).zPA _ (Or.inr (by omega))).zPA _ (Or.inr (by omega))).zPA _ (Or.inr (by omega))).zPA _ (Or.inr (by omega))).zPA _ (Or.inr (by omega))).zPA _ (Or.inr (by omega))),
  (((((((((h3.zPA _ (Or.inr (by omega))).zPA _ (Or.inr (by omega))).zPA _ (Or.inr (by omega))).set _).zPA _ (Or.inr (by omega))).zPA _ (Or.inr (by omega))).zPA _ (Or.inr (by omega))).zPA _ (Or.inr (by omega))).zPA _ (Or.inr (by omega))),
  (((((((((h4.zPA _ (Or.inr (by omega))).zPA _ (Or.inr (by omega))).zPA _ (Or.inr (by omega))).zPA _ (Or.inr (by omega))).set _).zPA _ (Or.inr (by omega))).zPA _ (Or.inr (by omega))).zPA _ (Or.inr (by omega))).zPA _ (Or.inr (by omega))),
  (((((((((h5.zPA _ (Or.inr (by omega))).zPA _ (Or.inr (by omega))).zPA _ (Or.inr (by omega))).zPA _ (Or.inr (by omega))).zPA _ (Or.inr (by omega))).set _).zPA _ (Or.inr (by omega))).zPA _ (Or.inr (by omega))).zPA _ (Or.inr (by omega))),
  (((((((((h6.zPA _ (Or.inr (by omega))).zPA _ (Or.inr (by omega))).zPA _ (Or.inr (by omega))).zPA _ (Or.inr (by omega))).zPA _ (Or.inr (by omega))).zPA _ (Or.inr (by omega))).set _).zPA _ (Or.inr (by omega))).zPA _ (Or.inr (by omega))),
  (((((((((h7.zPA _ (Or.inr (by omega))).zPA _ (Or.inr (by omega))).zPA _ (Or.inr (by omega))).zPA _ (Or.inr (by omega))).zPA _ (Or.inr (by omega))).zPA _ (Or.inr (by omega))).zPA _ (Or.inr (by omega))).set _).zPA _ (Or.inr (by omega))),
  (((((((((h8.zPA _ (Or.inr (by omega))).zPA _ (Or.inr (by omega))).zPA _ (Or.inr (by omega))).zPA _ (Or.inr (by omega))).zPA _ (Or.inr (by omega))).zPA _ (Or.inr (by omega))).zPA _ (Or.inr (by omega))).zPA _ (Or.inr (by omega))).set _)⟩
theorem zF.put9(w:World)(b:Nat)(u0 u1 u2 u3 u4 u5 u6 u7 u8:Value):zF (fun k=>k=b) w (put9 w b u0 u1 u2 u3 u4 u5 u6 u7 u8):=((((((((zF.put w b 0 u0).trans (zF.put _ b 1 u1)).trans (zF.put _ b 2 u2)).trans (zF.put _ b 3 u3)).trans (zF.put _ b 4 u4)).trans (zF.put _ b 5 u5)).trans (zF.put _ b 6 u6)).trans (zF.put _ b 7 u7)).trans (zF.put _ b 8 u8)
structure zAk where
 world:zE
 id:Int
 zPP:Int
 zPQ:Int
abbrev zIV(v0 v1 v2 v3:Value)(o:zAk):Value:=.agg #[v0,v1,.int .i64 o.world.time,.int .i64 o.world.next,v2,v3,.int .i64 o.id,.int .i64 o.zPP,.int .i64 o.zPQ]
def zBN(o:zAk)(w:World)(e:Ending)(w':World):Prop:=∃v0 v1 v2 v3,e = .returned (zIV v0 v1 v2 v3 o)/\qP w' w.heap.size w'.heap.size v0 v1 v2 v3 o.world/\Below w.heap.size w w'
theorem yM.six{w:World}{b:Nat}{v0 v1 v2 v3 v4 v5 v6 v7 v8:Value}(h:yM w b v0 v1 v2 v3 v4 v5 v6 v7 v8)(u0 u1 u2 u3 u4 u5:Value):yM (put6 w b u0 u1 u2 u3 u4 u5) b u0 u1 u2 u3 u4 u5 v6 v7 v8:=by
 obtain⟨h0,h1,h2,h3,h4,h5,h6,h7,h8⟩:=h;exact⟨((((((h0.set _).zPA _ (Or.inr (by omega))).zPA _ (Or.inr (by omega))).zPA _ (Or.inr (by omega))).zPA _ (Or.inr (by omega))).zPA _ (Or.inr (by omega))),((((((h1.zPA _ (Or.inr (by omega))).set _).zPA _ (Or.inr (by omega))).zPA _ (Or.inr (by omega))).zPA _ (Or.inr (by omega))).zPA _ (Or.inr (by omega))),((((((h2.zPA _ (Or.inr (by omega))).zPA _ (Or.inr (by omega))).set _).zPA _ (Or.inr (by omega))).zPA _ (Or.inr (by omega))).zPA _ (Or.inr (by omega))),((((((h3.zPA _ (Or.inr (by omega))).zPA _ (Or.inr (by omega))).zPA _ (Or.inr (by omega))).set _).zPA _ (Or.inr (by omega))).zPA _ (Or.inr (by omega))),((((((h4.zPA _ (Or.inr (by omega))).zPA _ (Or.inr (by omega))).zPA _ (Or.inr (by omega))).zPA _ (Or.inr (by omega))).set _).zPA _ (Or.inr (by omega))),((((((h5.zPA _ (Or.inr (by omega))).zPA _ (Or.inr (by omega))).zPA _ (Or.inr (by omega))).zPA _ (Or.inr (by omega))).zPA _ (Or.inr (by omega))).set _),((((((h6.zPA _ (Or.inr (by omega))).zPA _ (Or.inr (by omega))).zPA _ (Or.inr (by omega))).zPA _ (Or.inr (by omega))).zPA _ (Or.inr (by omega))).zPA _ (Or.inr (by omega))),((((((h7.zPA _ (Or.inr (by omega))).zPA _ (Or.inr (by omega))).zPA _ (Or.inr (by omega))).zPA _ (Or.inr (by omega))).zPA _ (Or.inr (by omega))).zPA _ (Or.inr (by omega))),((((((h8.zPA _ (Or.inr (by omega))).zPA _ (Or.inr (by omega))).zPA _ (Or.inr (by omega))).zPA _ (Or.inr (by omega))).zPA _ (Or.inr (by omega))).zPA _ (Or.inr (by omega)))⟩
theorem zQ.under{w w':World}{B b o:Nat}{v:Value}(h:zQ w b o v)(t:Below B w w')(hb:b<B):zQ w' b o v:=⟨(t.cell (p:=⟨b,o,none⟩) hb).trans h.1,(t.frozen (p:=⟨b,o,none⟩) hb).trans h.2⟩
def zCD(c:Int):zAk:=⟨noW,0,0,c⟩
def zLI(r:Option Nat)(o:zAk):zAk:=match r with
 | some i=>zCD (zDT i)
 | none=>o
def zLh(f:Nat->zv)(cv:Nat->Value)(i r:Nat):Value:=
 match r with
 | 0=>.string (f i).name
 | 1=>.int .i64 (f i).origin
 | 2=>.int .i64 (f i).zPH
 | 3=>.int .i64 (f i).rs
 | 4=>.int .i64 (f i).rb
 | _=>cv i
def zCB(f:Nat->zv)(cv:Nat->Value)(n:Nat):List Value:=(List.range (n*6)).map fun j=>zLh f cv (j / 6) (j % 6)
theorem zCY(f:Nat->zv)(cv:Nat->Value)(n:Nat):(zCB f cv n).length=n*6:=by simp[zCB]
theorem zBr(f:Nat->zv)(cv:Nat->Value)(n:Nat){i r:Nat}(hi:i<n)(hr:r<6):(zCB f cv n)[i*6+r]?=some (zLh f cv i r):=by
 have h:i*6+r<n*6:=by omega
 have h1:(i*6+r) / 6=i:=by omega
 have h2:(i*6+r) % 6=r:=by omega
 simp[zCB,h,h1,h2]
theorem zDn(f:Nat->zv)(cv:Nat->Value)(n:Nat)(h:∀i,i<n->(cv i).oneCell'=true):∀u∈zCB f cv n,u.oneCell'=true:=by
 intro u hu;unfold zCB at hu;obtain⟨j,hj,rfl⟩:=List.mem_map.1 hu;have aA:=List.mem_range.1 hj;have hi:j / 6<n:=by omega
 have hr:j % 6<6:=by omega
 generalize j % 6=r at hr ⊢;rcases r with _ | _ | _ | _ | _ | _<;>first | rfl | exact h _ hi
def zAT(w:World)(b o:Nat)(s:zv)(vd:Value):Prop:=zQ w b o (.string s.name)/\zQ w b (o+1) (.int .i64 s.origin)/\zQ w b (o+2) (.int .i64 s.zPH)/\zQ w b (o+3) (.int .i64 s.rs)/\zQ w b (o+4) (.int .i64 s.rb)/\zQ w b (o+5) vd
theorem zAT.zPF{S:Nat->Prop}{w w':World}{b o:Nat}{s:zv}{vd:Value}(h:zAT w b o s vd)(t:zF S w w')(hs:¬S b):zAT w' b o s vd:=by
 obtain⟨h0,h1,h2,h3,h4,h5⟩:=h;exact⟨h0.zPF t hs,h1.zPF t hs,h2.zPF t hs,h3.zPF t hs,h4.zPF t hs,h5.zPF t hs⟩
theorem zAT.zO9{w w':World}{b o:Nat}{s:zv}{vd:Value}(h:zAT w b o s vd)(t:Below w.heap.size w w'):zAT w' b o s vd:=
 h.zPF (zF.zPB (S:=fun _=>False) t) (fun h=>h)
theorem zAT.set{w:World}{b o:Nat}{s:zv}{vd:Value}(h:zAT w b o s vd)(u:Value):zAT (w.setCell ⟨b,o+5,none⟩ u) b o s u:=by
 obtain⟨h0,h1,h2,h3,h4,h5⟩:=h;exact⟨h0.zPA _ (Or.inr (by omega)),h1.zPA _ (Or.inr (by omega)),h2.zPA _ (Or.inr (by omega)),h3.zPA _ (Or.inr (by omega)),h4.zPA _ (Or.inr (by omega)),h5.set _⟩
theorem zAT.zPA{w:World}{b o o':Nat}{s:zv}{vd:Value}(h:zAT w b o s vd)(u:Value)(aA:∀r,r<6->o'≠o+r):zAT (w.setCell ⟨b,o',none⟩ u) b o s vd:=by
 obtain⟨h0,h1,h2,h3,h4,h5⟩:=h;exact⟨h0.zPA _ (Or.inr (aA 0 (by omega))),h1.zPA _ (Or.inr (aA 1 (by omega))),h2.zPA _ (Or.inr (aA 2 (by omega))),h3.zPA _ (Or.inr (aA 3 (by omega))),h4.zPA _ (Or.inr (aA 4 (by omega))),h5.zPA _ (Or.inr (aA 5 (by omega)))⟩
structure yB (wr:World) (bs L n k:Nat) (f:Nat->zv) (kb:Nat->Nat) (kv cv:Nat->Value):Prop where
 zPR:∀j,j<n->zAT wr bs (j*6) (f j) (if j<k then kv j else cv j)
 zPK:∀j,j<k->zj wr (kb j) (kv j) (f j).dn (f j).ds (f j).db
 zPM:∀j,j<k->0<(f j).dn->L<=kb j/\kb j<wr.heap.size
 zPJ:zAG kb k f
 lt:0<n->bs<L
theorem yB.zO9{wr w':World}{bs L n k:Nat}{f:Nat->zv}{kb:Nat->Nat}{kv cv:Nat->Value}(h:yB wr bs L n k f kb kv cv)(t:Below wr.heap.size wr w'):yB w' bs L n k f kb kv cv:=
 ⟨fun j hj=>(h.zPR j hj).zO9 t,fun j hj=>(h.zPK j hj).zO9 t,fun j hj h0=>by have:=h.zPM j hj h0;have:=t.size;omega,h.zPJ,h.lt⟩
theorem yB.zPF{S:Nat->Prop}{wr w':World}{bs L n k:Nat}{f:Nat->zv}{kb:Nat->Nat}{kv cv:Nat->Value}(h:yB wr bs L n k f kb kv cv)(t:zF S wr w')(hs:∀q,S q->(0<n->q≠bs)/\q<L)(hk:k<=n):yB w' bs L n k f kb kv cv:=
 ⟨fun j hj=>(h.zPR j hj).zPF t (fun e=>(hs _ e).1 (by omega) rfl),fun j hj=>(h.zPK j hj).zPF t (fun h0 e=>by have:=h.zPM j hj h0;have:=(hs _ e).2;omega),fun j hj h0=>by have:=h.zPM j hj h0;have:=t.size;omega,h.zPJ,h.lt⟩
theorem yB.next{wr w1:World}{bs L n k b:Nat}{f:Nat->zv}{kb:Nat->Nat}{kv cv:Nat->Value}{v:Value}(h:yB wr bs L n k f kb kv cv)(hk:k<n)(hL:L<=wr.heap.size)(t:Below wr.heap.size wr w1)
  (hp:zj w1 b v (f k).dn (f k).ds (f k).db) (hb:0<(f k).dn->wr.heap.size<=b/\b<w1.heap.size) :
  yB (w1.setCell ⟨bs,k*6+5,none⟩ v) bs L n (k+1) f (fun j=>if j=k then b else kb j) (fun j=>if j=k then v else kv j) cv:=by
 have h':=h.zO9 t;have bA:=h.lt (by omega);refine⟨fun j hj=>?_,fun j hj=>?_,fun j hj h0=>?_,fun i j hi hj aA h1 h2=>?_,h.lt⟩
 ·have hh:=h'.zPR j hj;by_cases e:j=k
  ·subst e;rw[if_pos (by omega),if_pos rfl];exact hh.set v
  ·rw[if_neg e];have es:(if j<k+1 then kv j else cv j)=if j<k then kv j else cv j:=by
    by_cases e2:j<k
    ·rw[if_pos e2,if_pos (by omega)]
    ·rw[if_neg e2,if_neg (by omega)]
   rw[es];exact hh.zPA v (fun r hr=>by omega)
 ·by_cases e:j=k
  ·subst e;simp only[if_true];exact hp.zPF (zF.put _ _ _ _) (fun h0 hx=>by have:=hb h0;omega)
  ·simp only[if_neg e];exact(h'.zPK j (by omega)).zPF (zF.put _ _ _ _) (fun h0 hx=>by have:=h'.zPM j (by omega) h0;omega)
 ·simp only[World.size_setCell];by_cases e:j=k
  ·subst e;rw[if_pos rfl];have:=hb h0;omega
  ·rw[if_neg e];have:=h'.zPM j (by omega) h0;omega
 ·show(if i=k then b else kb i)≠(if j=k then b else kb j);by_cases e1:i=k
  ·by_cases e2:j=k
   ·omega
   ·rw[if_pos e1,if_neg e2];subst e1;have:=hb h1;have:=h.zPM j (by omega) h2;omega
  ·by_cases e2:j=k
   ·rw[if_neg e1,if_pos e2];subst e2;have:=hb h2;have:=h.zPM i (by omega) h1;omega
   ·rw[if_neg e1,if_neg e2];exact h.zPJ i j (by omega) (by omega) aA h1 h2
theorem yB.own{wr:World}{bs L n c:Nat}{f:Nat->zv}{kb:Nat->Nat}{kv cv:Nat->Value}{a:Option Addr}(h:yB wr bs L n n f kb kv cv)(hm:n<=maxLen)(ha:0<n->a=some ⟨bs,0,none⟩)(hc:n<=c)(hs:∀i,i<n->(f i).name.size<=maxLen):qm wr bs kb kv (.slice a n c) n f:=
 ⟨hm,a,c,rfl,hc,fun h0=>⟨0,ha h0,fun i hi=>by
  obtain⟨h0,h1,h2,h3,h4,h5⟩:=h.zPR i hi;rw[if_pos hi]at h5;rw[Nat.zero_add];exact⟨h0,h1,h2,h3,h4,h5,h.zPK i hi,hs i hi,fun hk e=>by have:=h.zPM i hi hk;have:=h.lt (by omega);omega⟩⟩⟩
theorem yB.turned0{S:Nat->Prop}{wr w':World}{bs L n:Nat}{f:Nat->zv}{kb:Nat->Nat}{kv cv:Nat->Value}(h:yB wr bs L n 0 f kb kv cv)(t:zF S wr w')(hs:∀q,S q->0<n->q≠bs):yB w' bs L n 0 f kb kv cv:=
 ⟨fun j hj=>(h.zPR j hj).zPF t (fun e=>hs _ e (by omega) rfl),fun j hj=>absurd hj (Nat.not_lt_zero _),fun j hj=>absurd hj (Nat.not_lt_zero _),h.zPJ,h.lt⟩
theorem yB.weak{wr:World}{bs L L' n:Nat}{f:Nat->zv}{kb:Nat->Nat}{kv cv:Nat->Value}(h:yB wr bs L n 0 f kb kv cv)(hL:L<=L'):yB wr bs L' n 0 f kb kv cv:=
 ⟨h.zPR,h.zPK,fun j hj=>absurd hj (Nat.not_lt_zero _),h.zPJ,fun h0=>Nat.lt_of_lt_of_le (h.lt h0) hL⟩
theorem yY.values{w:World}{lo hi:Nat}{a:Option Addr}{n c:Nat}{f:Nat->zv}(h:yY w lo hi (.slice a n c) n f) :
  ∃cv:Nat->Value,(∀i,i<n->zR w lo hi (cv i) (f i).dn (f i).ds (f i).db/\(f i).name.size<=maxLen)/\
   (0<n->∃b off,a=some ⟨b,off,none⟩/\∀j u,(zCB f cv n)[j]?=some u->w.cell? ⟨b,off+j,none⟩=some u):=by
 obtain⟨_,a0,c0,h0,_,g⟩:=h;simp only[Value.slice.injEq,true_and]at h0;obtain⟨rfl,rfl⟩:=h0;by_cases hn:0<n
 ·obtain⟨b,off,ha,cA,dA,hc⟩:=g hn;have bA:∀i,∃x,i<n->zAt w b (off+i*6) lo hi x (f i):=fun i=>by
   by_cases hi:i<n
   ·obtain⟨vd,hs⟩:=hc i hi;exact⟨vd,fun _=>hs⟩
   ·exact⟨.slice none 0 0,fun h=>absurd h hi⟩
  obtain⟨cv,aA⟩:=Classical.axiomOfChoice bA;refine⟨cv,fun i hi=>⟨(aA i hi).zPK,(aA i hi).zPN⟩,fun _=>⟨b,off,ha,fun j u hj=>?_⟩⟩;have eA:j<n*6:=by
   have:=(List.getElem?_eq_some_iff.1 hj).1
   rwa [zCY]at this
  have hs:=aA (j / 6) (by omega);have e:=zBr f cv n (i:=j / 6) (r:=j % 6) (by omega) (by omega);rw[show j / 6*6+j % 6=j by omega,hj]at e;have hr:j % 6<6:=(by omega);have ho:off+j=off+j / 6*6+j % 6:=(by omega);rw[ho];generalize j % 6=r at hr e ⊢;generalize j / 6=q at hs e ⊢;rcases r with _ | _ | _ | _ | _ | _ | r
  ·cases e;exact hs.c0
  ·cases e;exact hs.c1
  ·cases e;exact hs.c2
  ·cases e;exact hs.c3
  ·cases e;exact hs.c4
  ·cases e;exact hs.c5
  ·omega
 ·exact⟨fun _=>.slice none 0 0,fun i hi=>absurd hi (by omega),fun h=>absurd h hn⟩
theorem zBP{w1:World}{base n:Nat}{v:Value}{f:Nat->zv}{cv:Nat->Value}(bA:w1.ownsRow base 67 6 v n (zCB f cv n))(L:Nat)(hL:w1.heap.size<=L):∃bs a c,v = .slice a n c/\n<=c/\(0<n->a=some ⟨bs,0,none⟩/\base<=bs/\bs<w1.heap.size)/\yB w1 bs L n 0 f (fun _=>0) cv cv:=by
 obtain⟨a1,c1,rfl,cA⟩:=za bA;by_cases h0:0<n
 ·obtain⟨g,cap,hv,_,dA,eA,aA⟩:=yK bA h0;simp only[Value.slice.injEq,true_and]at hv;obtain⟨rfl,rfl⟩:=hv;refine⟨g,_,_,rfl,cA,fun _=>⟨rfl,dA,eA⟩,fun j hj=>?_,fun j hj=>absurd hj (Nat.not_lt_zero _),fun j hj=>absurd hj (Nat.not_lt_zero _),fun i j hi=>absurd hi (Nat.not_lt_zero _),fun _=>by omega⟩;rw[if_neg (Nat.not_lt_zero _)];exact⟨aA _ _ (zBr f cv n hj (r:=0) (by omega)),aA _ _ (zBr f cv n hj (r:=1) (by omega)),aA _ _ (zBr f cv n hj (r:=2) (by omega)),aA _ _ (zBr f cv n hj (r:=3) (by omega)),aA _ _ (zBr f cv n hj (r:=4) (by omega)),aA _ _ (zBr f cv n hj (r:=5) (by omega))⟩
 ·exact⟨0,_,_,rfl,cA,fun h=>absurd h h0,fun j hj=>absurd hj (by omega),fun j hj=>absurd hj (Nat.not_lt_zero _),fun j hj=>absurd hj (Nat.not_lt_zero _),fun i j hi=>absurd hi (Nat.not_lt_zero _),fun h=>absurd h h0⟩
def cellSnap(f:Nat->zY)(cv:Nat->Value)(i r:Nat):Value:=
 match r with
 | 0=>.int .i64 (f i).id
 | 1=>.string (f i).name
 | 2=>.string (f i).set
 | 3=>.int .i64 (f i).zPH
 | 4=>.int .i64 (f i).time
 | 5=>.int .i64 (f i).rs
 | 6=>.int .i64 (f i).rb
 | _=>cv i
def zAf(f:Nat->zY)(cv:Nat->Value)(n:Nat):List Value:=(List.range (n*8)).map fun j=>cellSnap f cv (j / 8) (j % 8)
theorem zBB(f:Nat->zY)(cv:Nat->Value)(n:Nat):(zAf f cv n).length=n*8:=by simp[zAf]
theorem zAV(f:Nat->zY)(cv:Nat->Value)(n:Nat){i r:Nat}(hi:i<n)(hr:r<8):(zAf f cv n)[i*8+r]?=some (cellSnap f cv i r):=by
 have h:i*8+r<n*8:=by omega
 have h1:(i*8+r) / 8=i:=by omega
 have h2:(i*8+r) % 8=r:=by omega
 simp[zAf,h,h1,h2]
theorem zBs(f:Nat->zY)(cv:Nat->Value)(n:Nat)(h:∀i,i<n->(cv i).oneCell'=true):∀u∈zAf f cv n,u.oneCell'=true:=by
 intro u hu;unfold zAf at hu;obtain⟨j,hj,rfl⟩:=List.mem_map.1 hu;have aA:=List.mem_range.1 hj;have hi:j / 8<n:=by omega
 have hr:j % 8<8:=by omega
 generalize j % 8=r at hr ⊢;rcases r with _ | _ | _ | _ | _ | _ | _ | _<;>first | rfl | exact h _ hi
def yp(w:World)(b o:Nat)(s:zY)(vd:Value):Prop:=zQ w b o (.int .i64 s.id)/\zQ w b (o+1) (.string s.name)/\zQ w b (o+2) (.string s.set)/\zQ w b (o+3) (.int .i64 s.zPH)/\zQ w b (o+4) (.int .i64 s.time)/\zQ w b (o+5) (.int .i64 s.rs)/\zQ w b (o+6) (.int .i64 s.rb)/\zQ w b (o+7) vd
theorem yp.zPF{S:Nat->Prop}{w w':World}{b o:Nat}{s:zY}{vd:Value}(h:yp w b o s vd)(t:zF S w w')(hs:¬S b):yp w' b o s vd:=by
 obtain⟨h0,h1,h2,h3,h4,h5,h6,h7⟩:=h;exact⟨h0.zPF t hs,h1.zPF t hs,h2.zPF t hs,h3.zPF t hs,h4.zPF t hs,h5.zPF t hs,h6.zPF t hs,h7.zPF t hs⟩
theorem yp.zO9{w w':World}{b o:Nat}{s:zY}{vd:Value}(h:yp w b o s vd)(t:Below w.heap.size w w'):yp w' b o s vd:=
 h.zPF (zF.zPB (S:=fun _=>False) t) (fun h=>h)
theorem yp.set{w:World}{b o:Nat}{s:zY}{vd:Value}(h:yp w b o s vd)(u:Value):yp (w.setCell ⟨b,o+7,none⟩ u) b o s u:=by
 obtain⟨h0,h1,h2,h3,h4,h5,h6,h7⟩:=h;exact⟨h0.zPA _ (Or.inr (by omega)),h1.zPA _ (Or.inr (by omega)),h2.zPA _ (Or.inr (by omega)),h3.zPA _ (Or.inr (by omega)),h4.zPA _ (Or.inr (by omega)),h5.zPA _ (Or.inr (by omega)),h6.zPA _ (Or.inr (by omega)),h7.set _⟩
theorem yp.zPA{w:World}{b o o':Nat}{s:zY}{vd:Value}(h:yp w b o s vd)(u:Value)(aA:∀r,r<8->o'≠o+r):yp (w.setCell ⟨b,o',none⟩ u) b o s vd:=by
 obtain⟨h0,h1,h2,h3,h4,h5,h6,h7⟩:=h;exact⟨h0.zPA _ (Or.inr (aA 0 (by omega))),h1.zPA _ (Or.inr (aA 1 (by omega))),h2.zPA _ (Or.inr (aA 2 (by omega))),h3.zPA _ (Or.inr (aA 3 (by omega))),h4.zPA _ (Or.inr (aA 4 (by omega))),h5.zPA _ (Or.inr (aA 5 (by omega))),h6.zPA _ (Or.inr (aA 6 (by omega))),h7.zPA _ (Or.inr (aA 7 (by omega)))⟩
structure qW (wr:World) (bs L n k:Nat) (f:Nat->zY) (kb:Nat->Nat) (kv cv:Nat->Value):Prop where
 zPR:∀j,j<n->yp wr bs (j*8) (f j) (if j<k then kv j else cv j)
 zPK:∀j,j<k->zj wr (kb j) (kv j) (f j).dn (f j).ds (f j).db
 zPM:∀j,j<k->0<(f j).dn->L<=kb j/\kb j<wr.heap.size
 zPJ:qw kb k f
 lt:0<n->bs<L
theorem qW.zO9{wr w':World}{bs L n k:Nat}{f:Nat->zY}{kb:Nat->Nat}{kv cv:Nat->Value}(h:qW wr bs L n k f kb kv cv)(t:Below wr.heap.size wr w'):qW w' bs L n k f kb kv cv:=
 ⟨fun j hj=>(h.zPR j hj).zO9 t,fun j hj=>(h.zPK j hj).zO9 t,fun j hj h0=>by have:=h.zPM j hj h0;have:=t.size;omega,h.zPJ,h.lt⟩
theorem qW.zPF{S:Nat->Prop}{wr w':World}{bs L n k:Nat}{f:Nat->zY}{kb:Nat->Nat}{kv cv:Nat->Value}(h:qW wr bs L n k f kb kv cv)(t:zF S wr w')(hs:∀q,S q->(0<n->q≠bs)/\q<L)(hk:k<=n):qW w' bs L n k f kb kv cv:=
 ⟨fun j hj=>(h.zPR j hj).zPF t (fun e=>(hs _ e).1 (by omega) rfl),fun j hj=>(h.zPK j hj).zPF t (fun h0 e=>by have:=h.zPM j hj h0;have:=(hs _ e).2;omega),fun j hj h0=>by have:=h.zPM j hj h0;have:=t.size;omega,h.zPJ,h.lt⟩
theorem qW.next{wr w1:World}{bs L n k b:Nat}{f:Nat->zY}{kb:Nat->Nat}{kv cv:Nat->Value}{v:Value}(h:qW wr bs L n k f kb kv cv)(hk:k<n)(hL:L<=wr.heap.size)(t:Below wr.heap.size wr w1)
  (hp:zj w1 b v (f k).dn (f k).ds (f k).db) (hb:0<(f k).dn->wr.heap.size<=b/\b<w1.heap.size) :
  qW (w1.setCell ⟨bs,k*8+7,none⟩ v) bs L n (k+1) f (fun j=>if j=k then b else kb j) (fun j=>if j=k then v else kv j) cv:=by
 have h':=h.zO9 t;have bA:=h.lt (by omega);refine⟨fun j hj=>?_,fun j hj=>?_,fun j hj h0=>?_,fun i j hi hj aA h1 h2=>?_,h.lt⟩
 ·have hh:=h'.zPR j hj;by_cases e:j=k
  ·subst e;rw[if_pos (by omega),if_pos rfl];exact hh.set v
  ·rw[if_neg e];have es:(if j<k+1 then kv j else cv j)=if j<k then kv j else cv j:=by
    by_cases e2:j<k
    ·rw[if_pos e2,if_pos (by omega)]
    ·rw[if_neg e2,if_neg (by omega)]
   rw[es];exact hh.zPA v (fun r hr=>by omega)
 ·by_cases e:j=k
  ·subst e;simp only[if_true];exact hp.zPF (zF.put _ _ _ _) (fun h0 hx=>by have:=hb h0;omega)
  ·simp only[if_neg e];exact(h'.zPK j (by omega)).zPF (zF.put _ _ _ _) (fun h0 hx=>by have:=h'.zPM j (by omega) h0;omega)
 ·simp only[World.size_setCell];by_cases e:j=k
  ·subst e;rw[if_pos rfl];have:=hb h0;omega
  ·rw[if_neg e];have:=h'.zPM j (by omega) h0;omega
 ·show(if i=k then b else kb i)≠(if j=k then b else kb j);by_cases e1:i=k
  ·by_cases e2:j=k
   ·omega
   ·rw[if_pos e1,if_neg e2];subst e1;have:=hb h1;have:=h.zPM j (by omega) h2;omega
  ·by_cases e2:j=k
   ·rw[if_neg e1,if_pos e2];subst e2;have:=hb h2;have:=h.zPM i (by omega) h1;omega
   ·rw[if_neg e1,if_neg e2];exact h.zPJ i j (by omega) (by omega) aA h1 h2
theorem qW.own{wr:World}{bs L n c:Nat}{f:Nat->zY}{kb:Nat->Nat}{kv cv:Nat->Value}{a:Option Addr}(h:qW wr bs L n n f kb kv cv)(hm:n<=maxLen)(ha:0<n->a=some ⟨bs,0,none⟩)(hc:n<=c)(hs:∀i,i<n->((f i).name.size<=maxLen/\(f i).set.size<=maxLen)):qI wr bs kb kv (.slice a n c) n f:=
 ⟨hm,a,c,rfl,hc,fun h0=>⟨0,ha h0,fun i hi=>by
  obtain⟨h0,h1,h2,h3,h4,h5,h6,h7⟩:=h.zPR i hi;rw[if_pos hi]at h7;rw[Nat.zero_add];exact⟨h0,h1,h2,h3,h4,h5,h6,h7,h.zPK i hi,hs i hi,fun hk e=>by have:=h.zPM i hi hk;have:=h.lt (by omega);omega⟩⟩⟩
theorem qW.turned0{S:Nat->Prop}{wr w':World}{bs L n:Nat}{f:Nat->zY}{kb:Nat->Nat}{kv cv:Nat->Value}(h:qW wr bs L n 0 f kb kv cv)(t:zF S wr w')(hs:∀q,S q->0<n->q≠bs):qW w' bs L n 0 f kb kv cv:=
 ⟨fun j hj=>(h.zPR j hj).zPF t (fun e=>hs _ e (by omega) rfl),fun j hj=>absurd hj (Nat.not_lt_zero _),fun j hj=>absurd hj (Nat.not_lt_zero _),h.zPJ,h.lt⟩
theorem qW.weak{wr:World}{bs L L' n:Nat}{f:Nat->zY}{kb:Nat->Nat}{kv cv:Nat->Value}(h:qW wr bs L n 0 f kb kv cv)(hL:L<=L'):qW wr bs L' n 0 f kb kv cv:=
 ⟨h.zPR,h.zPK,fun j hj=>absurd hj (Nat.not_lt_zero _),h.zPJ,fun h0=>Nat.lt_of_lt_of_le (h.lt h0) hL⟩
theorem qf.values{w:World}{lo hi:Nat}{a:Option Addr}{n c:Nat}{f:Nat->zY}(h:qf w lo hi (.slice a n c) n f) :
  ∃cv:Nat->Value,(∀i,i<n->zR w lo hi (cv i) (f i).dn (f i).ds (f i).db/\((f i).name.size<=maxLen/\(f i).set.size<=maxLen))/\
   (0<n->∃b off,a=some ⟨b,off,none⟩/\∀j u,(zAf f cv n)[j]?=some u->w.cell? ⟨b,off+j,none⟩=some u):=by
 obtain⟨_,a0,c0,h0,_,g⟩:=h;simp only[Value.slice.injEq,true_and]at h0;obtain⟨rfl,rfl⟩:=h0;by_cases hn:0<n
 ·obtain⟨b,off,ha,cA,dA,hc⟩:=g hn;have bA:∀i,∃x,i<n->ye w b (off+i*8) lo hi x (f i):=fun i=>by
   by_cases hi:i<n
   ·obtain⟨vd,hs⟩:=hc i hi;exact⟨vd,fun _=>hs⟩
   ·exact⟨.slice none 0 0,fun h=>absurd h hi⟩
  obtain⟨cv,aA⟩:=Classical.axiomOfChoice bA;refine⟨cv,fun i hi=>⟨(aA i hi).zPK,(aA i hi).zPN⟩,fun _=>⟨b,off,ha,fun j u hj=>?_⟩⟩;have eA:j<n*8:=by
   have:=(List.getElem?_eq_some_iff.1 hj).1
   rwa [zBB]at this
  have hs:=aA (j / 8) (by omega);have e:=zAV f cv n (i:=j / 8) (r:=j % 8) (by omega) (by omega);rw[show j / 8*8+j % 8=j by omega,hj]at e;have hr:j % 8<8:=(by omega);have ho:off+j=off+j / 8*8+j % 8:=(by omega);rw[ho];generalize j % 8=r at hr e ⊢;generalize j / 8=q at hs e ⊢;rcases r with _ | _ | _ | _ | _ | _ | _ | _ | r
  ·cases e;exact hs.c0
  ·cases e;exact hs.c1
  ·cases e;exact hs.c2
  ·cases e;exact hs.c3
  ·cases e;exact hs.c4
  ·cases e;exact hs.c5
  ·cases e;exact hs.c6
  ·cases e;exact hs.c7
  ·omega
 ·exact⟨fun _=>.slice none 0 0,fun i hi=>absurd hi (by omega),fun h=>absurd h hn⟩
theorem zAM{w1:World}{base n:Nat}{v:Value}{f:Nat->zY}{cv:Nat->Value}(bA:w1.ownsRow base 99 8 v n (zAf f cv n))(L:Nat)(hL:w1.heap.size<=L):∃bs a c,v = .slice a n c/\n<=c/\(0<n->a=some ⟨bs,0,none⟩/\base<=bs/\bs<w1.heap.size)/\qW w1 bs L n 0 f (fun _=>0) cv cv:=by
 obtain⟨a1,c1,rfl,cA⟩:=za bA;by_cases h0:0<n
 ·obtain⟨g,cap,hv,_,dA,eA,aA⟩:=yK bA h0;simp only[Value.slice.injEq,true_and]at hv;obtain⟨rfl,rfl⟩:=hv;refine⟨g,_,_,rfl,cA,fun _=>⟨rfl,dA,eA⟩,fun j hj=>?_,fun j hj=>absurd hj (Nat.not_lt_zero _),fun j hj=>absurd hj (Nat.not_lt_zero _),fun i j hi=>absurd hi (Nat.not_lt_zero _),fun _=>by omega⟩;rw[if_neg (Nat.not_lt_zero _)];exact⟨aA _ _ (zAV f cv n hj (r:=0) (by omega)),aA _ _ (zAV f cv n hj (r:=1) (by omega)),aA _ _ (zAV f cv n hj (r:=2) (by omega)),aA _ _ (zAV f cv n hj (r:=3) (by omega)),aA _ _ (zAV f cv n hj (r:=4) (by omega)),aA _ _ (zAV f cv n hj (r:=5) (by omega)),aA _ _ (zAV f cv n hj (r:=6) (by omega)),aA _ _ (zAV f cv n hj (r:=7) (by omega))⟩
 ·exact⟨0,_,_,rfl,cA,fun h=>absurd h h0,fun j hj=>absurd hj (by omega),fun j hj=>absurd hj (Nat.not_lt_zero _),fun j hj=>absurd hj (Nat.not_lt_zero _),fun i j hi=>absurd hi (Nat.not_lt_zero _),fun h=>absurd h h0⟩
def zDE(W:zE):Prop:=(∀i,i<W.sn->(W.zPG i).dn<=1048576)/\∀i,i<W.pn->(W.zPD i).dn<=1048576
end Go.Proofs.YtmgeglgboadfiaaGreatDoor
