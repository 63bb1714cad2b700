/- A part of the proof. -/
import Derived.Test.YtgabgheflgjgiaaGreatDoorU1
import Derived.Laws.OwnMore
set_option linter.unusedVariables false
set_option maxRecDepth 20000
set_option maxHeartbeats 4000000
namespace Go.Proofs.YtgabgheflgjgiaaGreatDoor
open Go.RowKit
structure zu where
 name:ByteArray
 origin:Int
 zO0:Int
 rs:Int
 rb:Int
 dn:Nat
 ds:Nat->Int
 db:Nat->Int
structure zd where
 id:Int
 name:ByteArray
 set:ByteArray
 zO0:Int
 time:Int
 rs:Int
 rb:Int
 dn:Nat
 ds:Nat->Int
 db:Nat->Int
structure zH where
 zOv:zI
 time:Int
 next:Int
 sn:Nat
 zOy:Nat->zu
 pn:Nat
 zOw:Nat->zd
structure zCD (w:World) (b o lo hi:Nat) (vd:Value) (s:zu):Prop where
 c0:w.cell? ⟨b,o,none⟩=some (.string s.name)
 c1:w.cell? ⟨b,o+1,none⟩=some (.int .i64 s.origin)
 c2:w.cell? ⟨b,o+2,none⟩=some (.int .i64 s.zO0)
 c3:w.cell? ⟨b,o+3,none⟩=some (.int .i64 s.rs)
 c4:w.cell? ⟨b,o+4,none⟩=some (.int .i64 s.rb)
 c5:w.cell? ⟨b,o+5,none⟩=some vd
 zO5:zp w lo hi vd s.dn s.ds s.db
 zO6:s.name.size<=maxLen
theorem zCD.zOp{w w':World}{b o lo hi:Nat}{vd:Value}{s:zu}(h:zCD w b o lo hi vd s)(t:Below w.heap.size w w'):zCD w' b o lo hi vd s:=
 ⟨(t.cell (zD h.c0)).trans h.c0,(t.cell (zD h.c1)).trans h.c1,(t.cell (zD h.c2)).trans h.c2,(t.cell (zD h.c3)).trans h.c3,(t.cell (zD h.c4)).trans h.c4,(t.cell (zD h.c5)).trans h.c5,h.zO5.zOp t,h.zO6⟩
structure zBT (w:World) (b o lo hi:Nat) (vd:Value) (s:zd):Prop where
 c0:w.cell? ⟨b,o,none⟩=some (.int .i64 s.id)
 c1:w.cell? ⟨b,o+1,none⟩=some (.string s.name)
 c2:w.cell? ⟨b,o+2,none⟩=some (.string s.set)
 c3:w.cell? ⟨b,o+3,none⟩=some (.int .i64 s.zO0)
 c4:w.cell? ⟨b,o+4,none⟩=some (.int .i64 s.time)
 c5:w.cell? ⟨b,o+5,none⟩=some (.int .i64 s.rs)
 c6:w.cell? ⟨b,o+6,none⟩=some (.int .i64 s.rb)
 c7:w.cell? ⟨b,o+7,none⟩=some vd
 zO5:zp w lo hi vd s.dn s.ds s.db
 zO6:s.name.size<=maxLen/\s.set.size<=maxLen
theorem zBT.zOp{w w':World}{b o lo hi:Nat}{vd:Value}{s:zd}(h:zBT w b o lo hi vd s)(t:Below w.heap.size w w'):zBT w' b o lo hi vd s:=
 ⟨(t.cell (zD h.c0)).trans h.c0,(t.cell (zD h.c1)).trans h.c1,(t.cell (zD h.c2)).trans h.c2,(t.cell (zD h.c3)).trans h.c3,(t.cell (zD h.c4)).trans h.c4,(t.cell (zD h.c5)).trans h.c5,(t.cell (zD h.c6)).trans h.c6,(t.cell (zD h.c7)).trans h.c7,h.zO5.zOp t,h.zO6⟩
def zBP(w:World)(lo hi:Nat)(v:Value)(n:Nat)(f:Nat->zu):Prop:=
 n<=maxLen/\∃a cap,v = .slice a n cap/\n<=cap/\(0<n->∃b off,a=some ⟨b,off,none⟩/\lo<=b/\b<hi/\∀i,i<n->∃vd,zCD w b (off+i*6) lo hi vd (f i))
def zAh(w:World)(lo hi:Nat)(v:Value)(n:Nat)(f:Nat->zd):Prop:=
 n<=maxLen/\∃a cap,v = .slice a n cap/\n<=cap/\(0<n->∃b off,a=some ⟨b,off,none⟩/\lo<=b/\b<hi/\∀i,i<n->∃vd,zBT w b (off+i*8) lo hi vd (f i))
theorem zBP.zOp{w w':World}{lo hi:Nat}{v:Value}{n:Nat}{f:Nat->zu}(h:zBP w lo hi v n f)(t:Below w.heap.size w w'):zBP w' lo hi v n f:=by
 obtain⟨h0,a,cap,hv,aA,hc⟩:=h;refine⟨h0,a,cap,hv,aA,fun hn=>?_⟩;obtain⟨b,off,ha,h1,h2,h3⟩:=hc hn;refine⟨b,off,ha,h1,h2,fun i hi=>?_⟩;obtain⟨vd,hs⟩:=h3 i hi;exact⟨vd,hs.zOp t⟩
theorem zAh.zOp{w w':World}{lo hi:Nat}{v:Value}{n:Nat}{f:Nat->zd}(h:zAh w lo hi v n f)(t:Below w.heap.size w w'):zAh w' lo hi v n f:=by
 obtain⟨h0,a,cap,hv,aA,hc⟩:=h;refine⟨h0,a,cap,hv,aA,fun hn=>?_⟩;obtain⟨b,off,ha,h1,h2,h3⟩:=hc hn;refine⟨b,off,ha,h1,h2,fun i hi=>?_⟩;obtain⟨vd,hs⟩:=h3 i hi;exact⟨vd,hs.zOp t⟩
theorem zBP.cells{w:World}{lo hi:Nat}{a:Option Addr}{n c:Nat}{f:Nat->zu}(h:zBP w lo hi (.slice a n c) n f){i:Nat}(aA:i<n):∃b off vd,a=some ⟨b,off,none⟩/\zCD w b (off+i*6) lo hi vd (f i):=by
 obtain⟨h0,a2,cap,hv,bA,hx⟩:=h;simp only[Value.slice.injEq,true_and]at hv;obtain⟨rfl,rfl⟩:=hv;obtain⟨b,off,ha,h1,h2,h3⟩:=hx (by omega);obtain⟨vd,hs⟩:=h3 i aA;exact⟨b,off,vd,ha,hs⟩
theorem zAh.cells{w:World}{lo hi:Nat}{a:Option Addr}{n c:Nat}{f:Nat->zd}(h:zAh w lo hi (.slice a n c) n f){i:Nat}(aA:i<n):∃b off vd,a=some ⟨b,off,none⟩/\zBT w b (off+i*8) lo hi vd (f i):=by
 obtain⟨h0,a2,cap,hv,bA,hx⟩:=h;simp only[Value.slice.injEq,true_and]at hv;obtain⟨rfl,rfl⟩:=hv;obtain⟨b,off,ha,h1,h2,h3⟩:=hx (by omega);obtain⟨vd,hs⟩:=h3 i aA;exact⟨b,off,vd,ha,hs⟩
structure zr (w:World) (lo hi:Nat) (v0 v1 v2 v3:Value) (W:zH):Prop where
 zOv:qm w lo hi v0 v1 W.zOv
 zOy:zBP w lo hi v2 W.sn W.zOy
 zOw:zAh w lo hi v3 W.pn W.zOw
theorem zr.zOp{w w':World}{lo hi:Nat}{v0 v1 v2 v3:Value}{W:zH}(h:zr w lo hi v0 v1 v2 v3 W)(t:Below w.heap.size w w'):zr w' lo hi v0 v1 v2 v3 W:=⟨h.zOv.zOp t,h.zOy.zOp t,h.zOw.zOp t⟩
abbrev qT(v0 v1 v2 v3:Value)(W:zH):Value:=.agg #[v0,v1,.int .i64 W.time,.int .i64 W.next,v2,v3]
def qo(W:zH)(id:Int)(k:Nat):Prop:=k<W.pn/\(W.zOw k).id=id/\∀j,j<k->(W.zOw j).id≠id
def zAO(W:zH)(name:ByteArray)(k:Nat):Prop:=k<W.sn/\(W.zOy k).name=name/\∀j,j<k->(W.zOy j).name≠name
theorem qo.uniq{W:zH}{id:Int}{i j:Nat}(h:qo W id i)(h':qo W id j):i=j:=by
 rcases Nat.lt_trichotomy i j with e | e | e
 ·exact absurd h.2.1 (h'.2.2 i e)
 ·exact e
 ·exact absurd h'.2.1 (h.2.2 j e)
theorem zAO.uniq{W:zH}{name:ByteArray}{i j:Nat}(h:zAO W name i)(h':zAO W name j):i=j:=by
 rcases Nat.lt_trichotomy i j with e | e | e
 ·exact absurd h.2.1 (h'.2.2 i e)
 ·exact e
 ·exact absurd h'.2.1 (h.2.2 j e)
structure qx (w:World) (bs o kb:Nat) (kv:Value) (s:zu):Prop where
 c0:zT w bs o (.string s.name)
 c1:zT w bs (o+1) (.int .i64 s.origin)
 c2:zT w bs (o+2) (.int .i64 s.zO0)
 c3:zT w bs (o+3) (.int .i64 s.rs)
 c4:zT w bs (o+4) (.int .i64 s.rb)
 c5:zT w bs (o+5) kv
 zO5:ze w kb kv s.dn s.ds s.db
 zO6:s.name.size<=maxLen
 zO4:0<s.dn->kb≠bs
theorem qx.zOr{S:Nat->Prop}{w w':World}{bs o kb:Nat}{kv:Value}{s:zu}(h:qx w bs o kb kv s)(t:zE S w w')(h1:¬S bs)(h2:0<s.dn->¬S kb):qx w' bs o kb kv s:=
 ⟨h.c0.zOr t h1,h.c1.zOr t h1,h.c2.zOr t h1,h.c3.zOr t h1,h.c4.zOr t h1,h.c5.zOr t h1,h.zO5.zOr t h2,h.zO6,h.zO4⟩
theorem qx.zOp{w w':World}{bs o kb:Nat}{kv:Value}{s:zu}(h:qx w bs o kb kv s)(t:Below w.heap.size w w'):qx w' bs o kb kv s:=
 h.zOr (zE.zOs (S:=fun _=>False) t) (fun h=>h) (fun _ h=>h)
theorem qx.cells{w:World}{bs o kb:Nat}{kv:Value}{s:zu}(h:qx w bs o kb kv s){lo hi:Nat}(hb:0<s.dn->lo<=kb/\kb<hi):zCD w bs o lo hi kv s:=
 ⟨h.c0.1,h.c1.1,h.c2.1,h.c3.1,h.c4.1,h.c5.1,h.zO5.at hb,h.zO6⟩
theorem qx.deadLt{w:World}{bs o kb:Nat}{kv:Value}{s:zu}(h:qx w bs o kb kv s)(h0:0<s.dn):kb<w.heap.size:=by
 obtain⟨_,_,_,_,_,h4⟩:=h.zO5;obtain⟨o,_,h5⟩:=h4 h0;exact(h5 0 h0).1.lt
def qK(w:World)(bs:Nat)(kb:Nat->Nat)(kv:Nat->Value)(v:Value)(n:Nat)(f:Nat->zu):Prop:=
 n<=maxLen/\∃a cap,v = .slice a n cap/\n<=cap/\(0<n->∃off,a=some ⟨bs,off,none⟩/\∀i,i<n->qx w bs (off+i*6) (kb i) (kv i) (f i))
def yo(bs:Nat)(kb:Nat->Nat)(n:Nat)(f:Nat->zu)(k:Nat):Prop:=(0<n/\k=bs)\/∃i,i<n/\0<(f i).dn/\k=kb i
def qy(kb:Nat->Nat)(n:Nat)(f:Nat->zu):Prop:=∀i j,i<n->j<n->i≠j->0<(f i).dn->0<(f j).dn->kb i≠kb j
theorem qK.zOr{S:Nat->Prop}{w w':World}{bs:Nat}{kb:Nat->Nat}{kv:Nat->Value}{v:Value}{n:Nat}{f:Nat->zu}(h:qK w bs kb kv v n f)(t:zE S w w')(hs:∀k,yo bs kb n f k->¬S k):qK w' bs kb kv v n f:=by
 obtain⟨h0,a,cap,hv,aA,hc⟩:=h;refine⟨h0,a,cap,hv,aA,fun hn=>?_⟩;obtain⟨off,ha,h3⟩:=hc hn;exact⟨off,ha,fun i hi=>(h3 i hi).zOr t (hs _ (Or.inl ⟨hn,rfl⟩)) (fun h=>hs _ (Or.inr ⟨i,hi,h,rfl⟩))⟩
theorem qK.zOp{w w':World}{bs:Nat}{kb:Nat->Nat}{kv:Nat->Value}{v:Value}{n:Nat}{f:Nat->zu}(h:qK w bs kb kv v n f)(t:Below w.heap.size w w'):qK w' bs kb kv v n f:=
 h.zOr (zE.zOs (S:=fun _=>False) t) (fun _ _ h=>h)
theorem qK.at{w:World}{bs:Nat}{kb:Nat->Nat}{kv:Nat->Value}{v:Value}{n:Nat}{f:Nat->zu}(h:qK w bs kb kv v n f){lo hi:Nat}(hb:∀k,yo bs kb n f k->lo<=k/\k<hi):zBP w lo hi v n f:=by
 obtain⟨h0,a,cap,hv,aA,hc⟩:=h;refine⟨h0,a,cap,hv,aA,fun hn=>?_⟩;obtain⟨off,ha,h3⟩:=hc hn;have hx:=hb _ (Or.inl ⟨hn,rfl⟩);exact⟨bs,off,ha,hx.1,hx.2,fun i hi=>⟨_,(h3 i hi).cells (fun h=>hb _ (Or.inr ⟨i,hi,h,rfl⟩))⟩⟩
theorem zGk:(Tryz.prog.info? 102).map (fun i=>(i.zero,i.size,i.bytes))=some (some (.agg #[.string ⟨#[]⟩,.int .i64 0,.int .i64 0,.int .i64 0,.int .i64 0,.slice none 0 0]),6,72):=by kernel_rfl
structure yA (w:World) (bs o kb:Nat) (kv:Value) (s:zd):Prop where
 c0:zT w bs o (.int .i64 s.id)
 c1:zT w bs (o+1) (.string s.name)
 c2:zT w bs (o+2) (.string s.set)
 c3:zT w bs (o+3) (.int .i64 s.zO0)
 c4:zT w bs (o+4) (.int .i64 s.time)
 c5:zT w bs (o+5) (.int .i64 s.rs)
 c6:zT w bs (o+6) (.int .i64 s.rb)
 c7:zT w bs (o+7) kv
 zO5:ze w kb kv s.dn s.ds s.db
 zO6:s.name.size<=maxLen/\s.set.size<=maxLen
 zO4:0<s.dn->kb≠bs
theorem yA.zOr{S:Nat->Prop}{w w':World}{bs o kb:Nat}{kv:Value}{s:zd}(h:yA w bs o kb kv s)(t:zE S w w')(h1:¬S bs)(h2:0<s.dn->¬S kb):yA w' bs o kb kv s:=
 ⟨h.c0.zOr t h1,h.c1.zOr t h1,h.c2.zOr t h1,h.c3.zOr t h1,h.c4.zOr t h1,h.c5.zOr t h1,h.c6.zOr t h1,h.c7.zOr t h1,h.zO5.zOr t h2,h.zO6,h.zO4⟩
theorem yA.zOp{w w':World}{bs o kb:Nat}{kv:Value}{s:zd}(h:yA w bs o kb kv s)(t:Below w.heap.size w w'):yA w' bs o kb kv s:=
 h.zOr (zE.zOs (S:=fun _=>False) t) (fun h=>h) (fun _ h=>h)
theorem yA.cells{w:World}{bs o kb:Nat}{kv:Value}{s:zd}(h:yA w bs o kb kv s){lo hi:Nat}(hb:0<s.dn->lo<=kb/\kb<hi):zBT w bs o lo hi kv s:=
 ⟨h.c0.1,h.c1.1,h.c2.1,h.c3.1,h.c4.1,h.c5.1,h.c6.1,h.c7.1,h.zO5.at hb,h.zO6⟩
theorem yA.deadLt{w:World}{bs o kb:Nat}{kv:Value}{s:zd}(h:yA w bs o kb kv s)(h0:0<s.dn):kb<w.heap.size:=by
 obtain⟨_,_,_,_,_,h4⟩:=h.zO5;obtain⟨o,_,h5⟩:=h4 h0;exact(h5 0 h0).1.lt
def qI(w:World)(bs:Nat)(kb:Nat->Nat)(kv:Nat->Value)(v:Value)(n:Nat)(f:Nat->zd):Prop:=
 n<=maxLen/\∃a cap,v = .slice a n cap/\n<=cap/\(0<n->∃off,a=some ⟨bs,off,none⟩/\∀i,i<n->yA w bs (off+i*8) (kb i) (kv i) (f i))
def zAZ(bs:Nat)(kb:Nat->Nat)(n:Nat)(f:Nat->zd)(k:Nat):Prop:=(0<n/\k=bs)\/∃i,i<n/\0<(f i).dn/\k=kb i
def yF(kb:Nat->Nat)(n:Nat)(f:Nat->zd):Prop:=∀i j,i<n->j<n->i≠j->0<(f i).dn->0<(f j).dn->kb i≠kb j
theorem qI.zOr{S:Nat->Prop}{w w':World}{bs:Nat}{kb:Nat->Nat}{kv:Nat->Value}{v:Value}{n:Nat}{f:Nat->zd}(h:qI w bs kb kv v n f)(t:zE S w w')(hs:∀k,zAZ bs kb n f k->¬S k):qI w' bs kb kv v n f:=by
 obtain⟨h0,a,cap,hv,aA,hc⟩:=h;refine⟨h0,a,cap,hv,aA,fun hn=>?_⟩;obtain⟨off,ha,h3⟩:=hc hn;exact⟨off,ha,fun i hi=>(h3 i hi).zOr t (hs _ (Or.inl ⟨hn,rfl⟩)) (fun h=>hs _ (Or.inr ⟨i,hi,h,rfl⟩))⟩
theorem qI.zOp{w w':World}{bs:Nat}{kb:Nat->Nat}{kv:Nat->Value}{v:Value}{n:Nat}{f:Nat->zd}(h:qI w bs kb kv v n f)(t:Below w.heap.size w w'):qI w' bs kb kv v n f:=
 h.zOr (zE.zOs (S:=fun _=>False) t) (fun _ _ h=>h)
theorem qI.at{w:World}{bs:Nat}{kb:Nat->Nat}{kv:Nat->Value}{v:Value}{n:Nat}{f:Nat->zd}(h:qI w bs kb kv v n f){lo hi:Nat}(hb:∀k,zAZ bs kb n f k->lo<=k/\k<hi):zAh w lo hi v n f:=by
 obtain⟨h0,a,cap,hv,aA,hc⟩:=h;refine⟨h0,a,cap,hv,aA,fun hn=>?_⟩;obtain⟨off,ha,h3⟩:=hc hn;have hx:=hb _ (Or.inl ⟨hn,rfl⟩);exact⟨bs,off,ha,hx.1,hx.2,fun i hi=>⟨_,(h3 i hi).cells (fun h=>hb _ (Or.inr ⟨i,hi,h,rfl⟩))⟩⟩
theorem zDy:(Tryz.prog.info? 111).map (fun i=>(i.zero,i.size,i.bytes))=some (some (.agg #[.int .i64 0,.string ⟨#[]⟩,.string ⟨#[]⟩,.int .i64 0,.int .i64 0,.int .i64 0,.int .i64 0,.slice none 0 0]),8,96):=by kernel_rfl
def qN(w:World)(S:Nat->Prop)(v0 v1:Value)(p:zI):Prop:=
 ∃(bs hb:Nat) (kb:Nat->Nat) (kv:Nat->Value),zAC w bs kb kv v0 p.n p.s/\zCp kb p.n p.s/\yy w hb v1 p.hn p.h/\(0<p.hn->¬zBS bs kb p.n p.s hb)/\
  ∀k,zBS bs kb p.n p.s k\/(0<p.hn/\k=hb)->S k
theorem zh.isIn{w:World}{lo hi:Nat}{S:Nat->Prop}{v0 v1:Value}{p:zI}(h:zh w lo hi v0 v1 p)(hS:∀k,lo<=k->k<hi->S k):qN w S v0 v1 p:=by
 obtain⟨bs,hb,kb,kv,h1,h2,h3,h4,h5⟩:=h;exact⟨bs,hb,kb,kv,h1,h2,h3,h4,fun k hk=>hS k (h5 k hk).1 (h5 k hk).2⟩
theorem qN.own{w:World}{lo hi:Nat}{S:Nat->Prop}{v0 v1:Value}{p:zI}(h:qN w S v0 v1 p)(hS:∀k,S k->lo<=k/\k<hi):zh w lo hi v0 v1 p:=by
 obtain⟨bs,hb,kb,kv,h1,h2,h3,h4,h5⟩:=h;exact⟨bs,hb,kb,kv,h1,h2,h3,h4,fun k hk=>hS k (h5 k hk)⟩
theorem qN.mono{w:World}{S T:Nat->Prop}{v0 v1:Value}{p:zI}(h:qN w S v0 v1 p)(hS:∀k,S k->T k):qN w T v0 v1 p:=by
 obtain⟨bs,hb,kb,kv,h1,h2,h3,h4,h5⟩:=h;exact⟨bs,hb,kb,kv,h1,h2,h3,h4,fun k hk=>hS k (h5 k hk)⟩
theorem qN.zOp{w w':World}{S:Nat->Prop}{v0 v1:Value}{p:zI}(h:qN w S v0 v1 p)(t:Below w.heap.size w w'):qN w' S v0 v1 p:=by
 obtain⟨bs,hb,kb,kv,h1,h2,h3,h4,h5⟩:=h;exact⟨bs,hb,kb,kv,h1.zOp t,h2,h3.zOp t,h4,h5⟩
theorem qN.zOr{S T:Nat->Prop}{w w':World}{v0 v1:Value}{p:zI}(h:qN w S v0 v1 p)(t:zE T w w')(hs:∀k,S k->¬T k):qN w' S v0 v1 p:=by
 obtain⟨bs,hb,kb,kv,h1,h2,h3,h4,h5⟩:=h;have out:∀k,zBS bs kb p.n p.s k\/(0<p.hn/\k=hb)->¬T k:=fun k hk=>hs k (h5 k hk)
 exact⟨bs,hb,kb,kv,h1.zOr t (fun h0=>out _ (Or.inl (Or.inl ⟨h0,rfl⟩))) (fun i hi h=>out _ (Or.inl (Or.inr ⟨i,hi,h,rfl⟩))),h2,h3.zOr t (fun h0=>out _ (Or.inr ⟨h0,rfl⟩)),h4,h5⟩
theorem qN.at{w:World}{S:Nat->Prop}{lo hi:Nat}{v0 v1:Value}{p:zI}(h:qN w S v0 v1 p)(hS:∀k,S k->lo<=k/\k<hi):qm w lo hi v0 v1 p:=(h.own hS).at
def zAd(w:World)(S:Nat->Prop)(v:Value)(n:Nat)(f:Nat->zu):Prop:=∃(bs:Nat) (kb:Nat->Nat) (kv:Nat->Value),qK w bs kb kv v n f/\qy kb n f/\∀k,yo bs kb n f k->S k
def yp(w:World)(S:Nat->Prop)(v:Value)(n:Nat)(f:Nat->zd):Prop:=∃(bs:Nat) (kb:Nat->Nat) (kv:Nat->Value),qI w bs kb kv v n f/\yF kb n f/\∀k,zAZ bs kb n f k->S k
theorem zAd.zOr{S T:Nat->Prop}{w w':World}{v:Value}{n:Nat}{f:Nat->zu}(h:zAd w S v n f)(t:zE T w w')(hs:∀k,S k->¬T k):zAd w' S v n f:=by
 obtain⟨bs,kb,kv,h1,h2,h3⟩:=h;exact⟨bs,kb,kv,h1.zOr t (fun k hk=>hs k (h3 k hk)),h2,h3⟩
theorem yp.zOr{S T:Nat->Prop}{w w':World}{v:Value}{n:Nat}{f:Nat->zd}(h:yp w S v n f)(t:zE T w w')(hs:∀k,S k->¬T k):yp w' S v n f:=by
 obtain⟨bs,kb,kv,h1,h2,h3⟩:=h;exact⟨bs,kb,kv,h1.zOr t (fun k hk=>hs k (h3 k hk)),h2,h3⟩
theorem zAd.zOp{S:Nat->Prop}{w w':World}{v:Value}{n:Nat}{f:Nat->zu}(h:zAd w S v n f)(t:Below w.heap.size w w'):zAd w' S v n f:=by
 obtain⟨bs,kb,kv,h1,h2,h3⟩:=h;exact⟨bs,kb,kv,h1.zOp t,h2,h3⟩
theorem yp.zOp{S:Nat->Prop}{w w':World}{v:Value}{n:Nat}{f:Nat->zd}(h:yp w S v n f)(t:Below w.heap.size w w'):yp w' S v n f:=by
 obtain⟨bs,kb,kv,h1,h2,h3⟩:=h;exact⟨bs,kb,kv,h1.zOp t,h2,h3⟩
theorem zAd.at{S:Nat->Prop}{w:World}{v:Value}{n:Nat}{f:Nat->zu}(h:zAd w S v n f){lo hi:Nat}(hs:∀k,S k->lo<=k/\k<hi):zBP w lo hi v n f:=by
 obtain⟨bs,kb,kv,h1,h2,h3⟩:=h;exact h1.at (fun k hk=>hs k (h3 k hk))
theorem yp.at{S:Nat->Prop}{w:World}{v:Value}{n:Nat}{f:Nat->zd}(h:yp w S v n f){lo hi:Nat}(hs:∀k,S k->lo<=k/\k<hi):zAh w lo hi v n f:=by
 obtain⟨bs,kb,kv,h1,h2,h3⟩:=h;exact h1.at (fun k hk=>hs k (h3 k hk))
theorem zAd.form{S:Nat->Prop}{w:World}{v:Value}{n:Nat}{f:Nat->zu}(h:zAd w S v n f):∃a c,v = .slice a n c/\n<=c:=by
 obtain⟨bs,kb,kv,⟨_,a,c,hv,hc,_⟩,h2,h3⟩:=h;exact⟨a,c,hv,hc⟩
theorem yp.form{S:Nat->Prop}{w:World}{v:Value}{n:Nat}{f:Nat->zd}(h:yp w S v n f):∃a c,v = .slice a n c/\n<=c:=by
 obtain⟨bs,kb,kv,⟨_,a,c,hv,hc,_⟩,h2,h3⟩:=h;exact⟨a,c,hv,hc⟩
theorem qN.form{w:World}{S:Nat->Prop}{v0 v1:Value}{p:zI}(h:qN w S v0 v1 p):∃a c a' c',v0 = .slice a p.n c/\v1 = .slice a' p.hn c':=by
 obtain⟨bs,hb,kb,kv,⟨_,a,c,h1,_⟩,h2,⟨_,a',c',h3,_,_⟩,h4,h5⟩:=h;exact⟨a,c,a',c',h1,h3⟩
structure zAT (w:World) (P Q R:Nat->Prop) (v0 v1 v2 v3:Value) (W:zH):Prop where
 zOv:qN w P v0 v1 W.zOv
 zOy:zAd w Q v2 W.sn W.zOy
 zOw:yp w R v3 W.pn W.zOw
 pq:∀k,P k->¬Q k
 pr:∀k,P k->¬R k
 qr:∀k,Q k->¬R k
def zf(w:World)(lo hi:Nat)(v0 v1 v2 v3:Value)(W:zH):Prop:=∃P Q R,zAT w P Q R v0 v1 v2 v3 W/\∀k,P k\/Q k\/R k->lo<=k/\k<hi
theorem zf.at{w:World}{lo hi:Nat}{v0 v1 v2 v3:Value}{W:zH}(h:zf w lo hi v0 v1 v2 v3 W):zr w lo hi v0 v1 v2 v3 W:=by
 obtain⟨P,Q,R,h,hl⟩:=h;exact⟨h.zOv.at (fun k hk=>hl k (Or.inl hk)),h.zOy.at (fun k hk=>hl k (Or.inr (Or.inl hk))),h.zOw.at (fun k hk=>hl k (Or.inr (Or.inr hk)))⟩
theorem zAT.zOp{P Q R:Nat->Prop}{w w':World}{v0 v1 v2 v3:Value}{W:zH}(h:zAT w P Q R v0 v1 v2 v3 W)(t:Below w.heap.size w w'):zAT w' P Q R v0 v1 v2 v3 W:=
 ⟨h.zOv.zOp t,h.zOy.zOp t,h.zOw.zOp t,h.pq,h.pr,h.qr⟩
theorem zf.zOp{w w':World}{lo hi:Nat}{v0 v1 v2 v3:Value}{W:zH}(h:zf w lo hi v0 v1 v2 v3 W)(t:Below w.heap.size w w'):zf w' lo hi v0 v1 v2 v3 W:=by
 obtain⟨P,Q,R,h,hl⟩:=h;exact⟨P,Q,R,h.zOp t,hl⟩
theorem zAT.zOr{P Q R T:Nat->Prop}{w w':World}{v0 v1 v2 v3:Value}{W:zH}(h:zAT w P Q R v0 v1 v2 v3 W)(t:zE T w w')(hs:∀k,P k\/Q k\/R k->¬T k):zAT w' P Q R v0 v1 v2 v3 W:=
 ⟨h.zOv.zOr t (fun k hk=>hs k (Or.inl hk)),h.zOy.zOr t (fun k hk=>hs k (Or.inr (Or.inl hk))),h.zOw.zOr t (fun k hk=>hs k (Or.inr (Or.inr hk))),h.pq,h.pr,h.qr⟩
theorem zf.zOr{S:Nat->Prop}{w w':World}{lo hi:Nat}{v0 v1 v2 v3:Value}{W:zH}(h:zf w lo hi v0 v1 v2 v3 W)(t:zE S w w')(hs:∀k,S k->k<lo\/hi<=k):zf w' lo hi v0 v1 v2 v3 W:=by
 obtain⟨P,Q,R,h,hl⟩:=h;exact⟨P,Q,R,h.zOr t (fun k hk hx=>by have:=hl k hk;have:=hs k hx;omega),hl⟩
theorem zf.zOu{w:World}{lo hi bA aA:Nat}{v0 v1 v2 v3:Value}{W:zH}(h:zf w lo hi v0 v1 v2 v3 W)(h1:bA<=lo)(h2:hi<=aA):zf w bA aA v0 v1 v2 v3 W:=by
 obtain⟨P,Q,R,h,hl⟩:=h;exact⟨P,Q,R,h,fun k hk=>by have:=hl k hk;omega⟩
theorem zf.form{w:World}{lo hi:Nat}{v0 v1 v2 v3:Value}{W:zH}(h:zf w lo hi v0 v1 v2 v3 W):∃a0 c0 a1 c1 a2 c2 a3 c3,v0 = .slice a0 W.zOv.n c0/\v1 = .slice a1 W.zOv.hn c1/\v2 = .slice a2 W.sn c2/\v3 = .slice a3 W.pn c3:=by
 obtain⟨P,Q,R,h,hl⟩:=h;obtain⟨a0,c0,a1,c1,e0,e1⟩:=h.zOv.form;obtain⟨a2,c2,e2,-⟩:=h.zOy.form;obtain⟨a3,c3,e3,-⟩:=h.zOw.form;exact⟨a0,c0,a1,c1,a2,c2,a3,c3,e0,e1,e2,e3⟩
theorem zr.form{w:World}{lo hi:Nat}{v0 v1 v2 v3:Value}{W:zH}(h:zr w lo hi v0 v1 v2 v3 W):∃a0 c0 a1 c1 a2 c2 a3 c3,v0 = .slice a0 W.zOv.n c0/\v1 = .slice a1 W.zOv.hn c1/\v2 = .slice a2 W.sn c2/\v3 = .slice a3 W.pn c3:=by
 obtain⟨a0,c0,a1,c1,e0,e1⟩:=h.zOv.form;obtain⟨-,a2,c2,e2,-⟩:=h.zOy;obtain⟨-,a3,c3,e3,-⟩:=h.zOw;exact⟨a0,c0,a1,c1,a2,c2,a3,c3,e0,e1,e2,e3⟩
def zL8(W:zH)(w:World)(e:Ending)(w':World):Prop:=∃v0 v1 v2 v3,e = .returned (qT v0 v1 v2 v3 W)/\zf w' w.heap.size w'.heap.size v0 v1 v2 v3 W/\Below w.heap.size w w'
def zAc(w:World)(e:TypeId)(s:Nat)(v:Value)(n:Nat):Prop:=
 (n=0/\∃a,v = .slice a 0 0)\/(0<n/\∃g cap cur,v = .slice (some ⟨g,0,none⟩) n cap/\w.heap[g]?=some (.cells cur e (0,0))/\n<=cap/\cap<=maxLen/\cur.size=cap*s)
theorem zDH{w:World}{base:Nat}{e:TypeId}{s:Nat}{v:Value}{n:Nat}{xs:List Value}(h:w.ownsRow base e s v n xs)(hz:n=0->∃a,v = .slice a 0 0):zAc w e s v n:=by
 rcases Nat.eq_zero_or_pos n with h0 | h0
 ·exact Or.inl ⟨h0,hz h0⟩
 ·rcases h.2 with h | ⟨g,cap,aA,hv,_,hg,h1,h2,h3,_⟩
  ·omega
  ·exact Or.inr ⟨h0,g,cap,aA,hv,hg,h1,h2,h3⟩
theorem zAc.zOp{w w':World}{e:TypeId}{s:Nat}{v:Value}{n:Nat}(h:zAc w e s v n)(t:Below w.heap.size w w'):zAc w' e s v n:=by
 rcases h with h | ⟨h0,g,cap,aA,hv,hg,h1⟩
 ·exact Or.inl h
 ·exact Or.inr ⟨h0,g,cap,aA,hv,(t.block g (Array.getElem?_eq_some_iff.1 hg).1).trans hg,h1⟩
theorem zHa{w:World}{g:Nat}{bA:Array Value}{e:TypeId}(h:w.heap[g]?=some (.cells bA e (0,0)))(a:Addr)(u:Value):∃aA,(w.setCell a u).heap[g]?=some (.cells aA e (0,0))/\aA.size=bA.size:=by
 by_cases hg:a.block=g
 ·subst hg;unfold World.setCell;simp only[Array.getElem?_modify,h,if_true,Option.map_some];refine⟨_,rfl,?_⟩;split<;>simp
 ·refine⟨bA,?_,rfl⟩;unfold World.setCell;simp only[Array.getElem?_modify,hg,if_false,h]
theorem zAc.set{w:World}{e:TypeId}{s:Nat}{v:Value}{n:Nat}(h:zAc w e s v n)(a:Addr)(u:Value):zAc (w.setCell a u) e s v n:=by
 rcases h with h | ⟨h0,g,cap,cA,hv,hg,h1,h2,h3⟩
 ·exact Or.inl h
 ·obtain⟨aA,bA,hs⟩:=zHa hg a u;exact Or.inr ⟨h0,g,cap,aA,hv,bA,h1,h2,by rw[hs];exact h3⟩
theorem zAc.owns{w:World}{e:TypeId}{s:Nat}{v:Value}{n base:Nat}{xs:List Value}(h:zAc w e s v n)(h0:0<n)(hl:xs.length=n*s)(hb:∀g,v.ownBlock=some g->base<=g)
  (hc:∀g,v.ownBlock=some g->∀j u,xs[j]?=some u->w.cell? ⟨g,j,none⟩=some u):w.ownsRow base e s v n xs:=by
 refine⟨hl,?_⟩;rcases h with h | ⟨_,g,cap,aA,hv,hg,h1,h2,h3⟩
 ·omega
 ·refine Or.inr ⟨g,cap,aA,hv,hb g (by rw[hv];rfl),hg,h1,h2,h3,?_⟩;have bA:n*s<=aA.size:=(by rw[h3];exact Nat.mul_le_mul_right s h1);refine List.ext_getElem? fun j=>?_
  rw[List.getElem?_take];by_cases hj:j<n*s
  ·rw[if_pos hj];have hx:j<xs.length:=(by omega);have h4:=hc g (by rw[hv];rfl) j xs[j] (by rw[List.getElem?_eq_getElem hx]);have h5:w.cell? ⟨g,j,none⟩=aA[j]?:=by
    simp[World.cell?,hg]
   rw[h5]at h4;rw[List.getElem?_eq_getElem hx,<-h4,Array.getElem?_toList]
  ·rw[if_neg hj,List.getElem?_eq_none (by omega)]
theorem zDM{P:Program}{w:World}(t ty e:TypeId)(i:TypeInfo)(a:Option Addr)(ad:Addr)(m c:Nat)(ht:P.underlying t=some (.slice e))(hi:P.info? e=some i)(hm:0<m)(hb:m*i.bytes<=140737488355328) :
  (Builtin.append_ #[t,t] ty #[.slice a 0 0,.slice (some ad) m c]).run P w=(Builtin.append_ #[t,t] ty #[.slice none 0 0,.slice (some ad) m c]).run P w:=by
 cases a with
 | none=>rfl
 | some a=>
  have h1:¬m=0:=(by omega);have h2:Builtin.nextslicecap m 0=m:=(by unfold Builtin.nextslicecap;simp[hm]);have h3:¬(281474976710656:Nat)<m*i.bytes:=(by omega);have h4:∀w:World,(loadCells a 0).run P w = .ok #[] w:=fun w=>by first | rfl | simp[loadCells] | simp[loadCells,loadCellsFrom]
  simp[Builtin.append_,run_underlying ht,sizeOf,typeInfo,hi,Builtin.lenOf,Builtin.firstCells,h1,h2,h3,h4]
theorem zAc.append{P:Program}{w:World}(t ty e:TypeId)(i:TypeInfo)(z:Value)(s bytes base:Nat)(ht:P.underlying t=some (.slice e))(hi:P.info? e=some i)(hz:i.zero=some z)(eA:i.size=s)(fA:i.bytes=bytes)(kA:z.cells.size=s)(jA:0<s)
  {v:Value} {n:Nat} {xs:List Value} (h:zAc w e s v n) (hl:xs.length=n*s) (hb:0<n->∀g,v.ownBlock=some g->base<=g) (hc:0<n->∀g,v.ownBlock=some g->∀j u,xs[j]?=some u->w.cell? ⟨g,j,none⟩=some u)
  (ad:Addr) (m c:Nat) (bA:List Value) (iA:bA.length=m*s) (dA:∀j u,bA[j]?=some u->w.cell? (ad.add j)=some u) (h1:∀u∈bA,u.oneCell'=true) (hm:0<m) (gA:n+m<=maxLen) (aA:(n+m)*bytes<=140737488355328) (cA:base<=w.heap.size) :
  ∃g cap w' row,(Builtin.append_ #[t,t] ty #[v,.slice (some ad) m c]).run P w = .ok (.slice (some ⟨g,0,none⟩) (n+m) cap) w'/\w'.ownsRow base e s (.slice (some ⟨g,0,none⟩) (n+m) cap) (n+m) (xs ++ bA)/\w.grownBy w' row/\(row=none\/(0<n/\row=v.ownBlock))/\((0<n/\v.ownBlock=some g)\/g=w.heap.size)/\g<w'.heap.size:=by
 rcases Nat.eq_zero_or_pos n with h0 | h0
 ·rcases h with⟨_,a,rfl⟩ | ⟨hp,_⟩
  ·subst h0;obtain rfl:xs = []:=List.eq_nil_of_length_eq_zero (by omega);obtain⟨g,cap,w',hr,h2,h3,h4,h5⟩:=run_append_lies (P:=P) w t ty base e i z s bytes ht hi hz eA fA kA jA (.slice none 0 0) 0 [] ⟨by simp,Or.inl ⟨rfl,rfl⟩⟩ ad m c bA iA dA h1 hm gA aA cA w.heap.size rfl;refine⟨g,cap,w',none,?_,h2,h3,Or.inl rfl,Or.inr ?_,h5⟩
   ·rw[zDM t ty e i a ad m c ht hi hm (by rw[fA];simpa using aA)];exact hr
   ·rcases h4 with h4 | h4
    ·cases h4
    ·exact h4
  ·omega
 ·obtain⟨g,cap,w',hr,h2,h3,h4,h5⟩:=run_append_lies (P:=P) w t ty base e i z s bytes ht hi hz eA fA kA jA v n xs (h.owns h0 hl (hb h0) (hc h0)) ad m c bA iA dA h1 hm gA aA cA w.heap.size rfl;exact⟨g,cap,w',v.ownBlock,hr,h2,h3,Or.inr ⟨h0,rfl⟩,h4.imp (fun h=>⟨h0,h⟩) id,h5⟩
def za(w:World)(b:Nat)(v0 v1 v2 v3 v4 v5:Value):Prop:=zT w b 0 v0/\zT w b 1 v1/\zT w b 2 v2/\zT w b 3 v3/\zT w b 4 v4/\zT w b 5 v5
theorem za.zOp{w w':World}{b:Nat}{v0 v1 v2 v3 v4 v5:Value}(h:za w b v0 v1 v2 v3 v4 v5)(t:Below w.heap.size w w'):za w' b v0 v1 v2 v3 v4 v5:=⟨h.1.zOp t,h.2.1.zOp t,h.2.2.1.zOp t,h.2.2.2.1.zOp t,h.2.2.2.2.1.zOp t,h.2.2.2.2.2.zOp t⟩
theorem za.zOr{S:Nat->Prop}{w w':World}{b:Nat}{v0 v1 v2 v3 v4 v5:Value}(h:za w b v0 v1 v2 v3 v4 v5)(t:zE S w w')(hs:¬S b):za w' b v0 v1 v2 v3 v4 v5:=⟨h.1.zOr t hs,h.2.1.zOr t hs,h.2.2.1.zOr t hs,h.2.2.2.1.zOr t hs,h.2.2.2.2.1.zOr t hs,h.2.2.2.2.2.zOr t hs⟩
theorem za.zOt(w:World)(v0 v1 v2 v3 v4 v5:Value)(t:TypeId):za (w.alloc (.cells #[v0,v1,v2,v3,v4,v5] t)) w.heap.size v0 v1 v2 v3 v4 v5:=by
 have hb:(w.alloc (.cells #[v0,v1,v2,v3,v4,v5] t)).heap[w.heap.size]?=some (.cells #[v0,v1,v2,v3,v4,v5] t):=heap_alloc_new _ _;exact⟨zL hb rfl,zL hb rfl,zL hb rfl,zL hb rfl,zL hb rfl,zL hb rfl⟩
abbrev put6(w:World)(b:Nat)(u0 u1 u2 u3 u4 u5:Value):World:=(((((w.setCell ⟨b,0,none⟩ u0).setCell ⟨b,1,none⟩ u1).setCell ⟨b,2,none⟩ u2).setCell ⟨b,3,none⟩ u3).setCell ⟨b,4,none⟩ u4).setCell ⟨b,5,none⟩ u5
theorem za.put{w:World}{b:Nat}{v0 v1 v2 v3 v4 v5:Value}(h:za w b v0 v1 v2 v3 v4 v5)(u0 u1 u2 u3 u4 u5:Value):za (put6 w b u0 u1 u2 u3 u4 u5) b u0 u1 u2 u3 u4 u5:=by
 obtain⟨h0,h1,h2,h3,h4,h5⟩:=h;refine⟨?_,?_,?_,?_,?_,?_⟩
 ·exact(((((h0.set _).zOq _ (Or.inr (by omega))).zOq _ (Or.inr (by omega))).zOq _ (Or.inr (by omega))).zOq _ (Or.inr (by omega))).zOq _ (Or.inr (by omega))
 ·exact(((((h1.zOq _ (Or.inr (by omega))).set _).zOq _ (Or.inr (by omega))).zOq _ (Or.inr (by omega))).zOq _ (Or.inr (by omega))).zOq _ (Or.inr (by omega))
 ·exact(((((h2.zOq _ (Or.inr (by omega))).zOq _ (Or.inr (by omega))).set _).zOq _ (Or.inr (by omega))).zOq _ (Or.inr (by omega))).zOq _ (Or.inr (by omega))
 ·exact(((((h3.zOq _ (Or.inr (by omega))).zOq _ (Or.inr (by omega))).zOq _ (Or.inr (by omega))).set _).zOq _ (Or.inr (by omega))).zOq _ (Or.inr (by omega))
 ·exact(((((h4.zOq _ (Or.inr (by omega))).zOq _ (Or.inr (by omega))).zOq _ (Or.inr (by omega))).zOq _ (Or.inr (by omega))).set _).zOq _ (Or.inr (by omega))
 ·exact(((((h5.zOq _ (Or.inr (by omega))).zOq _ (Or.inr (by omega))).zOq _ (Or.inr (by omega))).zOq _ (Or.inr (by omega))).zOq _ (Or.inr (by omega))).set _
theorem zE.put6(w:World)(b:Nat)(u0 u1 u2 u3 u4 u5:Value):zE (fun k=>k=b) w (put6 w b u0 u1 u2 u3 u4 u5):=
 (((((zE.put w b 0 u0).trans (zE.put _ b 1 u1)).trans (zE.put _ b 2 u2)).trans (zE.put _ b 3 u3)).trans (zE.put _ b 4 u4)).trans (zE.put _ b 5 u5)
def zAg(w:World)(S:Nat->Prop)(v:Value)(n:Nat)(f:Nat->zu):Prop:=∃(bs:Nat) (kb:Nat->Nat) (kv:Nat->Value),qK w bs kb kv v n f/\qy kb n f/\(∀k,yo bs kb n f k->S k)/\zAc w 102 6 v n/\∀i,i<n->zAc w 99 2 (kv i) (f i).dn
def zAE(w:World)(S:Nat->Prop)(v:Value)(n:Nat)(f:Nat->zd):Prop:=∃(bs:Nat) (kb:Nat->Nat) (kv:Nat->Value),qI w bs kb kv v n f/\yF kb n f/\(∀k,zAZ bs kb n f k->S k)/\zAc w 111 8 v n/\∀i,i<n->zAc w 99 2 (kv i) (f i).dn
theorem zAg.isIn{w:World}{S:Nat->Prop}{v:Value}{n:Nat}{f:Nat->zu}(h:zAg w S v n f):zAd w S v n f:=by
 obtain⟨bs,kb,kv,h1,h2,h3,_⟩:=h;exact⟨bs,kb,kv,h1,h2,h3⟩
theorem zAE.isIn{w:World}{S:Nat->Prop}{v:Value}{n:Nat}{f:Nat->zd}(h:zAE w S v n f):yp w S v n f:=by
 obtain⟨bs,kb,kv,h1,h2,h3,_⟩:=h;exact⟨bs,kb,kv,h1,h2,h3⟩
theorem zAg.zOp{w w':World}{S:Nat->Prop}{v:Value}{n:Nat}{f:Nat->zu}(h:zAg w S v n f)(t:Below w.heap.size w w'):zAg w' S v n f:=by
 obtain⟨bs,kb,kv,h1,h2,h3,h4,h5⟩:=h;exact⟨bs,kb,kv,h1.zOp t,h2,h3,h4.zOp t,fun i hi=>(h5 i hi).zOp t⟩
theorem zAE.zOp{w w':World}{S:Nat->Prop}{v:Value}{n:Nat}{f:Nat->zd}(h:zAE w S v n f)(t:Below w.heap.size w w'):zAE w' S v n f:=by
 obtain⟨bs,kb,kv,h1,h2,h3,h4,h5⟩:=h;exact⟨bs,kb,kv,h1.zOp t,h2,h3,h4.zOp t,fun i hi=>(h5 i hi).zOp t⟩
theorem zAg.set{w:World}{S:Nat->Prop}{v:Value}{n:Nat}{f:Nat->zu}(h:zAg w S v n f)(b o:Nat)(u:Value)(hb:¬S b):zAg (w.setCell ⟨b,o,none⟩ u) S v n f:=by
 obtain⟨bs,kb,kv,h1,h2,h3,h4,h5⟩:=h;exact⟨bs,kb,kv,h1.zOr (zE.put w b o u) (fun k hk e=>hb (e▸h3 k hk)),h2,h3,h4.set _ _,fun i hi=>(h5 i hi).set _ _⟩
theorem zAE.set{w:World}{S:Nat->Prop}{v:Value}{n:Nat}{f:Nat->zd}(h:zAE w S v n f)(b o:Nat)(u:Value)(hb:¬S b):zAE (w.setCell ⟨b,o,none⟩ u) S v n f:=by
 obtain⟨bs,kb,kv,h1,h2,h3,h4,h5⟩:=h;exact⟨bs,kb,kv,h1.zOr (zE.put w b o u) (fun k hk e=>hb (e▸h3 k hk)),h2,h3,h4.set _ _,fun i hi=>(h5 i hi).set _ _⟩
theorem zAg.put6{w:World}{S:Nat->Prop}{v:Value}{n:Nat}{f:Nat->zu}(h:zAg w S v n f)(b:Nat)(u0 u1 u2 u3 u4 u5:Value)(hb:¬S b):zAg (put6 w b u0 u1 u2 u3 u4 u5) S v n f:=(((((h.set b 0 u0 hb).set b 1 u1 hb).set b 2 u2 hb).set b 3 u3 hb).set b 4 u4 hb).set b 5 u5 hb
theorem zAE.put6{w:World}{S:Nat->Prop}{v:Value}{n:Nat}{f:Nat->zd}(h:zAE w S v n f)(b:Nat)(u0 u1 u2 u3 u4 u5:Value)(hb:¬S b):zAE (put6 w b u0 u1 u2 u3 u4 u5) S v n f:=(((((h.set b 0 u0 hb).set b 1 u1 hb).set b 2 u2 hb).set b 3 u3 hb).set b 4 u4 hb).set b 5 u5 hb
structure zCE (w:World) (P Q R:Nat->Prop) (v0 v1 v2 v3:Value) (W:zH):Prop where
 zOv:qN w P v0 v1 W.zOv
 zOy:zAg w Q v2 W.sn W.zOy
 zOw:zAE w R v3 W.pn W.zOw
 pq:∀k,P k->¬Q k
 pr:∀k,P k->¬R k
 qr:∀k,Q k->¬R k
def zAj(w:World)(lo hi:Nat)(v0 v1 v2 v3:Value)(W:zH):Prop:=∃P Q R,zCE w P Q R v0 v1 v2 v3 W/\∀k,P k\/Q k\/R k->lo<=k/\k<hi
theorem zCE.isIn{w:World}{P Q R:Nat->Prop}{v0 v1 v2 v3:Value}{W:zH}(h:zCE w P Q R v0 v1 v2 v3 W):zAT w P Q R v0 v1 v2 v3 W:=⟨h.zOv,h.zOy.isIn,h.zOw.isIn,h.pq,h.pr,h.qr⟩
theorem zAj.own{w:World}{lo hi:Nat}{v0 v1 v2 v3:Value}{W:zH}(h:zAj w lo hi v0 v1 v2 v3 W):zf w lo hi v0 v1 v2 v3 W:=by
 obtain⟨P,Q,R,h,hl⟩:=h;exact⟨P,Q,R,h.isIn,hl⟩
theorem zCE.zOp{w w':World}{P Q R:Nat->Prop}{v0 v1 v2 v3:Value}{W:zH}(h:zCE w P Q R v0 v1 v2 v3 W)(t:Below w.heap.size w w'):zCE w' P Q R v0 v1 v2 v3 W:=⟨h.zOv.zOp t,h.zOy.zOp t,h.zOw.zOp t,h.pq,h.pr,h.qr⟩
theorem zAj.zOp{w w':World}{lo hi:Nat}{v0 v1 v2 v3:Value}{W:zH}(h:zAj w lo hi v0 v1 v2 v3 W)(t:Below w.heap.size w w'):zAj w' lo hi v0 v1 v2 v3 W:=by
 obtain⟨P,Q,R,h,hl⟩:=h;exact⟨P,Q,R,h.zOp t,hl⟩
theorem zAj.form{w:World}{lo hi:Nat}{v0 v1 v2 v3:Value}{W:zH}(h:zAj w lo hi v0 v1 v2 v3 W):∃a0 c0 a1 c1 a2 c2 a3 c3,v0 = .slice a0 W.zOv.n c0/\v1 = .slice a1 W.zOv.hn c1/\v2 = .slice a2 W.sn c2/\v3 = .slice a3 W.pn c3:=h.own.form
def zLG(W:zH)(w:World)(e:Ending)(w':World):Prop:=∃v0 v1 v2 v3,e = .returned (qT v0 v1 v2 v3 W)/\zAj w' w.heap.size w'.heap.size v0 v1 v2 v3 W/\Below w.heap.size w w'
end Go.Proofs.YtgabgheflgjgiaaGreatDoor
