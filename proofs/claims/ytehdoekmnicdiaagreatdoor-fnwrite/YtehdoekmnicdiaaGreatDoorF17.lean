/- A part of the proof. -/
import Derived.Test.YtehdoekmnicdiaaGreatDoorF16
import Derived.WideKeyPair
import Derived.DeepKeys4
set_option linter.unusedVariables false
set_option maxRecDepth 20000
set_option maxHeartbeats 4000000
namespace Go.Proofs.YtehdoekmnicdiaaGreatDoor
open Go.RowKit Go.Maps
def Df(W:A4)(i:Nat):Prop:=Dy (A8 W i).dn (A8 W i).ds (A8 W i).db (BX (oldM W (A8 W i)) (treeM W (A8 W i)))
structure BE (W:A4):Prop where
 right:AY W.pool
 Ap:EG W
 lines:∀i,i<W.sn->F3 W (W.A1 i).name (W.A1 i).A6 (W.A1 i).origin
 A2:∀i,i<W.pn->Ay W.pool (W.A2 i).rs (W.A2 i).rb
 A1:∀i,i<W.sn->Ay W.pool (W.A1 i).rs (W.A1 i).rb/\Df W (W.pn+i)
 dead:∀i,i<W.pn->Df W i
 reach:QC W
 born:∀i,i<memN W->Ek W i
 C7:Ig W
variable{W:A4}
theorem LU(h:∀k,k<W.pn->Ay W.pool (W.A2 k).rs (W.A2 k).rb)(x:Int):Ay W.pool (AI W x).rs (AI W x).rb:=by
 by_cases b:∃k,Be W x k
 ·obtain⟨k,a⟩:=b;rw[Dv a];exact h k a.1
 ·have:AI W x=DH:=by
   unfold AI;rw[dif_neg b]
  rw[this];exact Or.inl ⟨rfl,rfl⟩
theorem O5(f:AY W.pool)(b:EG W)(c:∀i,i<W.pn->Ay W.pool (W.A2 i).rs (W.A2 i).rb)(d:∀i,i<W.sn->Ay W.pool (W.A1 i).rs (W.A1 i).rb):Ej W where
 right:=f
 ids:=b.EM.less
 tree:=fun i hi=>by
  by_cases a:i<W.pn
  ·rw[Co a];exact c i a
  ·have e:=Cp W (i - W.pn);rw[show W.pn+(i - W.pn)=i by omega]at e;rw[e];unfold memN at hi;exact d _ (by omega)
 time:=fun i hi=>by
  by_cases a:i<W.pn
  ·rw[Co a];have:1<=(W.A2 i).time:=(b.2.2.2.2.2 i a).1.2.2.1;show 0<=(W.A2 i).time;omega
  ·have e:=Cp W (i - W.pn);rw[show W.pn+(i - W.pn)=i by omega]at e;rw[e];have:1<=W.time:=b.1.1;show 0<=W.time;omega
structure Em (w:World) (bs o kb:Nat) (kv:Value) (s:Ad):Prop where
 c0:AN w bs o (.string s.name)
 c1:AN w bs (o+1) (.int .i64 s.origin)
 c2:AN w bs (o+2) (.int .i64 s.A6)
 c3:AN w bs (o+3) (.int .i64 s.rs)
 c4:AN w bs (o+4) (.int .i64 s.rb)
 c5:AN w bs (o+5) kv
 dead:Ca w kb kv s.dn s.ds s.db
 CI:s.name.size<=maxLen
 C7:0<s.dn->kb≠bs
variable{S:Nat->Prop}{w w':World}{bs o kb:Nat}{kv:Value}{s:Ad}
theorem Em.AD(h:Em w bs o kb kv s)(t:AE S w w')(a:¬S bs)(b:0<s.dn->¬S kb):Em w' bs o kb kv s:=
 ⟨h.c0.AD t a,h.c1.AD t a,h.c2.AD t a,h.c3.AD t a,h.c4.AD t a,h.c5.AD t a,h.dead.AD t b,h.CI,h.C7⟩
theorem Em.A0(h:Em w bs o kb kv s)(t:Below w.heap.size w w'):Em w' bs o kb kv s:=
 h.AD (AE.EH (S:=fun _=>False) t) (fun h=>h) (fun _ h=>h)
variable{lo hi:Nat}
theorem Em.cells(h:Em w bs o kb kv s)(a:0<s.dn->lo<=kb/\kb<hi):I6 w bs o lo hi kv s:=
 ⟨h.c0.1,h.c1.1,h.c2.1,h.c3.1,h.c4.1,h.c5.1,h.dead.at a,h.CI⟩
def EV(w:World)(bs:Nat)(kb:Nat->Nat)(kv:Nat->Value)(v:Value)(n:Nat)(f:Nat->Ad):Prop:=
 n<=maxLen/\∃a cap,v = .slice a n cap/\n<=cap/\(0<n->∃off,a=some ⟨bs,off,none⟩/\∀i,i<n->Em w bs (off+i*6) (kb i) (kv i) (f i))
def Gu(bs:Nat)(kb:Nat->Nat)(n:Nat)(f:Nat->Ad)(k:Nat):Prop:=(0<n/\k=bs)\/∃i,i<n/\0<(f i).dn/\k=kb i
def OC(kb:Nat->Nat)(n:Nat)(f:Nat->Ad):Prop:=∀i j,i<n->j<n->i≠j->0<(f i).dn->0<(f j).dn->kb i≠kb j
variable{kb:Nat->Nat}{kv:Nat->Value}{v:Value}{n:Nat}{f:Nat->Ad}
theorem EV.AD(h:EV w bs kb kv v n f)(t:AE S w w')(hs:∀k,Gu bs kb n f k->¬S k):EV w' bs kb kv v n f:=by
 obtain⟨c,a,cap,hv,b,g⟩:=h;refine⟨c,a,cap,hv,b,fun hn=>?_⟩;obtain⟨off,e,d⟩:=g hn;exact⟨off,e,fun i hi=>(d i hi).AD t (hs _ (Or.inl ⟨hn,rfl⟩)) (fun h=>hs _ (Or.inr ⟨i,hi,h,rfl⟩))⟩
theorem EV.A0(h:EV w bs kb kv v n f)(t:Below w.heap.size w w'):EV w' bs kb kv v n f:=
 h.AD (AE.EH (S:=fun _=>False) t) (fun _ _ h=>h)
theorem EV.at(h:EV w bs kb kv v n f)(c:∀k,Gu bs kb n f k->lo<=k/\k<hi):EB w lo hi v n f:=by
 obtain⟨e,a,cap,hv,b,l⟩:=h;refine⟨e,a,cap,hv,b,fun hn=>?_⟩;obtain⟨off,j,g⟩:=l hn;have d:=c _ (Or.inl ⟨hn,rfl⟩);exact⟨bs,off,j,d.1,d.2,fun i hi=>⟨_,(g i hi).cells (fun h=>c _ (Or.inr ⟨i,hi,h,rfl⟩))⟩⟩
theorem zEH:(Tryz.prog.info? 41).map (fun i=>(i.zero,i.size,i.bytes))=some (some (.agg #[.string ⟨#[]⟩,.int .i64 0,.int .i64 0,.int .i64 0,.int .i64 0,.slice none 0 0]),6,72):=by kernel_rfl
structure KR (w:World) (bs o kb:Nat) (kv:Value) (s:Ae):Prop where
 c0:AN w bs o (.int .i64 s.id)
 c1:AN w bs (o+1) (.string s.name)
 c2:AN w bs (o+2) (.string s.set)
 c3:AN w bs (o+3) (.int .i64 s.A6)
 c4:AN w bs (o+4) (.int .i64 s.time)
 c5:AN w bs (o+5) (.int .i64 s.rs)
 c6:AN w bs (o+6) (.int .i64 s.rb)
 c7:AN w bs (o+7) kv
 dead:Ca w kb kv s.dn s.ds s.db
 CI:s.name.size<=maxLen/\s.set.size<=maxLen
 C7:0<s.dn->kb≠bs
theorem KR.AD{kb:Nat}{kv:Value}{s:Ae}(h:KR w bs o kb kv s)(t:AE S w w')(a:¬S bs)(b:0<s.dn->¬S kb):KR w' bs o kb kv s:=
 ⟨h.c0.AD t a,h.c1.AD t a,h.c2.AD t a,h.c3.AD t a,h.c4.AD t a,h.c5.AD t a,h.c6.AD t a,h.c7.AD t a,h.dead.AD t b,h.CI,h.C7⟩
theorem KR.cells{kb:Nat}{kv:Value}{s:Ae}(h:KR w bs o kb kv s)(a:0<s.dn->lo<=kb/\kb<hi):ID w bs o lo hi kv s:=
 ⟨h.c0.1,h.c1.1,h.c2.1,h.c3.1,h.c4.1,h.c5.1,h.c6.1,h.c7.1,h.dead.at a,h.CI⟩
def G8(w:World)(bs:Nat)(kb:Nat->Nat)(kv:Nat->Value)(v:Value)(n:Nat)(f:Nat->Ae):Prop:=
 n<=maxLen/\∃a cap,v = .slice a n cap/\n<=cap/\(0<n->∃off,a=some ⟨bs,off,none⟩/\∀i,i<n->KR w bs (off+i*8) (kb i) (kv i) (f i))
def KO(bs:Nat)(kb:Nat->Nat)(n:Nat)(f:Nat->Ae)(k:Nat):Prop:=(0<n/\k=bs)\/∃i,i<n/\0<(f i).dn/\k=kb i
def RH(kb:Nat->Nat)(n:Nat)(f:Nat->Ae):Prop:=∀i j,i<n->j<n->i≠j->0<(f i).dn->0<(f j).dn->kb i≠kb j
variable{f:Nat->Ae}
theorem G8.AD(h:G8 w bs kb kv v n f)(t:AE S w w')(hs:∀k,KO bs kb n f k->¬S k):G8 w' bs kb kv v n f:=by
 obtain⟨c,a,cap,hv,b,g⟩:=h;refine⟨c,a,cap,hv,b,fun hn=>?_⟩;obtain⟨off,e,d⟩:=g hn;exact⟨off,e,fun i hi=>(d i hi).AD t (hs _ (Or.inl ⟨hn,rfl⟩)) (fun h=>hs _ (Or.inr ⟨i,hi,h,rfl⟩))⟩
theorem G8.A0(h:G8 w bs kb kv v n f)(t:Below w.heap.size w w'):G8 w' bs kb kv v n f:=
 h.AD (AE.EH (S:=fun _=>False) t) (fun _ _ h=>h)
theorem G8.at(h:G8 w bs kb kv v n f)(c:∀k,KO bs kb n f k->lo<=k/\k<hi):EJ w lo hi v n f:=by
 obtain⟨e,a,cap,hv,b,l⟩:=h;refine⟨e,a,cap,hv,b,fun hn=>?_⟩;obtain⟨off,j,g⟩:=l hn;have d:=c _ (Or.inl ⟨hn,rfl⟩);exact⟨bs,off,j,d.1,d.2,fun i hi=>⟨_,(g i hi).cells (fun h=>c _ (Or.inr ⟨i,hi,h,rfl⟩))⟩⟩
theorem zAI:(Tryz.prog.info? 83).map (fun i=>(i.zero,i.size,i.bytes))=some (some (.agg #[.int .i64 0,.string ⟨#[]⟩,.string ⟨#[]⟩,.int .i64 0,.int .i64 0,.int .i64 0,.int .i64 0,.slice none 0 0]),8,96):=by kernel_rfl
def GW(w:World)(S:Nat->Prop)(v:Value)(n:Nat)(f:Nat->Ad):Prop:=∃(bs:Nat) (kb:Nat->Nat) (kv:Nat->Value),EV w bs kb kv v n f/\OC kb n f/\∀k,Gu bs kb n f k->S k
def Fd(w:World)(S:Nat->Prop)(v:Value)(n:Nat)(f:Nat->Ae):Prop:=∃(bs:Nat) (kb:Nat->Nat) (kv:Nat->Value),G8 w bs kb kv v n f/\RH kb n f/\∀k,KO bs kb n f k->S k
variable{T:Nat->Prop}
theorem GW.AD{f:Nat->Ad}(h:GW w S v n f)(t:AE T w w')(hs:∀k,S k->¬T k):GW w' S v n f:=by
 obtain⟨b,g,kv,c,d,a⟩:=h;exact⟨b,g,kv,c.AD t (fun k e=>hs k (a k e)),d,a⟩
theorem Fd.AD(h:Fd w S v n f)(t:AE T w w')(hs:∀k,S k->¬T k):Fd w' S v n f:=by
 obtain⟨b,g,kv,c,d,a⟩:=h;exact⟨b,g,kv,c.AD t (fun k e=>hs k (a k e)),d,a⟩
theorem Fd.A0(h:Fd w S v n f)(t:Below w.heap.size w w'):Fd w' S v n f:=by
 obtain⟨a,e,kv,b,c,d⟩:=h;exact⟨a,e,kv,b.A0 t,c,d⟩
theorem GW.at{f:Nat->Ad}(h:GW w S v n f)(hs:∀k,S k->lo<=k/\k<hi):EB w lo hi v n f:=by
 obtain⟨d,g,kv,a,e,b⟩:=h;exact a.at (fun k c=>hs k (b k c))
theorem Fd.at(h:Fd w S v n f)(hs:∀k,S k->lo<=k/\k<hi):EJ w lo hi v n f:=by
 obtain⟨d,g,kv,a,e,b⟩:=h;exact a.at (fun k c=>hs k (b k c))
theorem GW.form{f:Nat->Ad}(h:GW w S v n f):∃a c,v = .slice a n c/\n<=c:=by
 obtain⟨d,i,kv,⟨_,a,c,hv,b,_⟩,e,g⟩:=h;exact⟨a,c,hv,b⟩
theorem Fd.form(h:Fd w S v n f):∃a c,v = .slice a n c/\n<=c:=by
 obtain⟨d,i,kv,⟨_,a,c,hv,b,_⟩,e,g⟩:=h;exact⟨a,c,hv,b⟩
variable{v0 v1:Value}
theorem DP.form{p:A5}(h:DP w S v0 v1 p):∃a c b c',v0 = .slice a p.n c/\v1 = .slice b p.hn c':=by
 obtain⟨f,k,l,kv,⟨_,a,c,d,_⟩,g,⟨_,b,c',e,_,_⟩,i,j⟩:=h;exact⟨a,c,b,c',d,e⟩
structure Ll (w:World) (P Q R:Nat->Prop) (v0 v1 v2 v3:Value) (W:A4):Prop where
 pool:DP w P v0 v1 W.pool
 A1:GW w Q v2 W.sn W.A1
 A2:Fd w R v3 W.pn W.A2
 pq:∀k,P k->¬Q k
 pr:∀k,P k->¬R k
 qr:∀k,Q k->¬R k
def EY(w:World)(lo hi:Nat)(v0 v1 v2 v3:Value)(W:A4):Prop:=∃P Q R,Ll w P Q R v0 v1 v2 v3 W/\∀k,P k\/Q k\/R k->lo<=k/\k<hi
variable{v2 v3:Value}
theorem EY.at(h:EY w lo hi v0 v1 v2 v3 W):CE w lo hi v0 v1 v2 v3 W:=by
 obtain⟨P,Q,R,h,b⟩:=h;exact⟨h.pool.at (fun k a=>b k (Or.inl a)),h.A1.at (fun k a=>b k (Or.inr (Or.inl a))),h.A2.at (fun k a=>b k (Or.inr (Or.inr a)))⟩
theorem Ll.AD{P Q R:Nat->Prop}(h:Ll w P Q R v0 v1 v2 v3 W)(t:AE T w w')(hs:∀k,P k\/Q k\/R k->¬T k):Ll w' P Q R v0 v1 v2 v3 W:=
 ⟨h.pool.AD t (fun k a=>hs k (Or.inl a)),h.A1.AD t (fun k a=>hs k (Or.inr (Or.inl a))),h.A2.AD t (fun k a=>hs k (Or.inr (Or.inr a))),h.pq,h.pr,h.qr⟩
theorem EY.AD(h:EY w lo hi v0 v1 v2 v3 W)(t:AE S w w')(hs:∀k,S k->k<lo\/hi<=k):EY w' lo hi v0 v1 v2 v3 W:=by
 obtain⟨P,Q,R,h,a⟩:=h;exact⟨P,Q,R,h.AD t (fun k b c=>by have:=a k b;have:=hs k c;omega),a⟩
theorem EY.wide{lo' hi':Nat}(h:EY w lo hi v0 v1 v2 v3 W)(c:lo'<=lo)(d:hi<=hi'):EY w lo' hi' v0 v1 v2 v3 W:=by
 obtain⟨P,Q,R,h,b⟩:=h;exact⟨P,Q,R,h,fun k a=>by have:=b k a;omega⟩
theorem EY.form(h:EY w lo hi v0 v1 v2 v3 W):∃a c0 b c1 c e d c3,v0 = .slice a W.pool.n c0/\v1 = .slice b W.pool.hn c1/\v2 = .slice c W.sn e/\v3 = .slice d W.pn c3:=by
 obtain⟨P,Q,R,h,j⟩:=h;obtain⟨a,c0,b,c1,e0,f⟩:=h.pool.form;obtain⟨c,e,g,-⟩:=h.A1.form;obtain⟨d,c3,i,-⟩:=h.A2.form;exact⟨a,c0,b,c1,c,e,d,c3,e0,f,g,i⟩
theorem CE.form(h:CE w lo hi v0 v1 v2 v3 W):∃a c0 b c1 c e d c3,v0 = .slice a W.pool.n c0/\v1 = .slice b W.pool.hn c1/\v2 = .slice c W.sn e/\v3 = .slice d W.pn c3:=by
 obtain⟨a,c0,b,c1,e0,f⟩:=h.pool.form;obtain⟨-,c,e,g,-⟩:=h.A1;obtain⟨-,d,c3,i,-⟩:=h.A2;exact⟨a,c0,b,c1,c,e,d,c3,e0,f,g,i⟩
def Ty(f:Nat->Ad)(cv:Nat->Value)(i r:Nat):Value:=
 match r with
 | 0=>.string (f i).name
 | 1=>.int .i64 (f i).origin
 | 2=>.int .i64 (f i).A6
 | 3=>.int .i64 (f i).rs
 | 4=>.int .i64 (f i).rb
 | _=>cv i
def G0(f:Nat->Ad)(cv:Nat->Value)(n:Nat):List Value:=(List.range (n*6)).map fun j=>Ty f cv (j / 6) (j % 6)
theorem OE(f:Nat->Ad)(cv:Nat->Value)(n:Nat):(G0 f cv n).length=n*6:=by simp[G0]
theorem Jf(f:Nat->Ad)(cv:Nat->Value)(n:Nat){i r:Nat}(hi:i<n)(c:r<6):(G0 f cv n)[i*6+r]?=some (Ty f cv i r):=by
 have h:i*6+r<n*6:=by omega
 have a:(i*6+r) / 6=i:=by omega
 have b:(i*6+r) % 6=r:=by omega
 simp[G0,h,a,b]
theorem Ql(f:Nat->Ad)(cv:Nat->Value)(n:Nat)(h:∀i,i<n->(cv i).oneCell'=true):∀u∈G0 f cv n,u.oneCell'=true:=by
 intro u a;unfold G0 at a;obtain⟨j,b,rfl⟩:=List.mem_map.1 a;have c:=List.mem_range.1 b;have hi:j / 6<n:=by omega
 have d:j % 6<6:=by omega
 generalize j % 6=r at d ⊢;rcases r with _ | _ | _ | _ | _ | _<;>first | rfl | exact h _ hi
def F5(w:World)(b o:Nat)(s:Ad)(vd:Value):Prop:=AN w b o (.string s.name)/\AN w b (o+1) (.int .i64 s.origin)/\AN w b (o+2) (.int .i64 s.A6)/\AN w b (o+3) (.int .i64 s.rs)/\AN w b (o+4) (.int .i64 s.rb)/\AN w b (o+5) vd
variable{b:Nat}{vd:Value}
theorem F5.AD(h:F5 w b o s vd)(t:AE S w w')(hs:¬S b):F5 w' b o s vd:=by
 obtain⟨a,c,d,e,f,g⟩:=h;exact⟨a.AD t hs,c.AD t hs,d.AD t hs,e.AD t hs,f.AD t hs,g.AD t hs⟩
theorem F5.A0(h:F5 w b o s vd)(t:Below w.heap.size w w'):F5 w' b o s vd:=
 h.AD (AE.EH (S:=fun _=>False) t) (fun h=>h)
theorem F5.set(h:F5 w b o s vd)(u:Value):F5 (w.setCell ⟨b,o+5,none⟩ u) b o s u:=by
 obtain⟨a,c,d,e,f,g⟩:=h;exact⟨a.other _ (Or.inr (by omega)),c.other _ (Or.inr (by omega)),d.other _ (Or.inr (by omega)),e.other _ (Or.inr (by omega)),f.other _ (Or.inr (by omega)),g.set _⟩
theorem F5.other{o':Nat}(h:F5 w b o s vd)(u:Value)(a:∀r,r<6->o'≠o+r):F5 (w.setCell ⟨b,o',none⟩ u) b o s vd:=by
 obtain⟨c,d,e,f,g,i⟩:=h;exact⟨c.other _ (Or.inr (a 0 (by omega))),d.other _ (Or.inr (a 1 (by omega))),e.other _ (Or.inr (a 2 (by omega))),f.other _ (Or.inr (a 3 (by omega))),g.other _ (Or.inr (a 4 (by omega))),i.other _ (Or.inr (a 5 (by omega)))⟩
structure DU (wr:World) (bs L n k:Nat) (f:Nat->Ad) (kb:Nat->Nat) (kv cv:Nat->Value):Prop where
 Dw:∀j,j<n->F5 wr bs (j*6) (f j) (if j<k then kv j else cv j)
 dead:∀j,j<k->Ca wr (kb j) (kv j) (f j).dn (f j).ds (f j).db
 C8:∀j,j<k->0<(f j).dn->L<=kb j/\kb j<wr.heap.size
 C7:OC kb k f
 lt:0<n->bs<L
variable{wr:World}{L k:Nat}{f:Nat->Ad}{cv:Nat->Value}
theorem DU.A0(h:DU wr bs L n k f kb kv cv)(t:Below wr.heap.size wr w'):DU w' bs L n k f kb kv cv:=
 ⟨fun j a=>(h.Dw j a).A0 t,fun j a=>(h.dead j a).A0 t,fun j a b=>by have:=h.C8 j a b;have:=t.size;omega,h.C7,h.lt⟩
theorem DU.AD(h:DU wr bs L n k f kb kv cv)(t:AE S wr w')(hs:∀q,S q->(0<n->q≠bs)/\q<L)(c:k<=n):DU w' bs L n k f kb kv cv:=
 ⟨fun j a=>(h.Dw j a).AD t (fun e=>(hs _ e).1 (by omega) rfl),fun j a=>(h.dead j a).AD t (fun b e=>by have:=h.C8 j a b;have:=(hs _ e).2;omega),fun j a b=>by have:=h.C8 j a b;have:=t.size;omega,h.C7,h.lt⟩
variable{w1:World}
theorem DU.next(h:DU wr bs L n k f kb kv cv)(A:k<n)(z:L<=wr.heap.size)(t:Below wr.heap.size wr w1)
 (x:Ca w1 b v (f k).dn (f k).ds (f k).db) (l:0<(f k).dn->wr.heap.size<=b/\b<w1.heap.size) :
 DU (w1.setCell ⟨bs,k*6+5,none⟩ v) bs L n (k+1) f (fun j=>if j=k then b else kb j) (fun j=>if j=k then v else kv j) cv:=by
 have g:=h.A0 t;have w:=h.lt (by omega);refine⟨fun j m=>?_,fun j m=>?_,fun j m c=>?_,fun i j hi m q o p=>?_,h.lt⟩
 ·have s:=g.Dw j m;by_cases e:j=k
  ·subst e;rw[if_pos (by omega),if_pos rfl];exact s.set v
  ·rw[if_neg e];have u:(if j<k+1 then kv j else cv j)=if j<k then kv j else cv j:=by
    by_cases a:j<k
    ·rw[if_pos a,if_pos (by omega)]
    ·rw[if_neg a,if_neg (by omega)]
   rw[u];exact s.other v (fun r B=>by omega)
 ·by_cases e:j=k
  ·subst e;simp only[if_true];exact x.AD (AE.put _ _ _ _) (fun c y=>by have:=l c;omega)
  ·simp only[if_neg e];exact(g.dead j (by omega)).AD (AE.put _ _ _ _) (fun c y=>by have:=g.C8 j (by omega) c;omega)
 ·simp only[World.size_setCell];by_cases e:j=k
  ·subst e;rw[if_pos rfl];have:=l c;omega
  ·rw[if_neg e];have:=g.C8 j (by omega) c;omega
 ·show(if i=k then b else kb i)≠(if j=k then b else kb j);by_cases d:i=k
  ·by_cases a:j=k
   ·omega
   ·rw[if_pos d,if_neg a];subst d;have:=l o;have:=h.C8 j (by omega) p;omega
  ·by_cases a:j=k
   ·rw[if_neg d,if_pos a];subst a;have:=l p;have:=h.C8 i (by omega) o;omega
   ·rw[if_neg d,if_neg a];exact h.C7 i j (by omega) (by omega) q o p
variable{c:Nat}{a:Option Addr}
theorem DU.own(h:DU wr bs L n n f kb kv cv)(q:n<=maxLen)(m:0<n->a=some ⟨bs,0,none⟩)(o:n<=c)(hs:∀i,i<n->(f i).name.size<=maxLen):EV wr bs kb kv (.slice a n c) n f:=
 ⟨q,a,c,rfl,o,fun b=>⟨0,m b,fun i hi=>by
  obtain⟨b,g,j,k,l,d⟩:=h.Dw i hi;rw[if_pos hi]at d;rw[Nat.zero_add];exact⟨b,g,j,k,l,d,h.dead i hi,hs i hi,fun p e=>by have:=h.C8 i hi p;have:=h.lt (by omega);omega⟩⟩⟩
theorem DU.turned0(h:DU wr bs L n 0 f kb kv cv)(t:AE S wr w')(hs:∀q,S q->0<n->q≠bs):DU w' bs L n 0 f kb kv cv:=
 ⟨fun j a=>(h.Dw j a).AD t (fun e=>hs _ e (by omega) rfl),fun j a=>absurd a (Nat.not_lt_zero _),fun j a=>absurd a (Nat.not_lt_zero _),h.C7,h.lt⟩
theorem DU.weak{L':Nat}(h:DU wr bs L n 0 f kb kv cv)(b:L<=L'):DU wr bs L' n 0 f kb kv cv:=
 ⟨h.Dw,h.dead,fun j c=>absurd c (Nat.not_lt_zero _),h.C7,fun a=>Nat.lt_of_lt_of_le (h.lt a) b⟩
theorem EB.values(h:EB w lo hi (.slice a n c) n f) :
 ∃cv:Nat->Value,(∀i,i<n->BI w lo hi (cv i) (f i).dn (f i).ds (f i).db/\(f i).name.size<=maxLen)/\
  (0<n->∃b off,a=some ⟨b,off,none⟩/\∀j u,(G0 f cv n)[j]?=some u->w.cell? ⟨b,off+j,none⟩=some u):=by
 obtain⟨_,A,c0,l,_,g⟩:=h;simp only[Value.slice.injEq,true_and]at l;obtain⟨rfl,rfl⟩:=l;by_cases hn:0<n
 ·obtain⟨b,off,o,p,s,t⟩:=g hn;have k:∀i,∃x,i<n->I6 w b (off+i*6) lo hi x (f i):=fun i=>by
   by_cases hi:i<n
   ·obtain⟨vd,hs⟩:=t i hi;exact⟨vd,fun _=>hs⟩
   ·exact⟨.slice none 0 0,fun h=>absurd h hi⟩
  obtain⟨cv,d⟩:=Classical.axiomOfChoice k;refine⟨cv,fun i hi=>⟨(d i hi).dead,(d i hi).CI⟩,fun _=>⟨b,off,o,fun j u m=>?_⟩⟩;have v:j<n*6:=by
   have:=(List.getElem?_eq_some_iff.1 m).1
   rwa [OE]at this
  have hs:=d (j / 6) (by omega);have e:=Jf f cv n (i:=j / 6) (r:=j % 6) (by omega) (by omega);rw[show j / 6*6+j % 6=j by omega,m]at e;have z:j % 6<6:=(by omega);have y:off+j=off+j / 6*6+j % 6:=(by omega);rw[y];generalize j % 6=r at z e ⊢;generalize j / 6=q at hs e ⊢;rcases r with _ | _ | _ | _ | _ | _ | r
  ·cases e;exact hs.c0
  ·cases e;exact hs.c1
  ·cases e;exact hs.c2
  ·cases e;exact hs.c3
  ·cases e;exact hs.c4
  ·cases e;exact hs.c5
  ·omega
 ·exact⟨fun _=>.slice none 0 0,fun i hi=>absurd hi (by omega),fun h=>absurd h hn⟩
theorem Rp{base:Nat}(e:w1.ownsRow base 41 6 v n (G0 f cv n))(L:Nat)(s:w1.heap.size<=L):∃l a c,v = .slice a n c/\n<=c/\(0<n->a=some ⟨l,0,none⟩/\base<=l/\l<w1.heap.size)/\DU w1 l L n 0 f (fun _=>0) cv cv:=by
 obtain⟨q,c1,rfl,k⟩:=Bh e;by_cases m:0<n
 ·obtain⟨g,cap,hv,_,o,p,b⟩:=Fj e m;simp only[Value.slice.injEq,true_and]at hv;obtain⟨rfl,rfl⟩:=hv;refine⟨g,_,_,rfl,k,fun _=>⟨rfl,o,p⟩,fun j d=>?_,fun j d=>absurd d (Nat.not_lt_zero _),fun j d=>absurd d (Nat.not_lt_zero _),fun i j hi=>absurd hi (Nat.not_lt_zero _),fun _=>by omega⟩;rw[if_neg (Nat.not_lt_zero _)];exact⟨b _ _ (Jf f cv n d (r:=0) (by omega)),b _ _ (Jf f cv n d (r:=1) (by omega)),b _ _ (Jf f cv n d (r:=2) (by omega)),b _ _ (Jf f cv n d (r:=3) (by omega)),b _ _ (Jf f cv n d (r:=4) (by omega)),b _ _ (Jf f cv n d (r:=5) (by omega))⟩
 ·exact⟨0,_,_,rfl,k,fun h=>absurd h m,fun j d=>absurd d (by omega),fun j d=>absurd d (Nat.not_lt_zero _),fun j d=>absurd d (Nat.not_lt_zero _),fun i j hi=>absurd hi (Nat.not_lt_zero _),fun h=>absurd h m⟩
def VW(f:Nat->Ae)(cv:Nat->Value)(i r:Nat):Value:=
 match r with
 | 0=>.int .i64 (f i).id
 | 1=>.string (f i).name
 | 2=>.string (f i).set
 | 3=>.int .i64 (f i).A6
 | 4=>.int .i64 (f i).time
 | 5=>.int .i64 (f i).rs
 | 6=>.int .i64 (f i).rb
 | _=>cv i
def FV(f:Nat->Ae)(cv:Nat->Value)(n:Nat):List Value:=(List.range (n*8)).map fun j=>VW f cv (j / 8) (j % 8)
theorem MQ(f:Nat->Ae)(cv:Nat->Value)(n:Nat):(FV f cv n).length=n*8:=by simp[FV]
theorem IF(f:Nat->Ae)(cv:Nat->Value)(n:Nat){i r:Nat}(hi:i<n)(c:r<8):(FV f cv n)[i*8+r]?=some (VW f cv i r):=by
 have h:i*8+r<n*8:=by omega
 have a:(i*8+r) / 8=i:=by omega
 have b:(i*8+r) % 8=r:=by omega
 simp[FV,h,a,b]
theorem Ol(f:Nat->Ae)(cv:Nat->Value)(n:Nat)(h:∀i,i<n->(cv i).oneCell'=true):∀u∈FV f cv n,u.oneCell'=true:=by
 intro u a;unfold FV at a;obtain⟨j,b,rfl⟩:=List.mem_map.1 a;have c:=List.mem_range.1 b;have hi:j / 8<n:=by omega
 have d:j % 8<8:=by omega
 generalize j % 8=r at d ⊢;rcases r with _ | _ | _ | _ | _ | _ | _ | _<;>first | rfl | exact h _ hi
def FA(w:World)(b o:Nat)(s:Ae)(vd:Value):Prop:=AN w b o (.int .i64 s.id)/\AN w b (o+1) (.string s.name)/\AN w b (o+2) (.string s.set)/\AN w b (o+3) (.int .i64 s.A6)/\AN w b (o+4) (.int .i64 s.time)/\AN w b (o+5) (.int .i64 s.rs)/\AN w b (o+6) (.int .i64 s.rb)/\AN w b (o+7) vd
variable{s:Ae}
theorem FA.AD(h:FA w b o s vd)(t:AE S w w')(hs:¬S b):FA w' b o s vd:=by
 obtain⟨a,c,d,e,f,g,i,j⟩:=h;exact⟨a.AD t hs,c.AD t hs,d.AD t hs,e.AD t hs,f.AD t hs,g.AD t hs,i.AD t hs,j.AD t hs⟩
theorem FA.A0(h:FA w b o s vd)(t:Below w.heap.size w w'):FA w' b o s vd:=
 h.AD (AE.EH (S:=fun _=>False) t) (fun h=>h)
theorem FA.set(h:FA w b o s vd)(u:Value):FA (w.setCell ⟨b,o+7,none⟩ u) b o s u:=by
 obtain⟨a,c,d,e,f,g,i,j⟩:=h;exact⟨a.other _ (Or.inr (by omega)),c.other _ (Or.inr (by omega)),d.other _ (Or.inr (by omega)),e.other _ (Or.inr (by omega)),f.other _ (Or.inr (by omega)),g.other _ (Or.inr (by omega)),i.other _ (Or.inr (by omega)),j.set _⟩
theorem FA.other{o':Nat}(h:FA w b o s vd)(u:Value)(a:∀r,r<8->o'≠o+r):FA (w.setCell ⟨b,o',none⟩ u) b o s vd:=by
 obtain⟨c,d,e,f,g,i,j,k⟩:=h;exact⟨c.other _ (Or.inr (a 0 (by omega))),d.other _ (Or.inr (a 1 (by omega))),e.other _ (Or.inr (a 2 (by omega))),f.other _ (Or.inr (a 3 (by omega))),g.other _ (Or.inr (a 4 (by omega))),i.other _ (Or.inr (a 5 (by omega))),j.other _ (Or.inr (a 6 (by omega))),k.other _ (Or.inr (a 7 (by omega)))⟩
structure DY (wr:World) (bs L n k:Nat) (f:Nat->Ae) (kb:Nat->Nat) (kv cv:Nat->Value):Prop where
 Dw:∀j,j<n->FA wr bs (j*8) (f j) (if j<k then kv j else cv j)
 dead:∀j,j<k->Ca wr (kb j) (kv j) (f j).dn (f j).ds (f j).db
 C8:∀j,j<k->0<(f j).dn->L<=kb j/\kb j<wr.heap.size
 C7:RH kb k f
 lt:0<n->bs<L
variable{f:Nat->Ae}
theorem DY.A0(h:DY wr bs L n k f kb kv cv)(t:Below wr.heap.size wr w'):DY w' bs L n k f kb kv cv:=
 ⟨fun j a=>(h.Dw j a).A0 t,fun j a=>(h.dead j a).A0 t,fun j a b=>by have:=h.C8 j a b;have:=t.size;omega,h.C7,h.lt⟩
theorem DY.AD(h:DY wr bs L n k f kb kv cv)(t:AE S wr w')(hs:∀q,S q->(0<n->q≠bs)/\q<L)(c:k<=n):DY w' bs L n k f kb kv cv:=
 ⟨fun j a=>(h.Dw j a).AD t (fun e=>(hs _ e).1 (by omega) rfl),fun j a=>(h.dead j a).AD t (fun b e=>by have:=h.C8 j a b;have:=(hs _ e).2;omega),fun j a b=>by have:=h.C8 j a b;have:=t.size;omega,h.C7,h.lt⟩
theorem DY.next(h:DY wr bs L n k f kb kv cv)(A:k<n)(z:L<=wr.heap.size)(t:Below wr.heap.size wr w1)
 (x:Ca w1 b v (f k).dn (f k).ds (f k).db) (l:0<(f k).dn->wr.heap.size<=b/\b<w1.heap.size) :
 DY (w1.setCell ⟨bs,k*8+7,none⟩ v) bs L n (k+1) f (fun j=>if j=k then b else kb j) (fun j=>if j=k then v else kv j) cv:=by
 have g:=h.A0 t;have w:=h.lt (by omega);refine⟨fun j m=>?_,fun j m=>?_,fun j m c=>?_,fun i j hi m q o p=>?_,h.lt⟩
 ·have s:=g.Dw j m;by_cases e:j=k
  ·subst e;rw[if_pos (by omega),if_pos rfl];exact s.set v
  ·rw[if_neg e];have u:(if j<k+1 then kv j else cv j)=if j<k then kv j else cv j:=by
    by_cases a:j<k
    ·rw[if_pos a,if_pos (by omega)]
    ·rw[if_neg a,if_neg (by omega)]
   rw[u];exact s.other v (fun r B=>by omega)
 ·by_cases e:j=k
  ·subst e;simp only[if_true];exact x.AD (AE.put _ _ _ _) (fun c y=>by have:=l c;omega)
  ·simp only[if_neg e];exact(g.dead j (by omega)).AD (AE.put _ _ _ _) (fun c y=>by have:=g.C8 j (by omega) c;omega)
 ·simp only[World.size_setCell];by_cases e:j=k
  ·subst e;rw[if_pos rfl];have:=l c;omega
  ·rw[if_neg e];have:=g.C8 j (by omega) c;omega
 ·show(if i=k then b else kb i)≠(if j=k then b else kb j);by_cases d:i=k
  ·by_cases a:j=k
   ·omega
   ·rw[if_pos d,if_neg a];subst d;have:=l o;have:=h.C8 j (by omega) p;omega
  ·by_cases a:j=k
   ·rw[if_neg d,if_pos a];subst a;have:=l p;have:=h.C8 i (by omega) o;omega
   ·rw[if_neg d,if_neg a];exact h.C7 i j (by omega) (by omega) q o p
theorem DY.own(h:DY wr bs L n n f kb kv cv)(s:n<=maxLen)(p:0<n->a=some ⟨bs,0,none⟩)(q:n<=c)(hs:∀i,i<n->((f i).name.size<=maxLen/\(f i).set.size<=maxLen)):G8 wr bs kb kv (.slice a n c) n f:=
 ⟨s,a,c,rfl,q,fun b=>⟨0,p b,fun i hi=>by
  obtain⟨b,g,j,k,l,m,o,d⟩:=h.Dw i hi;rw[if_pos hi]at d;rw[Nat.zero_add];exact⟨b,g,j,k,l,m,o,d,h.dead i hi,hs i hi,fun r e=>by have:=h.C8 i hi r;have:=h.lt (by omega);omega⟩⟩⟩
theorem DY.turned0(h:DY wr bs L n 0 f kb kv cv)(t:AE S wr w')(hs:∀q,S q->0<n->q≠bs):DY w' bs L n 0 f kb kv cv:=
 ⟨fun j a=>(h.Dw j a).AD t (fun e=>hs _ e (by omega) rfl),fun j a=>absurd a (Nat.not_lt_zero _),fun j a=>absurd a (Nat.not_lt_zero _),h.C7,h.lt⟩
theorem DY.weak{L':Nat}(h:DY wr bs L n 0 f kb kv cv)(b:L<=L'):DY wr bs L' n 0 f kb kv cv:=
 ⟨h.Dw,h.dead,fun j c=>absurd c (Nat.not_lt_zero _),h.C7,fun a=>Nat.lt_of_lt_of_le (h.lt a) b⟩
theorem EJ.values(h:EJ w lo hi (.slice a n c) n f) :
 ∃cv:Nat->Value,(∀i,i<n->BI w lo hi (cv i) (f i).dn (f i).ds (f i).db/\((f i).name.size<=maxLen/\(f i).set.size<=maxLen))/\
  (0<n->∃b off,a=some ⟨b,off,none⟩/\∀j u,(FV f cv n)[j]?=some u->w.cell? ⟨b,off+j,none⟩=some u):=by
 obtain⟨_,A,c0,l,_,g⟩:=h;simp only[Value.slice.injEq,true_and]at l;obtain⟨rfl,rfl⟩:=l;by_cases hn:0<n
 ·obtain⟨b,off,o,p,s,t⟩:=g hn;have k:∀i,∃x,i<n->ID w b (off+i*8) lo hi x (f i):=fun i=>by
   by_cases hi:i<n
   ·obtain⟨vd,hs⟩:=t i hi;exact⟨vd,fun _=>hs⟩
   ·exact⟨.slice none 0 0,fun h=>absurd h hi⟩
  obtain⟨cv,d⟩:=Classical.axiomOfChoice k;refine⟨cv,fun i hi=>⟨(d i hi).dead,(d i hi).CI⟩,fun _=>⟨b,off,o,fun j u m=>?_⟩⟩;have v:j<n*8:=by
   have:=(List.getElem?_eq_some_iff.1 m).1
   rwa [MQ]at this
  have hs:=d (j / 8) (by omega);have e:=IF f cv n (i:=j / 8) (r:=j % 8) (by omega) (by omega);rw[show j / 8*8+j % 8=j by omega,m]at e;have z:j % 8<8:=(by omega);have y:off+j=off+j / 8*8+j % 8:=(by omega);rw[y];generalize j % 8=r at z e ⊢;generalize j / 8=q at hs e ⊢;rcases r with _ | _ | _ | _ | _ | _ | _ | _ | r
  ·cases e;exact hs.c0
  ·cases e;exact hs.c1
  ·cases e;exact hs.c2
  ·cases e;exact hs.c3
  ·cases e;exact hs.c4
  ·cases e;exact hs.c5
  ·cases e;exact hs.c6
  ·cases e;exact hs.c7
  ·omega
 ·exact⟨fun _=>.slice none 0 0,fun i hi=>absurd hi (by omega),fun h=>absurd h hn⟩
theorem P8{base:Nat}(e:w1.ownsRow base 83 8 v n (FV f cv n))(L:Nat)(s:w1.heap.size<=L):∃l a c,v = .slice a n c/\n<=c/\(0<n->a=some ⟨l,0,none⟩/\base<=l/\l<w1.heap.size)/\DY w1 l L n 0 f (fun _=>0) cv cv:=by
 obtain⟨q,c1,rfl,k⟩:=Bh e;by_cases m:0<n
 ·obtain⟨g,cap,hv,_,o,p,b⟩:=Fj e m;simp only[Value.slice.injEq,true_and]at hv;obtain⟨rfl,rfl⟩:=hv;refine⟨g,_,_,rfl,k,fun _=>⟨rfl,o,p⟩,fun j d=>?_,fun j d=>absurd d (Nat.not_lt_zero _),fun j d=>absurd d (Nat.not_lt_zero _),fun i j hi=>absurd hi (Nat.not_lt_zero _),fun _=>by omega⟩;rw[if_neg (Nat.not_lt_zero _)];exact⟨b _ _ (IF f cv n d (r:=0) (by omega)),b _ _ (IF f cv n d (r:=1) (by omega)),b _ _ (IF f cv n d (r:=2) (by omega)),b _ _ (IF f cv n d (r:=3) (by omega)),b _ _ (IF f cv n d (r:=4) (by omega)),b _ _ (IF f cv n d (r:=5) (by omega)),b _ _ (IF f cv n d (r:=6) (by omega)),b _ _ (IF f cv n d (r:=7) (by omega))⟩
 ·exact⟨0,_,_,rfl,k,fun h=>absurd h m,fun j d=>absurd d (by omega),fun j d=>absurd d (Nat.not_lt_zero _),fun j d=>absurd d (Nat.not_lt_zero _),fun i j hi=>absurd hi (Nat.not_lt_zero _),fun h=>absurd h m⟩
def JX(W:A4):Prop:=(∀i,i<W.sn->(W.A1 i).dn<=1048576)/\∀i,i<W.pn->(W.A2 i).dn<=1048576
def D2(v:Value):Option (DataW Value×List MemPlace):=some (.held v,[])
theorem M1{d:DataW Value}{ps:List MemPlace}(h:D2 v=some (d,ps)):d = .held v:=by
 unfold D2 at h;simp only[Option.some.injEq,Prod.mk.injEq]at h;exact h.1.symm
theorem Ga(v:Value):D2 v=some (.held v,[]):=rfl
variable{P:Program}{g:Array Oper}{rest:List Oper}{Q:Exit->Act->World->Prop}
theorem zDO(w:World){o:Oper}{a:Act}
 (l:o.guard=none) (m x:Operand) (t:TypeId) (hop:o.op=Op.lookup t m x false)
 (k e:TypeId) (K:Keyed P k) (q:P.underlying t=some (.map k e)) {z:Value} (s:(zeroValue e).run P w = .ok z w) (b n:Nat) (D:DataW Value)
 (p:a.eval m = .map (some b)) (d:w.ownsMap P k D2 b n D) (key:Value) (kl:Lit) (r:a.eval x=key) (c:keyOf P k key=some kl)
 (v:Value) (j:D.atKey kl (.held z) = .held v) (hK:wpList P g Q rest (a.put o.dst v) w) :
 wpList P g Q (o :: rest) a w:=by
 refine wpList_plain l fun u i=>?_
 obtain⟨y,ps,f,hv⟩:=d.lookup K q s (Ga z) c;have h:=M1 hv;rw[j]at h;injection h with h;subst h;unfold Oper.wp;simp[execOp,hop,p,r,f,Result.andThen];exact i _ _ hK
theorem PA(w:World){o:Oper}{a:Act}
 (l:o.guard=none) (m x:Operand) (t:TypeId) (hop:o.op=Op.lookup t m x true)
 (k e:TypeId) (K:Keyed P k) (q:P.underlying t=some (.map k e)) {z:Value} (s:(zeroValue e).run P w = .ok z w) (b n:Nat) (D:DataW Value)
 (p:a.eval m = .map (some b)) (f:w.ownsMap P k D2 b n D) (key:Value) (kl:Lit) (r:a.eval x=key) (d:keyOf P k key=some kl)
 (v:Value) (i:D.atKey kl (.held z) = .held v) (c:Bool) (j:Maps.has D kl=c) (hK:wpList P g Q rest (a.put o.dst (.tuple #[v,.bool c])) w) :
 wpList P g Q (o :: rest) a w:=by
 refine wpList_lookup_own_ok w l m x t hop k e K q D2 s (.held z) [] (Ga z) b n D p f key kl r d (fun u ps hv=>?_);have h:=M1 hv;rw[i]at h;injection h with h;subst h;rw[j];exact hK
def putD(key:Nat->Lit)(val:Nat->Value):Nat->DataW Value
 | 0=>.map []
 | k+1=>(putD key val k).put (key k) (.held (val k))
def H6(key:Nat->Lit):Prop:=∀i,WideAt.IsKeyLit (key i)
theorem Kt{key:Nat->Lit}(a:H6 key)(val:Nat->Value):∀k,Tidy (putD key val k)
 | 0=>tidy_empty
 | k+1=>(Kt a val k).put (a k) _
theorem M0{key:Nat->Lit}(a:H6 key)(val:Nat->Value)(l:Lit):∀k,Maps.has (putD key val k) l=true↔∃i,i<k/\key i=l
 | 0=>by
  constructor
  ·intro h;exact absurd h (by simp[putD,Maps.has])
  ·rintro⟨i,hi,_⟩;omega
 | k+1=>by
  by_cases b:key k=l
  ·subst b;exact⟨fun _=>⟨k,by omega,rfl⟩,fun _=>has_put_same (Kt a val k).isMap (a k) _⟩
  ·rw[show Maps.has (putD key val (k+1)) l=Maps.has (putD key val k) l from has_put_other (Ne.symm b) _,M0 a val l k];constructor
   ·rintro⟨i,hi,e⟩;exact⟨i,by omega,e⟩
   ·rintro⟨i,hi,e⟩;by_cases h:i=k
    ·subst h;exact absurd e b
    ·exact⟨i,by omega,e⟩
theorem Qz{key:Nat->Lit}(b:H6 key)(val:Nat->Value){l:Lit}(h:∀i,i<k->key i≠l)(z:DataW Value):(putD key val k).atKey l z=z:=by
 refine atKey_of_not_has ?_ _;rw[Bool.eq_false_iff];intro a;obtain⟨i,hi,e⟩:=(M0 b val l k).1 a;exact h i hi e
theorem Pe{key:Nat->Lit}(a:H6 key)(val:Nat->Value)(z:DataW Value):∀k i,i<k->(∀j,i<j->j<k->key j≠key i)->(putD key val k).atKey (key i) z = .held (val i)
 | 0,i,hi,_=>absurd hi (Nat.not_lt_zero _)
 | k+1,i,hi,hd=>by
  by_cases e:i=k
  ·subst e;exact atKey_put_same (Kt a val i).isMap (a i) _ _
  ·exact(atKey_put_other (Ne.symm (hd k (by omega) (by omega))) _ _).trans (Pe a val z k i (by omega) (fun j b c=>hd j b (by omega)))
def Gw(n:Nat)(key:Nat->Lit):Prop:=∀i,i<n->∀k,k<i->key k≠key i
theorem RL{f:Nat->Lit}:Gw (k+1) f↔Gw k f/\∀i,i<k->f i≠f k:=by
 constructor
 ·exact fun h=>⟨fun i hi=>h i (by omega),fun i hi=>h k (by omega) i hi⟩
 ·rintro⟨b,c⟩ i hi j a;by_cases e:i=k
  ·subst e;exact c j a
  ·exact b i (by omega) j a
theorem R0{key:Nat->Lit}(b:H6 key)(val:Nat->Value):∀k,Maps.size (putD key val k)<=k/\(Maps.size (putD key val k)=k↔Gw k key)
 | 0=>⟨Nat.le_refl _,fun _ i hi=>by omega,fun _=>rfl⟩
 | k+1=>by
  obtain⟨f,d⟩:=R0 b val k;have e:Maps.size (putD key val (k+1))=if Maps.has (putD key val k) (key k)then Maps.size (putD key val k)else Maps.size (putD key val k)+1:=size_put (Kt b val k) _
  by_cases a:Maps.has (putD key val k) (key k)=true
  ·rw[if_pos a]at e;rw[e,RL];refine⟨by omega,fun h=>by omega,fun h=>?_⟩;obtain⟨i,hi,c⟩:=(M0 b val (key k) k).1 a;exact absurd c (h.2 i hi)
  ·rw[if_neg a]at e;rw[e,RL,<-d];refine⟨by omega,fun h=>⟨by omega,fun i hi c=>a ((M0 b val (key k) k).2 ⟨i,hi,c⟩)⟩,fun h=>by omega⟩
theorem ZY(n:Int)(w:World):Calls Tryz.prog 72 #[.int .i64 n] w fun e w'=>AL (Jc n 1 900000) e/\w'=w:=by
 by_cases a:1<=n
 ·by_cases b:n<=900000
  ·go_enter Tryz.func72,Tryz.ntmps72;go_wp2;go_ret;exact⟨AL.yes ⟨a,b⟩,rfl⟩
  ·go_enter Tryz.func72,Tryz.ntmps72;go_wp2;go_ret;exact⟨AL.no fun h=>by have:=h.2;omega,rfl⟩
 ·go_enter Tryz.func72,Tryz.ntmps72;go_wp2;go_ret;exact⟨AL.no fun h=>by have:=h.1;omega,rfl⟩
def Mid(a x b:Int):Prop:=a<x/\x<b
theorem Z0(a x b:Int)(w:World):Calls Tryz.prog 138 #[.int .i64 a,.int .i64 x,.int .i64 b] w fun e w'=>AL (Mid a x b) e/\w'=w:=by
 by_cases c:a<x
 ·by_cases d:x<b
  ·go_enter Tryz.func138,Tryz.ntmps138;go_wp2;go_ret;exact⟨AL.yes ⟨c,d⟩,rfl⟩
  ·go_enter Tryz.func138,Tryz.ntmps138;go_wp2;go_ret;exact⟨AL.no fun h=>by have:=h.2;omega,rfl⟩
 ·go_enter Tryz.func138,Tryz.ntmps138;go_wp2;go_ret;exact⟨AL.no fun h=>by have:=h.1;omega,rfl⟩
def Fv(f:Nat->Ad):Nat->ByteArray
 | 0=>⟨#[]⟩
 | k+1=>(f k).name
def yD(n:Nat)(f:Nat->Ad):Prop:=n<=8/\∀i,i<n->Bp (f i).name/\Ce (Fv f i) (f i).name
theorem zCt(v:Value)(n lo hi:Nat)(f:Nat->Ad)(w:World)(h:EB w lo hi v n f) :
 Calls Tryz.prog 73 #[v] w fun e w'=>AL (yD n f) e/\Below w.heap.size w w':=by
 have H:=A3 h;obtain⟨K,a,c,rfl,R,-⟩:=id h;unfold maxLen at K;clear h;by_cases hn:n<=8;rotate_left
 ·have z:(8:Int)<(n:Int):=(by omega);go_enter Tryz.func73,Tryz.ntmps73;go_wp2;go_ret;exact⟨AL.no fun h=>hn h.1,Below.refl _ _⟩
 have z:¬(8:Int)<(n:Int):=by omega
 go_enter Tryz.func73,Tryz.ntmps73;go_wp2
 go_loopw [3,11] (fun l i wr=>∃k:Nat,k<=n/\i = .int .i64 k/\l = .string (Fv f k)/\(∀j,j<k->Bp (f j).name/\Ce (Fv f j) (f j).name)/\Below w.heap.size w wr) (fun _ i _=>n - (intOf i).toNat)
 case atStart=>exact⟨0,Nat.zero_le _,rfl,rfl,fun j J=>absurd J (Nat.not_lt_zero _),Below.refl _ _⟩
 case round=>
  obtain⟨k,Q,rfl,rfl,p,y⟩:=hrel;have o:=A3 p;clear p;by_cases g:k<n;rotate_left
  ·obtain rfl:k=n:=(by omega);go_wp2;go_ret;exact⟨AL.yes ⟨hn,o.out⟩,y⟩
  have D:(k:Int)<(n:Int):=(by omega);obtain⟨b,off,vd,rfl,d⟩:=(H.out.A0 y).cells g;obtain⟨-,B,C,rfl,-,-⟩:=id d.dead;have t:=AC wr (.cells #[.string (f k).name,.int .i64 (f k).origin,.int .i64 (f k).A6,.int .i64 (f k).rs,.int .i64 (f k).rb,.slice B (f k).dn C] 41);have x:=A3 (As.new wr (.string (f k).name) (.int .i64 (f k).origin) (.int .i64 (f k).A6) (.int .i64 (f k).rs) (.int .i64 (f k).rb) (.slice B (f k).dn C) 41);have q:=A7 y t;have L:=d.c0;have q1:=d.c1;have M:=d.c2;have N:=d.c3;have O:=d.c4;have P:=d.c5;have A:=d.CI;obtain⟨⟨T,U⟩,-⟩:=x.out;clear d t;go_wp2_with fail;clear L q1 M N O P;refine(Rm (f k).name _ A).mono ?_;rintro e S ⟨⟨E,rfl,m⟩,rfl⟩;by_cases r:Bp (f k).name;rotate_left
  ·have G:=A3 r;obtain rfl:E=false:=BR m r;clear m r;go_wp2;go_ret;exact⟨AL.no fun h=>G.out (h.2 k g).1,q⟩
  have F:=A3 r;obtain rfl:E=true:=m.2 r;clear m r;by_cases s:Ce (Fv f k) (f k).name
  ·have I:=(Sw (f k).name (Fv f k)).2 s;have u:=A3 s;clear s;go_wp2;go_roundw
   case rel=>exact⟨k+1,by omega,by go_num,rfl,Bu g o.out ⟨F.out,u.out⟩,q⟩
   case measure=>simp[intOf];omega
  ·have I:(Op.bytesLess (f k).name.toList (Fv f k).toList || (f k).name.toList == (Fv f k).toList)=true:=by
    cases hc:(Op.bytesLess (f k).name.toList (Fv f k).toList || (f k).name.toList == (Fv f k).toList)
    ·exact absurd ((Sw _ _).1 hc) s
    ·rfl
   have u:=A3 s;clear s;go_wp2;go_ret;exact⟨AL.no fun h=>u.out (h.2 k g).2,q⟩
theorem SE:laidOutB Tryz.prog=true:=by kernel_rfl
theorem yp:300<=Tryz.prog.types.size+300 - 1/\1<=Tryz.prog.types.size:=by
 have h:decide (1<=Tryz.prog.types.size)=true:=by kernel_rfl
 have:=of_decide_eq_true h;omega
theorem SF(h:decide (k<Tryz.prog.types.size)=true):k<Tryz.prog.types.size:=of_decide_eq_true h
theorem zIz:Tryz.prog.underlying 9=some .string:=by kernel_rfl
theorem yy:Tryz.prog.underlying 2=some (.int .i64):=by kernel_rfl
theorem Mf:Keyed Tryz.prog 9:=string_keyed zIz
theorem yz:Keyed Tryz.prog 2:=int_keyed yy
def DK(s:ByteArray):Lit:=.string s.data.toList
variable{s:ByteArray}
theorem Q2(h:s.size<=maxLen):keyOf Tryz.prog 9 (.string s)=some (DK s):=by simp[keyOf,mapKey,DK,h]
variable{t:ByteArray}
theorem zF6(h:DK s=DK t):s=t:=by
 unfold DK at h;injection h with h;cases s;cases t;simp only[ByteArray.mk.injEq];exact Array.toList_inj.1 h
theorem Uy(s:ByteArray):WideAt.IsKeyLit (DK s):=trivial
def Gp(x:Int):Lit:=.int .i64 x
variable{x:Int}
theorem Tq(h:(Lit.int .i64 x).wf=true):keyOf Tryz.prog 2 (.int .i64 x)=some (Gp x):=keyOf_int_mk yy h
theorem Ux{y:Int}(h:Gp x=Gp y):x=y:=by unfold Gp at h;injection h
theorem zF5(x:Int):WideAt.IsKeyLit (Gp x):=trivial
theorem ze:Tryz.prog.underlying 209=some (.array 2 9):=by kernel_rfl
theorem SS:Keyed Tryz.prog 209:=Keyed.of_law (deep_law_laid SE (m:=5) (by decide) (SF (by kernel_rfl)) (by kernel_rfl) (by kernel_rfl))
theorem zGB(hs:s.size<=maxLen)(e:t.size<=maxLen):∃l,keyOf Tryz.prog 209 (.agg #[.string s,.string t])=some l:=by
 obtain⟨m,d⟩:∃m,Tryz.prog.types.size+1=m+2:=⟨Tryz.prog.types.size - 1,by have:=yp;omega⟩;have c:Tryz.prog.keyType 209=true:=by kernel_rfl
 have a:Tryz.prog.cellsOf 209=2:=by kernel_rfl
 have b:Tryz.prog.cellsOf 9=1:=by kernel_rfl
 unfold keyOf;simp only[ze];rw[if_pos (by simp[c,Value.formed,a]),d];unfold Program.keyLits;simp only[ze,Value.cells];rw[if_pos (by rw[a];rfl),show List.range 2 = [0,1] from rfl,List.mapM_cons,List.mapM_cons,List.mapM_nil];simp[b,Program.keyLits,hs,e]
theorem za:Tryz.prog.underlying 38=some (.struct #[⟨ "Slot",2,0,false, "", "",0⟩,⟨ "Birth",2,1,false, "", "",8⟩]):=by kernel_rfl
theorem SR:Keyed Tryz.prog 38:=Keyed.of_law (deep_law_laid SE (m:=5) (by decide) (SF (by kernel_rfl)) (by kernel_rfl) (by kernel_rfl))
theorem zGA{y:Int}(e:(Lit.int .i64 x).wf=true)(f:(Lit.int .i64 y).wf=true):∃l,keyOf Tryz.prog 38 (.agg #[.int .i64 x,.int .i64 y])=some l:=by
 obtain⟨m,d⟩:∃m,Tryz.prog.types.size+1=m+2:=⟨Tryz.prog.types.size - 1,by have:=yp;omega⟩;have c:Tryz.prog.keyType 38=true:=by kernel_rfl
 have a:Tryz.prog.cellsOf 38=2:=by kernel_rfl
 have b:Tryz.prog.cellsOf 2=1:=by kernel_rfl
 unfold keyOf;simp only[za];rw[if_pos (by simp[c,Value.formed,a]),d];unfold Program.keyLits;simp only[za,Value.cells];rw[if_pos ⟨by rw[a];rfl,by kernel_rfl⟩];simp[b,Program.keyLits,e,f]
def Fq(vd:Value)(s:Ad):Value:=.agg #[.string s.name,.int .i64 s.origin,.int .i64 s.A6,.int .i64 s.rs,.int .i64 s.rb,vd]
def DE(vd:Value)(s:Ae):Value:=.agg #[.int .i64 s.id,.string s.name,.string s.set,.int .i64 s.A6,.int .i64 s.time,.int .i64 s.rs,.int .i64 s.rb,vd]
def VJ(w:World)(lo hi n:Nat)(f:Nat->Ad)(vd:Nat->Value):Prop:=∀i,i<n->BI w lo hi (vd i) (f i).dn (f i).ds (f i).db
def OD(w:World)(lo hi n:Nat)(f:Nat->Ae)(vd:Nat->Value):Prop:=∀i,i<n->BI w lo hi (vd i) (f i).dn (f i).ds (f i).db
open Classical in
theorem EB.vals{f:Nat->Ad}(h:EB w lo hi (.slice a n c) n f):∃vd:Nat->Value,VJ w lo hi n f vd/\∀i,i<n->∃b off,a=some ⟨b,off,none⟩/\I6 w b (off+i*6) lo hi (vd i) (f i):=by
 have d:∀i,∃v,i<n->∃b off,a=some ⟨b,off,none⟩/\I6 w b (off+i*6) lo hi v (f i):=fun i=>by
  by_cases hi':i<n
  ·obtain⟨b,off,vd,e,hs⟩:=h.cells hi';exact⟨vd,fun _=>⟨b,off,e,hs⟩⟩
  ·exact⟨undef,fun h=>absurd h hi'⟩
 refine⟨fun i=>(d i).choose,fun i hi'=>?_,fun i hi'=>(d i).choose_spec hi'⟩;obtain⟨b,off,_,hs⟩:=(d i).choose_spec hi';exact hs.dead
open Classical in
theorem EJ.vals(h:EJ w lo hi (.slice a n c) n f):∃vd:Nat->Value,OD w lo hi n f vd/\∀i,i<n->∃b off,a=some ⟨b,off,none⟩/\ID w b (off+i*8) lo hi (vd i) (f i):=by
 have d:∀i,∃v,i<n->∃b off,a=some ⟨b,off,none⟩/\ID w b (off+i*8) lo hi v (f i):=fun i=>by
  by_cases hi':i<n
  ·obtain⟨b,off,vd,e,hs⟩:=h.cells hi';exact⟨vd,fun _=>⟨b,off,e,hs⟩⟩
  ·exact⟨undef,fun h=>absurd h hi'⟩
 refine⟨fun i=>(d i).choose,fun i hi'=>?_,fun i hi'=>(d i).choose_spec hi'⟩;obtain⟨b,off,_,hs⟩:=(d i).choose_spec hi';exact hs.dead
theorem LI:Tryz.prog.underlying 157=some (.map 9 41):=by kernel_rfl
theorem qU:Tryz.prog.underlying 181=some (.map 2 83):=by kernel_rfl
theorem Zp:Tryz.prog.underlying 208=some (.map 209 2):=by kernel_rfl
def GY(w:World)(W:A4)(M n:Nat)(vd:Nat->Value):Prop:=w.ownsMap Tryz.prog 9 D2 M n (putD (fun i=>DK (W.A1 i).name) (fun i=>Fq (vd i) (W.A1 i)) n)
def Jd(w:World)(W:A4)(M n:Nat)(vd:Nat->Value):Prop:=w.ownsMap Tryz.prog 2 D2 M n (putD (fun i=>Gp (W.A2 i).id) (fun i=>DE (vd i) (W.A2 i)) n)
variable{vd:Nat->Value}
theorem GY.A0{M:Nat}(h:GY w W M n vd)(t:Below w.heap.size w w'):GY w' W M n vd:=h.kept (EC t none) (by simp)
theorem Jd.A0{M:Nat}(h:Jd w W M n vd)(t:Below w.heap.size w w'):Jd w' W M n vd:=h.kept (EC t none) (by simp)
theorem ZQ(r v1 P s:Value)(lo hi:Nat)(W:A4)(w:World)(h:CE w lo hi r v1 P s W)(hn:W.sn<=8) :
 Calls Tryz.prog 110 #[Cn r v1 P s W] w fun e w'=>∃vd,e = .returned (.map (some (w.heap.size+1)))/\GY w' W (w.heap.size+1) W.sn vd/\VJ w lo hi W.sn W.A1 vd/\Below w.heap.size w w':=by
 have Hp:=A3 h;obtain⟨T,a,c,rfl,mc,-⟩:=id h.A1;unfold maxLen at T;obtain⟨vd,A,y⟩:=h.A1.vals;have D:=A3 A;have C:=A3 y;clear h A y;have N:=AC w (.cells #[r,v1,.int .i64 W.time,.int .i64 W.next,.slice a W.sn c,s] 30);have J:=A3 (As.new w r v1 (.int .i64 W.time) (.int .i64 W.next) (.slice a W.sn c) s 30);have q:(w.alloc (.cells #[r,v1,.int .i64 W.time,.int .i64 W.next,.slice a W.sn c,s] 30)).heap.size=w.heap.size+1:=World.size_alloc _ _;have H:=World.ownsMap_made (w.alloc (.cells #[r,v1,.int .i64 W.time,.int .i64 W.next,.slice a W.sn c,s] 30)) Tryz.prog 9 D2;rw[q]at H;have K:=A3 H;have t:=A3 (J.out.A0 (AC _ (.map #[] 0)));have u:=A3 (A7 N (AC _ (.map #[] 0)));have R:=@run_makeMap Tryz.prog;obtain⟨U,V,X,Y,Z,I⟩:=t.out.c;clear H;go_enter Tryz.func110,Tryz.ntmps110;go_wp2;clear U V X Y Z I N
 go_loopw [10] (fun i wr=>∃k:Nat,k<=W.sn/\i = .int .i64 k/\GY wr W (w.heap.size+1) k vd/\Below w.heap.size w wr/\w.heap.size+2<=wr.heap.size) (fun i _=>W.sn - (intOf i).toNat)
 case atStart=>exact⟨0,Nat.zero_le _,rfl,K.out,u.out,by rw[World.size_alloc,q];omega⟩
 case round=>
  clear K t u J q;obtain⟨k,hk,rfl,m,F,hz⟩:=hrel;have l:=A3 m;clear m;by_cases G:k<W.sn
  ·have O:(k:Int)<(W.sn:Int):=(by omega);obtain⟨b,off,rfl,z⟩:=C.out k G;have d:=z.A0 F;obtain⟨-,L,M,p,-,-⟩:=id d.dead;have E:=A3 p;rw[p]at d;clear p z;have g:=AC wr (.cells #[.string (W.A1 k).name,.int .i64 (W.A1 k).origin,.int .i64 (W.A1 k).A6,.int .i64 (W.A1 k).rs,.int .i64 (W.A1 k).rb,.slice L (W.A1 k).dn M] 41);have B:=A3 (As.new wr (.string (W.A1 k).name) (.int .i64 (W.A1 k).origin) (.int .i64 (W.A1 k).A6) (.int .i64 (W.A1 k).rs) (.int .i64 (W.A1 k).rb) (.slice L (W.A1 k).dn M) 41);have x:=A7 F g;have q0:=d.c0;have q1:=d.c1;have q2:=d.c2;have q3:=d.c3;have q4:=d.c4;have q5:=d.c5;have v:=A3 (Q2 d.CI);obtain⟨⟨y0,y1⟩,⟨y2,y3⟩,⟨y4,y5⟩,⟨y6,y7⟩,⟨y8,y9⟩,⟨aA,bA⟩⟩:=B.out;have n:=A3 (l.out.A0 g);have S:=g.size;clear d g;go_wp2_with (first
    | (at_mapUpdate;refine wpList_mapUpdate_own _ rfl _ _ _ 157 rfl 9 41 Mf LI D2 (w.heap.size+1) k _ rfl n.out (by unfold maxLen;omega) _ _ _ rfl rfl v.out _ [] (Ga _) ?_;intro w1 o f)
    | go_in)
   go_roundw
   case rel=>
    refine⟨k+1,by omega,by go_num,?_,x.grown f x.size (fun j Q=>by cases Q;omega),by have:=f.size;omega⟩;unfold GY putD Fq;rw[E.out];exact o
   case measure=>simp[intOf];omega
  ·obtain rfl:k=W.sn:=(by omega);go_wp2;go_ret;exact⟨vd,rfl,l.out,D.out,F⟩
end Go.Proofs.YtehdoekmnicdiaaGreatDoor
