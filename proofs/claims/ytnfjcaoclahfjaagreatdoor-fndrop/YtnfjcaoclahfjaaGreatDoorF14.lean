/- A part of the proof. -/
import Derived.Test.YtnfjcaoclahfjaaGreatDoorF13
import Derived.WideKeyPair
import Derived.DeepKeys4
set_option linter.unusedVariables false
set_option maxRecDepth 20000
set_option maxHeartbeats 4000000
namespace Go.Proofs.YtnfjcaoclahfjaaGreatDoor
open Go.RowKit
def Du(w:World)(S:Nat->Prop)(v:Value)(n:Nat)(f:Nat->Ac):Prop:=∃(bs:Nat) (kb:Nat->Nat) (kv:Nat->Value),Dw w bs kb kv v n f/\MD kb n f/\∀k,GM bs kb n f k->S k
def Hj(w:World)(S:Nat->Prop)(v:Value)(n:Nat)(f:Nat->AT):Prop:=∃(bs:Nat) (kb:Nat->Nat) (kv:Nat->Value),Fo w bs kb kv v n f/\MM kb n f/\∀k,Ic bs kb n f k->S k
variable{S T:Nat->Prop}{w w':World}{v:Value}{n:Nat}
theorem Du.AD{f:Nat->Ac}(h:Du w S v n f)(t:AC T w w')(hs:∀k,S k->¬T k):Du w' S v n f:=by
 obtain⟨b,kb,kv,c,d,a⟩:=h;exact⟨b,kb,kv,c.AD t (fun k e=>hs k (a k e)),d,a⟩
theorem Hj.AD{f:Nat->AT}(h:Hj w S v n f)(t:AC T w w')(hs:∀k,S k->¬T k):Hj w' S v n f:=by
 obtain⟨b,kb,kv,c,d,a⟩:=h;exact⟨b,kb,kv,c.AD t (fun k e=>hs k (a k e)),d,a⟩
variable{f:Nat->Ac}
theorem Du.A1(h:Du w S v n f)(t:Below w.heap.size w w'):Du w' S v n f:=by
 obtain⟨a,kb,kv,b,c,d⟩:=h;exact⟨a,kb,kv,b.A1 t,c,d⟩
variable{lo hi:Nat}
theorem Du.at(h:Du w S v n f)(hs:∀k,S k->lo<=k/\k<hi):De w lo hi v n f:=by
 obtain⟨d,kb,kv,a,e,b⟩:=h;exact a.at (fun k c=>hs k (b k c))
theorem Hj.at{f:Nat->AT}(h:Hj w S v n f)(hs:∀k,S k->lo<=k/\k<hi):D8 w lo hi v n f:=by
 obtain⟨d,kb,kv,a,e,b⟩:=h;exact a.at (fun k c=>hs k (b k c))
theorem Du.Bv(h:Du w S v n f):∃a c,v = .slice a n c/\n<=c:=by
 obtain⟨d,kb,kv,⟨_,a,c,hv,b,_⟩,e,g⟩:=h;exact⟨a,c,hv,b⟩
theorem Hj.Bv{f:Nat->AT}(h:Hj w S v n f):∃a c,v = .slice a n c/\n<=c:=by
 obtain⟨d,kb,kv,⟨_,a,c,hv,b,_⟩,e,g⟩:=h;exact⟨a,c,hv,b⟩
variable{v0 v1:Value}
theorem Cg.Bv{p:A7}(h:Cg w S v0 v1 p):∃a c b c',v0 = .slice a p.n c/\v1 = .slice b p.hn c':=by
 obtain⟨f,k,kb,kv,⟨_,a,c,d,_⟩,g,⟨_,b,c',e,_,_⟩,i,j⟩:=h;exact⟨a,c,b,c',d,e⟩
structure Lc (w:World) (P Q R:Nat->Prop) (v0 v1 v2 v3:Value) (W:A4):Prop where
 pool:Cg w P v0 v1 W.pool
 A2:Du w Q v2 W.sn W.A2
 A0:Hj w R v3 W.pn W.A0
 pq:∀k,P k->¬Q k
 pr:∀k,P k->¬R k
 qr:∀k,Q k->¬R k
def EX(w:World)(lo hi:Nat)(v0 v1 v2 v3:Value)(W:A4):Prop:=∃P Q R,Lc w P Q R v0 v1 v2 v3 W/\∀k,P k\/Q k\/R k->lo<=k/\k<hi
variable{v2 v3:Value}{W:A4}
theorem EX.at(h:EX w lo hi v0 v1 v2 v3 W):BM w lo hi v0 v1 v2 v3 W:=by
 obtain⟨P,Q,R,h,b⟩:=h;exact⟨h.pool.at (fun k a=>b k (Or.inl a)),h.A2.at (fun k a=>b k (Or.inr (Or.inl a))),h.A0.at (fun k a=>b k (Or.inr (Or.inr a)))⟩
theorem Lc.AD{P Q R:Nat->Prop}(h:Lc w P Q R v0 v1 v2 v3 W)(t:AC T w w')(hs:∀k,P k\/Q k\/R k->¬T k):Lc w' P Q R v0 v1 v2 v3 W:=
 ⟨h.pool.AD t (fun k a=>hs k (Or.inl a)),h.A2.AD t (fun k a=>hs k (Or.inr (Or.inl a))),h.A0.AD t (fun k a=>hs k (Or.inr (Or.inr a))),h.pq,h.pr,h.qr⟩
theorem EX.AD(h:EX w lo hi v0 v1 v2 v3 W)(t:AC S w w')(hs:∀k,S k->k<lo\/hi<=k):EX w' lo hi v0 v1 v2 v3 W:=by
 obtain⟨P,Q,R,h,a⟩:=h;exact⟨P,Q,R,h.AD t (fun k b c=>by have:=a k b;have:=hs k c;omega),a⟩
variable{b:Nat}
theorem EX.wide{a:Nat}(h:EX w lo hi v0 v1 v2 v3 W)(e:b<=lo)(f:hi<=a):EX w b a v0 v1 v2 v3 W:=by
 obtain⟨P,Q,R,h,d⟩:=h;exact⟨P,Q,R,h,fun k c=>by have:=d k c;omega⟩
theorem EX.Bv(h:EX w lo hi v0 v1 v2 v3 W):∃a c0 b c1 c e d c3,v0 = .slice a W.pool.n c0/\v1 = .slice b W.pool.hn c1/\v2 = .slice c W.sn e/\v3 = .slice d W.pn c3:=by
 obtain⟨P,Q,R,h,j⟩:=h;obtain⟨a,c0,b,c1,e0,f⟩:=h.pool.Bv;obtain⟨c,e,g,-⟩:=h.A2.Bv;obtain⟨d,c3,i,-⟩:=h.A0.Bv;exact⟨a,c0,b,c1,c,e,d,c3,e0,f,g,i⟩
theorem BM.Bv(h:BM w lo hi v0 v1 v2 v3 W):∃a c0 b c1 c e d c3,v0 = .slice a W.pool.n c0/\v1 = .slice b W.pool.hn c1/\v2 = .slice c W.sn e/\v3 = .slice d W.pn c3:=by
 obtain⟨a,c0,b,c1,e0,f⟩:=h.pool.Bv;obtain⟨-,c,e,g,-⟩:=h.A2;obtain⟨-,d,c3,i,-⟩:=h.A0;exact⟨a,c0,b,c1,c,e,d,c3,e0,f,g,i⟩
def TA(f:Nat->Ac)(cv:Nat->Value)(i r:Nat):Value:=
 match r with
 | 0=>.string (f i).name
 | 1=>.int .i64 (f i).origin
 | 2=>.int .i64 (f i).A5
 | 3=>.int .i64 (f i).rs
 | 4=>.int .i64 (f i).rb
 | _=>cv i
def Fz(f:Nat->Ac)(cv:Nat->Value)(n:Nat):List Value:=(List.range (n*6)).map fun j=>TA f cv (j / 6) (j % 6)
theorem O9(f:Nat->Ac)(a:Nat->Value)(n:Nat):(Fz f a n).length=n*6:=by simp[Fz]
theorem Jc(f:Nat->Ac)(a:Nat->Value)(n:Nat){i r:Nat}(hi:i<n)(d:r<6):(Fz f a n)[i*6+r]?=some (TA f a i r):=by
 have h:i*6+r<n*6:=by omega
 have b:(i*6+r) / 6=i:=by omega
 have c:(i*6+r) % 6=r:=by omega
 simp[Fz,h,b,c]
theorem Qo(f:Nat->Ac)(a:Nat->Value)(n:Nat)(h:∀i,i<n->(a i).oneCell'=true):∀u∈Fz f a n,u.oneCell'=true:=by
 intro u b;unfold Fz at b;obtain⟨j,c,rfl⟩:=List.mem_map.1 b;have d:=List.mem_range.1 c;have hi:j / 6<n:=by omega
 have e:j % 6<6:=by omega
 generalize j % 6=r at e ⊢;rcases r with _ | _ | _ | _ | _ | _<;>first | rfl | exact h _ hi
def F7(w:World)(b o:Nat)(s:Ac)(vd:Value):Prop:=AF w b o (.string s.name)/\AF w b (o+1) (.int .i64 s.origin)/\AF w b (o+2) (.int .i64 s.A5)/\AF w b (o+3) (.int .i64 s.rs)/\AF w b (o+4) (.int .i64 s.rb)/\AF w b (o+5) vd
variable{o:Nat}{s:Ac}{vd:Value}
theorem F7.AD(h:F7 w b o s vd)(t:AC S w w')(hs:¬S b):F7 w' b o s vd:=by
 obtain⟨a,c,d,e,f,g⟩:=h;exact⟨a.AD t hs,c.AD t hs,d.AD t hs,e.AD t hs,f.AD t hs,g.AD t hs⟩
theorem F7.A1(h:F7 w b o s vd)(t:Below w.heap.size w w'):F7 w' b o s vd:=
 h.AD (AC.CX (S:=fun _=>False) t) (fun h=>h)
theorem F7.set(h:F7 w b o s vd)(u:Value):F7 (w.setCell ⟨b,o+5,none⟩ u) b o s u:=by
 obtain⟨a,c,d,e,f,g⟩:=h;exact⟨a.other _ (Or.inr (by omega)),c.other _ (Or.inr (by omega)),d.other _ (Or.inr (by omega)),e.other _ (Or.inr (by omega)),f.other _ (Or.inr (by omega)),g.set _⟩
theorem F7.other{o':Nat}(h:F7 w b o s vd)(u:Value)(a:∀r,r<6->o'≠o+r):F7 (w.setCell ⟨b,o',none⟩ u) b o s vd:=by
 obtain⟨c,d,e,f,g,i⟩:=h;exact⟨c.other _ (Or.inr (a 0 (by omega))),d.other _ (Or.inr (a 1 (by omega))),e.other _ (Or.inr (a 2 (by omega))),f.other _ (Or.inr (a 3 (by omega))),g.other _ (Or.inr (a 4 (by omega))),i.other _ (Or.inr (a 5 (by omega)))⟩
structure DG (wr:World) (bs L n k:Nat) (f:Nat->Ac) (kb:Nat->Nat) (kv cv:Nat->Value):Prop where
 DX:∀j,j<n->F7 wr bs (j*6) (f j) (if j<k then kv j else cv j)
 dead:∀j,j<k->Bm wr (kb j) (kv j) (f j).dn (f j).ds (f j).db
 Bq:∀j,j<k->0<(f j).dn->L<=kb j/\kb j<wr.heap.size
 BY:MD kb k f
 lt:0<n->bs<L
variable{wr:World}{bs L k:Nat}{kb:Nat->Nat}{kv cv:Nat->Value}
theorem DG.A1(h:DG wr bs L n k f kb kv cv)(t:Below wr.heap.size wr w'):DG w' bs L n k f kb kv cv:=
 ⟨fun j a=>(h.DX j a).A1 t,fun j a=>(h.dead j a).A1 t,fun j a b=>by have:=h.Bq j a b;have:=t.size;omega,h.BY,h.lt⟩
theorem DG.AD(h:DG wr bs L n k f kb kv cv)(t:AC S wr w')(hs:∀q,S q->(0<n->q≠bs)/\q<L)(c:k<=n):DG w' bs L n k f kb kv cv:=
 ⟨fun j a=>(h.DX j a).AD t (fun e=>(hs _ e).1 (by omega) rfl),fun j a=>(h.dead j a).AD t (fun b e=>by have:=h.Bq j a b;have:=(hs _ e).2;omega),fun j a b=>by have:=h.Bq j a b;have:=t.size;omega,h.BY,h.lt⟩
variable{w1:World}
theorem DG.next(h:DG wr bs L n k f kb kv cv)(A:k<n)(z:L<=wr.heap.size)(t:Below wr.heap.size wr w1)
 (x:Bm w1 b v (f k).dn (f k).ds (f k).db) (l:0<(f k).dn->wr.heap.size<=b/\b<w1.heap.size) :
 DG (w1.setCell ⟨bs,k*6+5,none⟩ v) bs L n (k+1) f (fun j=>if j=k then b else kb j) (fun j=>if j=k then v else kv j) cv:=by
 have g:=h.A1 t;have w:=h.lt (by omega);refine⟨fun j m=>?_,fun j m=>?_,fun j m c=>?_,fun i j hi m q o p=>?_,h.lt⟩
 ·have s:=g.DX j m;by_cases e:j=k
  ·subst e;rw[if_pos (by omega),if_pos rfl];exact s.set v
  ·rw[if_neg e];have u:(if j<k+1 then kv j else cv j)=if j<k then kv j else cv j:=by
    by_cases a:j<k
    ·rw[if_pos a,if_pos (by omega)]
    ·rw[if_neg a,if_neg (by omega)]
   rw[u];exact s.other v (fun r B=>by omega)
 ·by_cases e:j=k
  ·subst e;simp only[if_true];exact x.AD (AC.put _ _ _ _) (fun c y=>by have:=l c;omega)
  ·simp only[if_neg e];exact(g.dead j (by omega)).AD (AC.put _ _ _ _) (fun c y=>by have:=g.Bq j (by omega) c;omega)
 ·simp only[World.size_setCell];by_cases e:j=k
  ·subst e;rw[if_pos rfl];have:=l c;omega
  ·rw[if_neg e];have:=g.Bq j (by omega) c;omega
 ·show(if i=k then b else kb i)≠(if j=k then b else kb j);by_cases d:i=k
  ·by_cases a:j=k
   ·omega
   ·rw[if_pos d,if_neg a];subst d;have:=l o;have:=h.Bq j (by omega) p;omega
  ·by_cases a:j=k
   ·rw[if_neg d,if_pos a];subst a;have:=l p;have:=h.Bq i (by omega) o;omega
   ·rw[if_neg d,if_neg a];exact h.BY i j (by omega) (by omega) q o p
variable{c:Nat}{a:Option Addr}
theorem DG.own(h:DG wr bs L n n f kb kv cv)(q:n<=maxLen)(m:0<n->a=some ⟨bs,0,none⟩)(o:n<=c)(hs:∀i,i<n->(f i).name.size<=maxLen):Dw wr bs kb kv (.slice a n c) n f:=
 ⟨q,a,c,rfl,o,fun b=>⟨0,m b,fun i hi=>by
  obtain⟨b,g,j,k,l,d⟩:=h.DX i hi;rw[if_pos hi]at d;rw[Nat.zero_add];exact⟨b,g,j,k,l,d,h.dead i hi,hs i hi,fun p e=>by have:=h.Bq i hi p;have:=h.lt (by omega);omega⟩⟩⟩
theorem DG.turned0(h:DG wr bs L n 0 f kb kv cv)(t:AC S wr w')(hs:∀q,S q->0<n->q≠bs):DG w' bs L n 0 f kb kv cv:=
 ⟨fun j a=>(h.DX j a).AD t (fun e=>hs _ e (by omega) rfl),fun j a=>absurd a (Nat.not_lt_zero _),fun j a=>absurd a (Nat.not_lt_zero _),h.BY,h.lt⟩
theorem DG.weak{L':Nat}(h:DG wr bs L n 0 f kb kv cv)(b:L<=L'):DG wr bs L' n 0 f kb kv cv:=
 ⟨h.DX,h.dead,fun j c=>absurd c (Nat.not_lt_zero _),h.BY,fun a=>Nat.lt_of_lt_of_le (h.lt a) b⟩
theorem De.values(h:De w lo hi (.slice a n c) n f) :
 ∃k:Nat->Value,(∀i,i<n->Ay w lo hi (k i) (f i).dn (f i).ds (f i).db/\(f i).name.size<=maxLen)/\
  (0<n->∃b off,a=some ⟨b,off,none⟩/\∀j u,(Fz f k n)[j]?=some u->w.cell? ⟨b,off+j,none⟩=some u):=by
 obtain⟨_,B,c0,m,_,g⟩:=h;simp only[Value.slice.injEq,true_and]at m;obtain⟨rfl,rfl⟩:=m;by_cases hn:0<n
 ·obtain⟨b,off,p,s,t,v⟩:=g hn;have l:∀i,∃x,i<n->I2 w b (off+i*6) lo hi x (f i):=fun i=>by
   by_cases hi:i<n
   ·obtain⟨vd,hs⟩:=v i hi;exact⟨vd,fun _=>hs⟩
   ·exact⟨.slice none 0 0,fun h=>absurd h hi⟩
  obtain⟨k,d⟩:=Classical.axiomOfChoice l;refine⟨k,fun i hi=>⟨(d i hi).dead,(d i hi).Bo⟩,fun _=>⟨b,off,p,fun j u o=>?_⟩⟩;have y:j<n*6:=by
   have:=(List.getElem?_eq_some_iff.1 o).1
   rwa [O9]at this
  have hs:=d (j / 6) (by omega);have e:=Jc f k n (i:=j / 6) (r:=j % 6) (by omega) (by omega);rw[show j / 6*6+j % 6=j by omega,o]at e;have A:j % 6<6:=(by omega);have z:off+j=off+j / 6*6+j % 6:=(by omega);rw[z];generalize j % 6=r at A e ⊢;generalize j / 6=q at hs e ⊢;rcases r with _ | _ | _ | _ | _ | _ | r
  ·cases e;exact hs.c0
  ·cases e;exact hs.c1
  ·cases e;exact hs.c2
  ·cases e;exact hs.c3
  ·cases e;exact hs.c4
  ·cases e;exact hs.c5
  ·omega
 ·exact⟨fun _=>.slice none 0 0,fun i hi=>absurd hi (by omega),fun h=>absurd h hn⟩
theorem RW{base:Nat}(e:w1.ownsRow base 70 6 v n (Fz f cv n))(L:Nat)(s:w1.heap.size<=L):∃l a c,v = .slice a n c/\n<=c/\(0<n->a=some ⟨l,0,none⟩/\base<=l/\l<w1.heap.size)/\DG w1 l L n 0 f (fun _=>0) cv cv:=by
 obtain⟨q,c1,rfl,k⟩:=C6 e;by_cases m:0<n
 ·obtain⟨g,cap,hv,_,o,p,b⟩:=Gd e m;simp only[Value.slice.injEq,true_and]at hv;obtain⟨rfl,rfl⟩:=hv;refine⟨g,_,_,rfl,k,fun _=>⟨rfl,o,p⟩,fun j d=>?_,fun j d=>absurd d (Nat.not_lt_zero _),fun j d=>absurd d (Nat.not_lt_zero _),fun i j hi=>absurd hi (Nat.not_lt_zero _),fun _=>by omega⟩;rw[if_neg (Nat.not_lt_zero _)];exact⟨b _ _ (Jc f cv n d (r:=0) (by omega)),b _ _ (Jc f cv n d (r:=1) (by omega)),b _ _ (Jc f cv n d (r:=2) (by omega)),b _ _ (Jc f cv n d (r:=3) (by omega)),b _ _ (Jc f cv n d (r:=4) (by omega)),b _ _ (Jc f cv n d (r:=5) (by omega))⟩
 ·exact⟨0,_,_,rfl,k,fun h=>absurd h m,fun j d=>absurd d (by omega),fun j d=>absurd d (Nat.not_lt_zero _),fun j d=>absurd d (Nat.not_lt_zero _),fun i j hi=>absurd hi (Nat.not_lt_zero _),fun h=>absurd h m⟩
def EB(f:Nat->AT)(cv:Nat->Value)(i r:Nat):Value:=
 match r with
 | 0=>.int .i64 (f i).id
 | 1=>.string (f i).name
 | 2=>.string (f i).set
 | 3=>.int .i64 (f i).A5
 | 4=>.int .i64 (f i).time
 | 5=>.int .i64 (f i).rs
 | 6=>.int .i64 (f i).rb
 | _=>cv i
def Fe(f:Nat->AT)(cv:Nat->Value)(n:Nat):List Value:=(List.range (n*8)).map fun j=>EB f cv (j / 8) (j % 8)
theorem MG(f:Nat->AT)(a:Nat->Value)(n:Nat):(Fe f a n).length=n*8:=by simp[Fe]
theorem I9(f:Nat->AT)(a:Nat->Value)(n:Nat){i r:Nat}(hi:i<n)(d:r<8):(Fe f a n)[i*8+r]?=some (EB f a i r):=by
 have h:i*8+r<n*8:=by omega
 have b:(i*8+r) / 8=i:=by omega
 have c:(i*8+r) % 8=r:=by omega
 simp[Fe,h,b,c]
theorem OK(f:Nat->AT)(a:Nat->Value)(n:Nat)(h:∀i,i<n->(a i).oneCell'=true):∀u∈Fe f a n,u.oneCell'=true:=by
 intro u b;unfold Fe at b;obtain⟨j,c,rfl⟩:=List.mem_map.1 b;have d:=List.mem_range.1 c;have hi:j / 8<n:=by omega
 have e:j % 8<8:=by omega
 generalize j % 8=r at e ⊢;rcases r with _ | _ | _ | _ | _ | _ | _ | _<;>first | rfl | exact h _ hi
def FC(w:World)(b o:Nat)(s:AT)(vd:Value):Prop:=AF w b o (.int .i64 s.id)/\AF w b (o+1) (.string s.name)/\AF w b (o+2) (.string s.set)/\AF w b (o+3) (.int .i64 s.A5)/\AF w b (o+4) (.int .i64 s.time)/\AF w b (o+5) (.int .i64 s.rs)/\AF w b (o+6) (.int .i64 s.rb)/\AF w b (o+7) vd
variable{s:AT}
theorem FC.AD(h:FC w b o s vd)(t:AC S w w')(hs:¬S b):FC w' b o s vd:=by
 obtain⟨a,c,d,e,f,g,i,j⟩:=h;exact⟨a.AD t hs,c.AD t hs,d.AD t hs,e.AD t hs,f.AD t hs,g.AD t hs,i.AD t hs,j.AD t hs⟩
theorem FC.A1(h:FC w b o s vd)(t:Below w.heap.size w w'):FC w' b o s vd:=
 h.AD (AC.CX (S:=fun _=>False) t) (fun h=>h)
theorem FC.set(h:FC w b o s vd)(u:Value):FC (w.setCell ⟨b,o+7,none⟩ u) b o s u:=by
 obtain⟨a,c,d,e,f,g,i,j⟩:=h;exact⟨a.other _ (Or.inr (by omega)),c.other _ (Or.inr (by omega)),d.other _ (Or.inr (by omega)),e.other _ (Or.inr (by omega)),f.other _ (Or.inr (by omega)),g.other _ (Or.inr (by omega)),i.other _ (Or.inr (by omega)),j.set _⟩
theorem FC.other{o':Nat}(h:FC w b o s vd)(u:Value)(a:∀r,r<8->o'≠o+r):FC (w.setCell ⟨b,o',none⟩ u) b o s vd:=by
 obtain⟨c,d,e,f,g,i,j,k⟩:=h;exact⟨c.other _ (Or.inr (a 0 (by omega))),d.other _ (Or.inr (a 1 (by omega))),e.other _ (Or.inr (a 2 (by omega))),f.other _ (Or.inr (a 3 (by omega))),g.other _ (Or.inr (a 4 (by omega))),i.other _ (Or.inr (a 5 (by omega))),j.other _ (Or.inr (a 6 (by omega))),k.other _ (Or.inr (a 7 (by omega)))⟩
structure DF (wr:World) (bs L n k:Nat) (f:Nat->AT) (kb:Nat->Nat) (kv cv:Nat->Value):Prop where
 DX:∀j,j<n->FC wr bs (j*8) (f j) (if j<k then kv j else cv j)
 dead:∀j,j<k->Bm wr (kb j) (kv j) (f j).dn (f j).ds (f j).db
 Bq:∀j,j<k->0<(f j).dn->L<=kb j/\kb j<wr.heap.size
 BY:MM kb k f
 lt:0<n->bs<L
variable{f:Nat->AT}
theorem DF.A1(h:DF wr bs L n k f kb kv cv)(t:Below wr.heap.size wr w'):DF w' bs L n k f kb kv cv:=
 ⟨fun j a=>(h.DX j a).A1 t,fun j a=>(h.dead j a).A1 t,fun j a b=>by have:=h.Bq j a b;have:=t.size;omega,h.BY,h.lt⟩
theorem DF.AD(h:DF wr bs L n k f kb kv cv)(t:AC S wr w')(hs:∀q,S q->(0<n->q≠bs)/\q<L)(c:k<=n):DF w' bs L n k f kb kv cv:=
 ⟨fun j a=>(h.DX j a).AD t (fun e=>(hs _ e).1 (by omega) rfl),fun j a=>(h.dead j a).AD t (fun b e=>by have:=h.Bq j a b;have:=(hs _ e).2;omega),fun j a b=>by have:=h.Bq j a b;have:=t.size;omega,h.BY,h.lt⟩
theorem DF.next(h:DF wr bs L n k f kb kv cv)(A:k<n)(z:L<=wr.heap.size)(t:Below wr.heap.size wr w1)
 (x:Bm w1 b v (f k).dn (f k).ds (f k).db) (l:0<(f k).dn->wr.heap.size<=b/\b<w1.heap.size) :
 DF (w1.setCell ⟨bs,k*8+7,none⟩ v) bs L n (k+1) f (fun j=>if j=k then b else kb j) (fun j=>if j=k then v else kv j) cv:=by
 have g:=h.A1 t;have w:=h.lt (by omega);refine⟨fun j m=>?_,fun j m=>?_,fun j m c=>?_,fun i j hi m q o p=>?_,h.lt⟩
 ·have s:=g.DX j m;by_cases e:j=k
  ·subst e;rw[if_pos (by omega),if_pos rfl];exact s.set v
  ·rw[if_neg e];have u:(if j<k+1 then kv j else cv j)=if j<k then kv j else cv j:=by
    by_cases a:j<k
    ·rw[if_pos a,if_pos (by omega)]
    ·rw[if_neg a,if_neg (by omega)]
   rw[u];exact s.other v (fun r B=>by omega)
 ·by_cases e:j=k
  ·subst e;simp only[if_true];exact x.AD (AC.put _ _ _ _) (fun c y=>by have:=l c;omega)
  ·simp only[if_neg e];exact(g.dead j (by omega)).AD (AC.put _ _ _ _) (fun c y=>by have:=g.Bq j (by omega) c;omega)
 ·simp only[World.size_setCell];by_cases e:j=k
  ·subst e;rw[if_pos rfl];have:=l c;omega
  ·rw[if_neg e];have:=g.Bq j (by omega) c;omega
 ·show(if i=k then b else kb i)≠(if j=k then b else kb j);by_cases d:i=k
  ·by_cases a:j=k
   ·omega
   ·rw[if_pos d,if_neg a];subst d;have:=l o;have:=h.Bq j (by omega) p;omega
  ·by_cases a:j=k
   ·rw[if_neg d,if_pos a];subst a;have:=l p;have:=h.Bq i (by omega) o;omega
   ·rw[if_neg d,if_neg a];exact h.BY i j (by omega) (by omega) q o p
theorem DF.own(h:DF wr bs L n n f kb kv cv)(s:n<=maxLen)(p:0<n->a=some ⟨bs,0,none⟩)(q:n<=c)(hs:∀i,i<n->((f i).name.size<=maxLen/\(f i).set.size<=maxLen)):Fo wr bs kb kv (.slice a n c) n f:=
 ⟨s,a,c,rfl,q,fun b=>⟨0,p b,fun i hi=>by
  obtain⟨b,g,j,k,l,m,o,d⟩:=h.DX i hi;rw[if_pos hi]at d;rw[Nat.zero_add];exact⟨b,g,j,k,l,m,o,d,h.dead i hi,hs i hi,fun r e=>by have:=h.Bq i hi r;have:=h.lt (by omega);omega⟩⟩⟩
theorem DF.turned0(h:DF wr bs L n 0 f kb kv cv)(t:AC S wr w')(hs:∀q,S q->0<n->q≠bs):DF w' bs L n 0 f kb kv cv:=
 ⟨fun j a=>(h.DX j a).AD t (fun e=>hs _ e (by omega) rfl),fun j a=>absurd a (Nat.not_lt_zero _),fun j a=>absurd a (Nat.not_lt_zero _),h.BY,h.lt⟩
theorem DF.weak{L':Nat}(h:DF wr bs L n 0 f kb kv cv)(b:L<=L'):DF wr bs L' n 0 f kb kv cv:=
 ⟨h.DX,h.dead,fun j c=>absurd c (Nat.not_lt_zero _),h.BY,fun a=>Nat.lt_of_lt_of_le (h.lt a) b⟩
theorem D8.values(h:D8 w lo hi (.slice a n c) n f) :
 ∃k:Nat->Value,(∀i,i<n->Ay w lo hi (k i) (f i).dn (f i).ds (f i).db/\((f i).name.size<=maxLen/\(f i).set.size<=maxLen))/\
  (0<n->∃b off,a=some ⟨b,off,none⟩/\∀j u,(Fe f k n)[j]?=some u->w.cell? ⟨b,off+j,none⟩=some u):=by
 obtain⟨_,B,c0,m,_,g⟩:=h;simp only[Value.slice.injEq,true_and]at m;obtain⟨rfl,rfl⟩:=m;by_cases hn:0<n
 ·obtain⟨b,off,p,s,t,v⟩:=g hn;have l:∀i,∃x,i<n->Fp w b (off+i*8) lo hi x (f i):=fun i=>by
   by_cases hi:i<n
   ·obtain⟨vd,hs⟩:=v i hi;exact⟨vd,fun _=>hs⟩
   ·exact⟨.slice none 0 0,fun h=>absurd h hi⟩
  obtain⟨k,d⟩:=Classical.axiomOfChoice l;refine⟨k,fun i hi=>⟨(d i hi).dead,(d i hi).Bo⟩,fun _=>⟨b,off,p,fun j u o=>?_⟩⟩;have y:j<n*8:=by
   have:=(List.getElem?_eq_some_iff.1 o).1
   rwa [MG]at this
  have hs:=d (j / 8) (by omega);have e:=I9 f k n (i:=j / 8) (r:=j % 8) (by omega) (by omega);rw[show j / 8*8+j % 8=j by omega,o]at e;have A:j % 8<8:=(by omega);have z:off+j=off+j / 8*8+j % 8:=(by omega);rw[z];generalize j % 8=r at A e ⊢;generalize j / 8=q at hs e ⊢;rcases r with _ | _ | _ | _ | _ | _ | _ | _ | r
  ·cases e;exact hs.c0
  ·cases e;exact hs.c1
  ·cases e;exact hs.c2
  ·cases e;exact hs.c3
  ·cases e;exact hs.c4
  ·cases e;exact hs.c5
  ·cases e;exact hs.c6
  ·cases e;exact hs.c7
  ·omega
 ·exact⟨fun _=>.slice none 0 0,fun i hi=>absurd hi (by omega),fun h=>absurd h hn⟩
theorem Oy{base:Nat}(e:w1.ownsRow base 43 8 v n (Fe f cv n))(L:Nat)(s:w1.heap.size<=L):∃l a c,v = .slice a n c/\n<=c/\(0<n->a=some ⟨l,0,none⟩/\base<=l/\l<w1.heap.size)/\DF w1 l L n 0 f (fun _=>0) cv cv:=by
 obtain⟨q,c1,rfl,k⟩:=C6 e;by_cases m:0<n
 ·obtain⟨g,cap,hv,_,o,p,b⟩:=Gd e m;simp only[Value.slice.injEq,true_and]at hv;obtain⟨rfl,rfl⟩:=hv;refine⟨g,_,_,rfl,k,fun _=>⟨rfl,o,p⟩,fun j d=>?_,fun j d=>absurd d (Nat.not_lt_zero _),fun j d=>absurd d (Nat.not_lt_zero _),fun i j hi=>absurd hi (Nat.not_lt_zero _),fun _=>by omega⟩;rw[if_neg (Nat.not_lt_zero _)];exact⟨b _ _ (I9 f cv n d (r:=0) (by omega)),b _ _ (I9 f cv n d (r:=1) (by omega)),b _ _ (I9 f cv n d (r:=2) (by omega)),b _ _ (I9 f cv n d (r:=3) (by omega)),b _ _ (I9 f cv n d (r:=4) (by omega)),b _ _ (I9 f cv n d (r:=5) (by omega)),b _ _ (I9 f cv n d (r:=6) (by omega)),b _ _ (I9 f cv n d (r:=7) (by omega))⟩
 ·exact⟨0,_,_,rfl,k,fun h=>absurd h m,fun j d=>absurd d (by omega),fun j d=>absurd d (Nat.not_lt_zero _),fun j d=>absurd d (Nat.not_lt_zero _),fun i j hi=>absurd hi (Nat.not_lt_zero _),fun h=>absurd h m⟩
def JQ(W:A4):Prop:=(∀i,i<W.sn->(W.A2 i).dn<=1048576)/\∀i,i<W.pn->(W.A0 i).dn<=1048576
open Go.Maps
def Bz(v:Value):Option (DataW Value×List MemPlace):=some (.held v,[])
theorem Ja{d:DataW Value}{ps:List MemPlace}(h:Bz v=some (d,ps)):d = .held v:=by
 unfold Bz at h;simp only[Option.some.injEq,Prod.mk.injEq]at h;exact h.1.symm
theorem F9(v:Value):Bz v=some (.held v,[]):=rfl
variable{P:Program}{g:Array Oper}{rest:List Oper}{Q:Exit->Act->World->Prop}
theorem Rc(w:World){o:Oper}{a:Act}
 (l:o.guard=none) (m x:Operand) (t:TypeId) (hop:o.op=Op.lookup t m x false)
 (k e:TypeId) (K:Keyed P k) (q:P.underlying t=some (.map k e)) {z:Value} (s:(zeroValue e).run P w = .ok z w) (b n:Nat) (D:DataW Value)
 (p:a.eval m = .map (some b)) (d:w.ownsMap P k Bz b n D) (key:Value) (kl:Lit) (r:a.eval x=key) (c:keyOf P k key=some kl)
 (v:Value) (j:D.atKey kl (.held z) = .held v) (hK:wpList P g Q rest (a.put o.dst v) w) :
 wpList P g Q (o :: rest) a w:=by
 refine wpList_plain l fun u i=>?_
 obtain⟨y,ps,f,hv⟩:=d.lookup K q s (F9 z) c;have h:=Ja hv;rw[j]at h;injection h with h;subst h;unfold Oper.wp;simp[execOp,hop,p,r,f,Result.andThen];exact i _ _ hK
theorem Rd(w:World){o:Oper}{a:Act}
 (l:o.guard=none) (m x:Operand) (t:TypeId) (hop:o.op=Op.lookup t m x true)
 (k e:TypeId) (K:Keyed P k) (q:P.underlying t=some (.map k e)) {z:Value} (s:(zeroValue e).run P w = .ok z w) (b n:Nat) (D:DataW Value)
 (p:a.eval m = .map (some b)) (f:w.ownsMap P k Bz b n D) (key:Value) (kl:Lit) (r:a.eval x=key) (d:keyOf P k key=some kl)
 (v:Value) (i:D.atKey kl (.held z) = .held v) (c:Bool) (j:Maps.has D kl=c) (hK:wpList P g Q rest (a.put o.dst (.tuple #[v,.bool c])) w) :
 wpList P g Q (o :: rest) a w:=by
 refine wpList_lookup_own_ok w l m x t hop k e K q Bz s (.held z) [] (F9 z) b n D p f key kl r d (fun u ps hv=>?_);have h:=Ja hv;rw[i]at h;injection h with h;subst h;rw[j];exact hK
def putD(key:Nat->Lit)(val:Nat->Value):Nat->DataW Value
 | 0=>.map []
 | k+1=>(putD key val k).put (key k) (.held (val k))
def Gy(key:Nat->Lit):Prop:=∀i,WideAt.IsKeyLit (key i)
theorem Kn{key:Nat->Lit}(a:Gy key)(val:Nat->Value):∀k,Tidy (putD key val k)
 | 0=>tidy_empty
 | k+1=>(Kn a val k).put (a k) _
theorem KV{key:Nat->Lit}(a:Gy key)(val:Nat->Value)(l:Lit):∀k,Maps.has (putD key val k) l=true↔∃i,i<k/\key i=l
 | 0=>by
  constructor
  ·intro h;exact absurd h (by simp[putD,Maps.has])
  ·rintro⟨i,hi,_⟩;omega
 | k+1=>by
  by_cases b:key k=l
  ·subst b;exact⟨fun _=>⟨k,by omega,rfl⟩,fun _=>has_put_same (Kn a val k).isMap (a k) _⟩
  ·rw[show Maps.has (putD key val (k+1)) l=Maps.has (putD key val k) l from has_put_other (Ne.symm b) _,KV a val l k];constructor
   ·rintro⟨i,hi,e⟩;exact⟨i,by omega,e⟩
   ·rintro⟨i,hi,e⟩;by_cases h:i=k
    ·subst h;exact absurd e b
    ·exact⟨i,by omega,e⟩
variable{key:Nat->Lit}
theorem R2(b:Gy key)(val:Nat->Value){l:Lit}(h:∀i,i<k->key i≠l)(z:DataW Value):(putD key val k).atKey l z=z:=by
 refine atKey_of_not_has ?_ _;rw[Bool.eq_false_iff];intro a;obtain⟨i,hi,e⟩:=(KV b val l k).1 a;exact h i hi e
theorem NS{key:Nat->Lit}(a:Gy key)(val:Nat->Value)(z:DataW Value):∀k i,i<k->(∀j,i<j->j<k->key j≠key i)->(putD key val k).atKey (key i) z = .held (val i)
 | 0,i,hi,_=>absurd hi (Nat.not_lt_zero _)
 | k+1,i,hi,hd=>by
  by_cases e:i=k
  ·subst e;exact atKey_put_same (Kn a val i).isMap (a i) _ _
  ·exact(atKey_put_other (Ne.symm (hd k (by omega) (by omega))) _ _).trans (NS a val z k i (by omega) (fun j b c=>hd j b (by omega)))
def Gv(n:Nat)(key:Nat->Lit):Prop:=∀i,i<n->∀k,k<i->key k≠key i
theorem RH{f:Nat->Lit}:Gv (k+1) f↔Gv k f/\∀i,i<k->f i≠f k:=by
 constructor
 ·exact fun h=>⟨fun i hi=>h i (by omega),fun i hi=>h k (by omega) i hi⟩
 ·rintro⟨b,c⟩ i hi j a;by_cases e:i=k
  ·subst e;exact c j a
  ·exact b i (by omega) j a
theorem R3{key:Nat->Lit}(b:Gy key)(val:Nat->Value):∀k,Maps.size (putD key val k)<=k/\(Maps.size (putD key val k)=k↔Gv k key)
 | 0=>⟨Nat.le_refl _,fun _ i hi=>by omega,fun _=>rfl⟩
 | k+1=>by
  obtain⟨f,d⟩:=R3 b val k;have e:Maps.size (putD key val (k+1))=if Maps.has (putD key val k) (key k)then Maps.size (putD key val k)else Maps.size (putD key val k)+1:=size_put (Kn b val k) _
  by_cases a:Maps.has (putD key val k) (key k)=true
  ·rw[if_pos a]at e;rw[e,RH];refine⟨by omega,fun h=>by omega,fun h=>?_⟩;obtain⟨i,hi,c⟩:=(KV b val (key k) k).1 a;exact absurd c (h.2 i hi)
  ·rw[if_neg a]at e;rw[e,RH,<-d];refine⟨by omega,fun h=>⟨by omega,fun i hi c=>a ((KV b val (key k) k).2 ⟨i,hi,c⟩)⟩,fun h=>by omega⟩
theorem Yc(n:Int)(w:World):Calls Tryz.prog 66 #[.int .i64 n] w fun e w'=>AJ (JV n 1 900000) e/\w'=w:=by
 by_cases a:1<=n
 ·by_cases b:n<=900000
  ·go_enter Tryz.func66,Tryz.ntmps66;go_wp2;go_ret;exact⟨AJ.yes ⟨a,b⟩,rfl⟩
  ·go_enter Tryz.func66,Tryz.ntmps66;go_wp2;go_ret;exact⟨AJ.no fun h=>by have:=h.2;omega,rfl⟩
 ·go_enter Tryz.func66,Tryz.ntmps66;go_wp2;go_ret;exact⟨AJ.no fun h=>by have:=h.1;omega,rfl⟩
def Mid(a x b:Int):Prop:=a<x/\x<b
theorem Xt(a x b:Int)(w:World):Calls Tryz.prog 122 #[.int .i64 a,.int .i64 x,.int .i64 b] w fun e w'=>AJ (Mid a x b) e/\w'=w:=by
 by_cases c:a<x
 ·by_cases d:x<b
  ·go_enter Tryz.func122,Tryz.ntmps122;go_wp2;go_ret;exact⟨AJ.yes ⟨c,d⟩,rfl⟩
  ·go_enter Tryz.func122,Tryz.ntmps122;go_wp2;go_ret;exact⟨AJ.no fun h=>by have:=h.2;omega,rfl⟩
 ·go_enter Tryz.func122,Tryz.ntmps122;go_wp2;go_ret;exact⟨AJ.no fun h=>by have:=h.1;omega,rfl⟩
def G2(f:Nat->Ac):Nat->ByteArray
 | 0=>⟨#[]⟩
 | k+1=>(f k).name
def Zm(n:Nat)(f:Nat->Ac):Prop:=n<=8/\∀i,i<n->Bp (f i).name/\CM (G2 f i) (f i).name
theorem zCj(v:Value)(n lo hi:Nat)(f:Nat->Ac)(w:World)(h:De w lo hi v n f) :
 Calls Tryz.prog 67 #[v] w fun e w'=>AJ (Zm n f) e/\Below w.heap.size w w':=by
 have H:=A3 h;obtain⟨K,a,c,rfl,R,-⟩:=id h;unfold maxLen at K;clear h;by_cases hn:n<=8;rotate_left
 ·have z:(8:Int)<(n:Int):=(by omega);go_enter Tryz.func67,Tryz.ntmps67;go_wp2;go_ret;exact⟨AJ.no fun h=>hn h.1,Below.refl _ _⟩
 have z:¬(8:Int)<(n:Int):=by omega
 go_enter Tryz.func67,Tryz.ntmps67;go_wp2
 go_loopw [3,11] (fun l i wr=>∃k:Nat,k<=n/\i = .int .i64 k/\l = .string (G2 f k)/\(∀j,j<k->Bp (f j).name/\CM (G2 f j) (f j).name)/\Below w.heap.size w wr) (fun _ i _=>n - (intOf i).toNat)
 case atStart=>exact⟨0,Nat.zero_le _,rfl,rfl,fun j J=>absurd J (Nat.not_lt_zero _),Below.refl _ _⟩
 case round=>
  obtain⟨k,Q,rfl,rfl,p,y⟩:=hrel;have o:=A3 p;clear p;by_cases g:k<n;rotate_left
  ·obtain rfl:k=n:=(by omega);go_wp2;go_ret;exact⟨AJ.yes ⟨hn,o.out⟩,y⟩
  have D:(k:Int)<(n:Int):=(by omega);obtain⟨b,off,vd,rfl,d⟩:=(H.out.A1 y).cells g;obtain⟨-,B,C,rfl,-,-⟩:=id d.dead;have t:=A9 wr (.cells #[.string (f k).name,.int .i64 (f k).origin,.int .i64 (f k).A5,.int .i64 (f k).rs,.int .i64 (f k).rb,.slice B (f k).dn C] 70);have x:=A3 (Af.new wr (.string (f k).name) (.int .i64 (f k).origin) (.int .i64 (f k).A5) (.int .i64 (f k).rs) (.int .i64 (f k).rb) (.slice B (f k).dn C) 70);have q:=A8 y t;have L:=d.c0;have q1:=d.c1;have M:=d.c2;have N:=d.c3;have O:=d.c4;have P:=d.c5;have A:=d.Bo;obtain⟨⟨y0,y1⟩,-⟩:=x.out;clear d t;go_wp2_with fail;clear L q1 M N O P;refine(RS (f k).name _ A).mono ?_;rintro e S ⟨⟨E,rfl,m⟩,rfl⟩;by_cases r:Bp (f k).name;rotate_left
  ·have G:=A3 r;obtain rfl:E=false:=Bb m r;clear m r;go_wp2;go_ret;exact⟨AJ.no fun h=>G.out (h.2 k g).1,q⟩
  have F:=A3 r;obtain rfl:E=true:=m.2 r;clear m r;by_cases s:CM (G2 f k) (f k).name
  ·have I:=(TU (f k).name (G2 f k)).2 s;have u:=A3 s;clear s;go_wp2;go_roundw
   case rel=>exact⟨k+1,by omega,by go_num,rfl,Bf g o.out ⟨F.out,u.out⟩,q⟩
   case measure=>simp[intOf];omega
  ·have I:(Op.bytesLess (f k).name.toList (G2 f k).toList || (f k).name.toList == (G2 f k).toList)=true:=by
    cases hc:(Op.bytesLess (f k).name.toList (G2 f k).toList || (f k).name.toList == (G2 f k).toList)
    ·exact absurd ((TU _ _).1 hc) s
    ·rfl
   have u:=A3 s;clear s;go_wp2;go_ret;exact⟨AJ.no fun h=>u.out (h.2 k g).2,q⟩
theorem Ro:laidOutB Tryz.prog=true:=by kernel_rfl
theorem qW:300<=Tryz.prog.types.size+300 - 1/\1<=Tryz.prog.types.size:=by
 have h:decide (1<=Tryz.prog.types.size)=true:=by kernel_rfl
 have:=of_decide_eq_true h;omega
theorem Rk(h:decide (k<Tryz.prog.types.size)=true):k<Tryz.prog.types.size:=of_decide_eq_true h
theorem zIY:Tryz.prog.underlying 9=some .string:=by kernel_rfl
theorem qh:Tryz.prog.underlying 2=some (.int .i64):=by kernel_rfl
theorem S6:Keyed Tryz.prog 9:=string_keyed zIY
theorem J3:Keyed Tryz.prog 2:=int_keyed qh
def DZ(s:ByteArray):Lit:=.string s.data.toList
variable{s:ByteArray}
theorem TP(h:s.size<=maxLen):keyOf Tryz.prog 9 (.string s)=some (DZ s):=by simp[keyOf,mapKey,DZ,h]
variable{t:ByteArray}
theorem zEZ(h:DZ s=DZ t):s=t:=by
 unfold DZ at h;injection h with h;cases s;cases t;simp only[ByteArray.mk.injEq];exact Array.toList_inj.1 h
theorem Uo(s:ByteArray):WideAt.IsKeyLit (DZ s):=trivial
def Dr(x:Int):Lit:=.int .i64 x
variable{x:Int}
theorem JY(h:(Lit.int .i64 x).wf=true):keyOf Tryz.prog 2 (.int .i64 x)=some (Dr x):=keyOf_int_mk qh h
theorem O5{y:Int}(h:Dr x=Dr y):x=y:=by unfold Dr at h;injection h
theorem QF(x:Int):WideAt.IsKeyLit (Dr x):=trivial
theorem yH:Tryz.prog.underlying 197=some (.array 2 9):=by kernel_rfl
theorem S7:Keyed Tryz.prog 197:=Keyed.of_law (deep_law_laid Ro (m:=5) (by decide) (Rk (by kernel_rfl)) (by kernel_rfl) (by kernel_rfl))
theorem zGg(hs:s.size<=maxLen)(e:t.size<=maxLen):∃l,keyOf Tryz.prog 197 (.agg #[.string s,.string t])=some l:=by
 obtain⟨m,d⟩:∃m,Tryz.prog.types.size+1=m+2:=⟨Tryz.prog.types.size - 1,by have:=qW;omega⟩;have c:Tryz.prog.keyType 197=true:=by kernel_rfl
 have a:Tryz.prog.cellsOf 197=2:=by kernel_rfl
 have b:Tryz.prog.cellsOf 9=1:=by kernel_rfl
 unfold keyOf;simp only[yH];rw[if_pos (by simp[c,Value.formed,a]),d];unfold Program.keyLits;simp only[yH,Value.cells];rw[if_pos (by rw[a];rfl),show List.range 2 = [0,1] from rfl,List.mapM_cons,List.mapM_cons,List.mapM_nil];simp[b,Program.keyLits,hs,e]
theorem yG:Tryz.prog.underlying 40=some (.struct #[⟨ "Slot",2,0,false, "", "",0⟩,⟨ "Birth",2,1,false, "", "",8⟩]):=by kernel_rfl
theorem Jz:Keyed Tryz.prog 40:=Keyed.of_law (deep_law_laid Ro (m:=5) (by decide) (Rk (by kernel_rfl)) (by kernel_rfl) (by kernel_rfl))
theorem Q5{y:Int}(e:(Lit.int .i64 x).wf=true)(f:(Lit.int .i64 y).wf=true):∃l,keyOf Tryz.prog 40 (.agg #[.int .i64 x,.int .i64 y])=some l:=by
 obtain⟨m,d⟩:∃m,Tryz.prog.types.size+1=m+2:=⟨Tryz.prog.types.size - 1,by have:=qW;omega⟩;have c:Tryz.prog.keyType 40=true:=by kernel_rfl
 have a:Tryz.prog.cellsOf 40=2:=by kernel_rfl
 have b:Tryz.prog.cellsOf 2=1:=by kernel_rfl
 unfold keyOf;simp only[yG];rw[if_pos (by simp[c,Value.formed,a]),d];unfold Program.keyLits;simp only[yG,Value.cells];rw[if_pos ⟨by rw[a];rfl,by kernel_rfl⟩];simp[b,Program.keyLits,e,f]
def Gl(vd:Value)(s:Ac):Value:=.agg #[.string s.name,.int .i64 s.origin,.int .i64 s.A5,.int .i64 s.rs,.int .i64 s.rb,vd]
def BX(vd:Value)(s:AT):Value:=.agg #[.int .i64 s.id,.string s.name,.string s.set,.int .i64 s.A5,.int .i64 s.time,.int .i64 s.rs,.int .i64 s.rb,vd]
def Us(w:World)(lo hi n:Nat)(f:Nat->Ac)(vd:Nat->Value):Prop:=∀i,i<n->Ay w lo hi (vd i) (f i).dn (f i).ds (f i).db
def O8(w:World)(lo hi n:Nat)(f:Nat->AT)(vd:Nat->Value):Prop:=∀i,i<n->Ay w lo hi (vd i) (f i).dn (f i).ds (f i).db
open Classical in
theorem De.vals{f:Nat->Ac}(h:De w lo hi (.slice a n c) n f):∃vd:Nat->Value,Us w lo hi n f vd/\∀i,i<n->∃b off,a=some ⟨b,off,none⟩/\I2 w b (off+i*6) lo hi (vd i) (f i):=by
 have e:∀i,∃v,i<n->∃b off,a=some ⟨b,off,none⟩/\I2 w b (off+i*6) lo hi v (f i):=fun i=>by
  by_cases d:i<n
  ·obtain⟨b,off,vd,g,hs⟩:=h.cells d;exact⟨vd,fun _=>⟨b,off,g,hs⟩⟩
  ·exact⟨undef,fun h=>absurd h d⟩
 refine⟨fun i=>(e i).choose,fun i d=>?_,fun i d=>(e i).choose_spec d⟩;obtain⟨b,off,_,hs⟩:=(e i).choose_spec d;exact hs.dead
open Classical in
theorem D8.vals(h:D8 w lo hi (.slice a n c) n f):∃vd:Nat->Value,O8 w lo hi n f vd/\∀i,i<n->∃b off,a=some ⟨b,off,none⟩/\Fp w b (off+i*8) lo hi (vd i) (f i):=by
 have e:∀i,∃v,i<n->∃b off,a=some ⟨b,off,none⟩/\Fp w b (off+i*8) lo hi v (f i):=fun i=>by
  by_cases d:i<n
  ·obtain⟨b,off,vd,g,hs⟩:=h.cells d;exact⟨vd,fun _=>⟨b,off,g,hs⟩⟩
  ·exact⟨undef,fun h=>absurd h d⟩
 refine⟨fun i=>(e i).choose,fun i d=>?_,fun i d=>(e i).choose_spec d⟩;obtain⟨b,off,_,hs⟩:=(e i).choose_spec d;exact hs.dead
theorem Ru:Tryz.prog.underlying 165=some (.map 9 70):=by kernel_rfl
theorem JM:Tryz.prog.underlying 76=some (.map 2 43):=by kernel_rfl
theorem Ym:Tryz.prog.underlying 196=some (.map 197 2):=by kernel_rfl
def GW(w:World)(W:A4)(M n:Nat)(vd:Nat->Value):Prop:=w.ownsMap Tryz.prog 9 Bz M n (putD (fun i=>DZ (W.A2 i).name) (fun i=>Gl (vd i) (W.A2 i)) n)
def Fm(w:World)(W:A4)(M n:Nat)(vd:Nat->Value):Prop:=w.ownsMap Tryz.prog 2 Bz M n (putD (fun i=>Dr (W.A0 i).id) (fun i=>BX (vd i) (W.A0 i)) n)
variable{vd:Nat->Value}
theorem GW.A1{M:Nat}(h:GW w W M n vd)(t:Below w.heap.size w w'):GW w' W M n vd:=h.kept (Dg t none) (by simp)
theorem Fm.A1{M:Nat}(h:Fm w W M n vd)(t:Below w.heap.size w w'):Fm w' W M n vd:=h.kept (Dg t none) (by simp)
theorem zCp(r v1 P s:Value)(lo hi:Nat)(W:A4)(w:World)(h:BM w lo hi r v1 P s W)(hn:W.sn<=8) :
 Calls Tryz.prog 121 #[Bh r v1 P s W] w fun e w'=>∃vd,e = .returned (.map (some (w.heap.size+1)))/\GW w' W (w.heap.size+1) W.sn vd/\Us w lo hi W.sn W.A2 vd/\Below w.heap.size w w':=by
 have Hp:=A3 h;obtain⟨T,a,c,rfl,mc,-⟩:=id h.A2;unfold maxLen at T;obtain⟨vd,A,y⟩:=h.A2.vals;have D:=A3 A;have C:=A3 y;clear h A y;have N:=A9 w (.cells #[r,v1,.int .i64 W.time,.int .i64 W.next,.slice a W.sn c,s] 30);have J:=A3 (Af.new w r v1 (.int .i64 W.time) (.int .i64 W.next) (.slice a W.sn c) s 30);have q:(w.alloc (.cells #[r,v1,.int .i64 W.time,.int .i64 W.next,.slice a W.sn c,s] 30)).heap.size=w.heap.size+1:=World.size_alloc _ _;have H:=World.ownsMap_made (w.alloc (.cells #[r,v1,.int .i64 W.time,.int .i64 W.next,.slice a W.sn c,s] 30)) Tryz.prog 9 Bz;rw[q]at H;have K:=A3 H;have t:=A3 (J.out.A1 (A9 _ (.map #[] 0)));have u:=A3 (A8 N (A9 _ (.map #[] 0)));have R:=@run_makeMap Tryz.prog;obtain⟨U,V,X,Y,Z,I⟩:=t.out.c;clear H;go_enter Tryz.func121,Tryz.ntmps121;go_wp2;clear U V X Y Z I N
 go_loopw [10] (fun i wr=>∃k:Nat,k<=W.sn/\i = .int .i64 k/\GW wr W (w.heap.size+1) k vd/\Below w.heap.size w wr/\w.heap.size+2<=wr.heap.size) (fun i _=>W.sn - (intOf i).toNat)
 case atStart=>exact⟨0,Nat.zero_le _,rfl,K.out,u.out,by rw[World.size_alloc,q];omega⟩
 case round=>
  clear K t u J q;obtain⟨k,hk,rfl,m,F,hz⟩:=hrel;have l:=A3 m;clear m;by_cases G:k<W.sn
  ·have O:(k:Int)<(W.sn:Int):=(by omega);obtain⟨b,off,rfl,z⟩:=C.out k G;have d:=z.A1 F;obtain⟨-,L,M,p,-,-⟩:=id d.dead;have E:=A3 p;rw[p]at d;clear p z;have g:=A9 wr (.cells #[.string (W.A2 k).name,.int .i64 (W.A2 k).origin,.int .i64 (W.A2 k).A5,.int .i64 (W.A2 k).rs,.int .i64 (W.A2 k).rb,.slice L (W.A2 k).dn M] 70);have B:=A3 (Af.new wr (.string (W.A2 k).name) (.int .i64 (W.A2 k).origin) (.int .i64 (W.A2 k).A5) (.int .i64 (W.A2 k).rs) (.int .i64 (W.A2 k).rb) (.slice L (W.A2 k).dn M) 70);have x:=A8 F g;have q0:=d.c0;have q1:=d.c1;have q2:=d.c2;have q3:=d.c3;have q4:=d.c4;have q5:=d.c5;have v:=A3 (TP d.Bo);obtain⟨⟨y0,y1⟩,⟨y2,y3⟩,⟨y4,y5⟩,⟨y6,y7⟩,⟨y8,y9⟩,⟨aA,bA⟩⟩:=B.out;have n:=A3 (l.out.A1 g);have S:=g.size;clear d g;go_wp2_with (first
    | (at_mapUpdate;refine wpList_mapUpdate_own _ rfl _ _ _ 165 rfl 9 70 S6 Ru Bz (w.heap.size+1) k _ rfl n.out (by unfold maxLen;omega) _ _ _ rfl rfl v.out _ [] (F9 _) ?_;intro w1 o f)
    | go_in)
   go_roundw
   case rel=>
    refine⟨k+1,by omega,by go_num,?_,x.grown f x.size (fun j Q=>by cases Q;omega),by have:=f.size;omega⟩;unfold GW putD Gl;rw[E.out];exact o
   case measure=>simp[intOf];omega
  ·obtain rfl:k=W.sn:=(by omega);go_wp2;go_ret;exact⟨vd,rfl,l.out,D.out,F⟩
def GL(n:Nat)(f:Nat->AT):Prop:=∀i,i<n->(Lit.int .i64 (f i).id).wf=true
theorem Ot(r v1 s R:Value)(lo hi:Nat)(W:A4)(w:World)(h:BM w lo hi r v1 s R W)(hn:W.pn<=20)(C:GL W.pn W.A0) :
 Calls Tryz.prog 30 #[Bh r v1 s R W] w fun e w'=>∃vd,e = .returned (.map (some (w.heap.size+1)))/\Fm w' W (w.heap.size+1) W.pn vd/\O8 w lo hi W.pn W.A0 vd/\Below w.heap.size w w':=by
 have Hp:=A3 h;have H:=A3 C;obtain⟨V,a,c,rfl,mc,-⟩:=id h.A0;unfold maxLen at V;obtain⟨vd,B,y⟩:=h.A0.vals;have F:=A3 B;have E:=A3 y;clear h B y C;have P:=A9 w (.cells #[r,v1,.int .i64 W.time,.int .i64 W.next,s,.slice a W.pn c] 30);have L:=A3 (Af.new w r v1 (.int .i64 W.time) (.int .i64 W.next) s (.slice a W.pn c) 30);have q:(w.alloc (.cells #[r,v1,.int .i64 W.time,.int .i64 W.next,s,.slice a W.pn c] 30)).heap.size=w.heap.size+1:=World.size_alloc _ _;have J:=World.ownsMap_made (w.alloc (.cells #[r,v1,.int .i64 W.time,.int .i64 W.next,s,.slice a W.pn c] 30)) Tryz.prog 2 Bz;rw[q]at J;have M:=A3 J;have t:=A3 (L.out.A1 (A9 _ (.map #[] 0)));have u:=A3 (A8 P (A9 _ (.map #[] 0)));have T:=@run_makeMap Tryz.prog;obtain⟨X,Y,Z,x6,x8,K⟩:=t.out.c;clear J;go_enter Tryz.func30,Tryz.ntmps30;go_wp2;clear X Y Z x6 x8 K P
 go_loopw [10] (fun i wr=>∃k:Nat,k<=W.pn/\i = .int .i64 k/\Fm wr W (w.heap.size+1) k vd/\Below w.heap.size w wr/\w.heap.size+2<=wr.heap.size) (fun i _=>W.pn - (intOf i).toNat)
 case atStart=>exact⟨0,Nat.zero_le _,rfl,M.out,u.out,by rw[World.size_alloc,q];omega⟩
 case round=>
  clear M t u L q;obtain⟨k,hk,rfl,m,I,hz⟩:=hrel;have l:=A3 m;clear m;by_cases z:k<W.pn
  ·have Q:(k:Int)<(W.pn:Int):=(by omega);obtain⟨b,off,rfl,A⟩:=E.out k z;have d:=A.A1 I;obtain⟨-,N,O,p,-,-⟩:=id d.dead;have G:=A3 p;rw[p]at d;clear p A;have g:=A9 wr (.cells #[.int .i64 (W.A0 k).id,.string (W.A0 k).name,.string (W.A0 k).set,.int .i64 (W.A0 k).A5,.int .i64 (W.A0 k).time,.int .i64 (W.A0 k).rs,.int .i64 (W.A0 k).rb,.slice N (W.A0 k).dn O] 43);have D:=A3 (CG.new wr (.int .i64 (W.A0 k).id) (.string (W.A0 k).name) (.string (W.A0 k).set) (.int .i64 (W.A0 k).A5) (.int .i64 (W.A0 k).time) (.int .i64 (W.A0 k).rs) (.int .i64 (W.A0 k).rb) (.slice N (W.A0 k).dn O) 43);have x:=A8 I g;have q0:=d.c0;have q1:=d.c1;have q2:=d.c2;have q3:=d.c3;have q4:=d.c4;have q5:=d.c5;have q6:=d.c6;have q7:=d.c7;have v:=A3 (JY (H.out k z));obtain⟨⟨⟨y0,-⟩,⟨y1,-⟩,⟨y2,-⟩,⟨y3,-⟩⟩,⟨y4,-⟩,⟨y5,-⟩,⟨y6,-⟩,⟨y7,-⟩⟩:=D.out;have n:=A3 (l.out.A1 g);have U:=g.size;clear d g;go_wp2_with (first
    | (at_mapUpdate;refine wpList_mapUpdate_own _ rfl _ _ _ 76 rfl 2 43 J3 JM Bz (w.heap.size+1) k _ rfl n.out (by unfold maxLen;omega) _ _ _ rfl rfl v.out _ [] (F9 _) ?_;intro w1 o f)
    | go_in)
   go_roundw
   case rel=>
    refine⟨k+1,by omega,by go_num,?_,x.grown f x.size (fun j S=>by cases S;omega),by have:=f.size;omega⟩;unfold Fm putD BX;rw[G.out];exact o
   case measure=>simp[intOf];omega
  ·obtain rfl:k=W.pn:=(by omega);go_wp2;go_ret;exact⟨vd,rfl,l.out,F.out,I⟩
def ML(n:Nat)(f:Nat->AT):Prop:=∀i,i<n->∀k,k<i->¬((f k).set=(f i).set/\(f k).name=(f i).name)
theorem ML.iff(c:∀i,i<n->keyOf Tryz.prog 197 (.agg #[.string (f i).set,.string (f i).name])=some (key i)):Gv n key↔ML n f:=by
 constructor
 ·intro h i hi k a e;refine h i hi k a ?_;have d:=c i hi;have b:=c k (by omega);rw[e.1,e.2,d]at b;exact(Option.some.inj b).symm
 ·intro h i hi k a e;have d:=c i hi;have b:=c k (by omega);rw[e]at b;have:=S7.inj b d;simp only[Value.agg.injEq,Array.mk.injEq,List.cons.injEq,Value.string.injEq,and_true]at this;exact h i hi k a this
theorem zCt(v:Value)(n lo hi:Nat)(f:Nat->AT)(w:World)(h:D8 w lo hi v n f)(hn:n<=20) :
 Calls Tryz.prog 123 #[v] w fun e w'=>AJ (ML n f) e/\Below w.heap.size w w':=by
 have M:=A3 h;obtain⟨S,a,c,rfl,V,-⟩:=id h;unfold maxLen at S;have o:∀i,∃l,WideAt.IsKeyLit l/\(i<n->keyOf Tryz.prog 197 (.agg #[.string (f i).set,.string (f i).name])=some l):=fun i=>by
  by_cases y:i<n
  ·obtain⟨b,off,vd,_,hs⟩:=h.cells y;obtain⟨l,J⟩:=zGg hs.Bo.2 hs.Bo.1;exact⟨l,S7.key J,fun _=>J⟩
  ·exact⟨.string [],trivial,fun h=>absurd h y⟩
 obtain⟨key,z,A⟩:∃key:Nat->Lit,Gy key/\∀i,i<n->keyOf Tryz.prog 197 (.agg #[.string (f i).set,.string (f i).name])=some (key i):=⟨fun i=>(o i).choose,fun i=>(o i).choose_spec.1,fun i=>(o i).choose_spec.2⟩;have D:=A3 z;have u:=A3 A;clear h o z A;have G:=A3 (World.ownsMap_made w Tryz.prog 197 Bz);have Q:=@run_makeMap Tryz.prog;go_enter Tryz.func123,Tryz.ntmps123;go_wp2
 go_loopw [9] (fun i wr=>∃k:Nat,k<=n/\i = .int .i64 k/\wr.ownsMap Tryz.prog 197 Bz w.heap.size k (putD key (fun i=>.int .i64 (f i).id) k)/\Below w.heap.size w wr/\w.heap.size+1<=wr.heap.size) (fun i _=>n - (intOf i).toNat)
 case atStart=>exact⟨0,Nat.zero_le _,rfl,G.out,A9 _ _,by rw[World.size_alloc];omega⟩
 case round=>
  clear G;obtain⟨k,T,rfl,q,F,U⟩:=hrel;have p:=A3 q;clear q;by_cases B:k<n
  ·have K:(k:Int)<(n:Int):=(by omega);obtain⟨b,off,vd,rfl,d⟩:=(M.out.A1 F).cells B;obtain⟨-,H,I,rfl,-,-⟩:=id d.dead;have m:=A9 wr (.cells #[.int .i64 (f k).id,.string (f k).name,.string (f k).set,.int .i64 (f k).A5,.int .i64 (f k).time,.int .i64 (f k).rs,.int .i64 (f k).rb,.slice H (f k).dn I] 43);have C:=A3 (CG.new wr (.int .i64 (f k).id) (.string (f k).name) (.string (f k).set) (.int .i64 (f k).A5) (.int .i64 (f k).time) (.int .i64 (f k).rs) (.int .i64 (f k).rb) (.slice H (f k).dn I) 43);have x:=A8 F m;have W:=d.c0;have q1:=d.c1;have X:=d.c2;have Y:=d.c3;have Z:=d.c4;have q5:=d.c5;have q6:=d.c6;have q7:=d.c7;have t:=A3 (u.out k B);obtain⟨⟨⟨y0,-⟩,⟨y1,-⟩,⟨y2,-⟩,⟨y3,-⟩⟩,⟨y4,-⟩,⟨y5,-⟩,⟨y6,-⟩,⟨y7,-⟩⟩:=C.out;have r:=A3 (p.out.kept (Dg m none) (by simp));have R:=m.size;clear d m;go_wp2_with (first
    | (at_mapUpdate;refine wpList_mapUpdate_own _ rfl _ _ _ 196 rfl 197 2 S7 Ym Bz w.heap.size k _ rfl r.out (by unfold maxLen;omega) _ _ _ rfl rfl t.out _ [] (F9 _) ?_;intro w1 s g)
    | go_in)
   go_roundw
   case rel=>exact⟨k+1,by omega,by go_num,s,x.grown g x.size (fun j P=>by cases P;omega),by have:=g.size;omega⟩
   case measure=>simp[intOf];omega
  ·obtain rfl:k=n:=(by omega);have E:=A3 (R3 D.out (fun i=>.int .i64 (f i).id) k);have L:=A3 (ML.iff (f:=f) u.out);go_wp2_with (first
    | (at_len;refine wpList_len_own _ rfl _ 196 rfl 197 2 Ym Bz w.heap.size k _ rfl p.out ?_)
    | go_in)
   go_ret;refine⟨⟨_,rfl,?_⟩,F⟩;have N:=E.out.2;have O:=L.out;simp only[beq_iff_eq,Int.natCast_inj];exact N.trans O
end Go.Proofs.YtnfjcaoclahfjaaGreatDoor
