/- A part of the proof. -/
import Derived.Test.YtibhefllijahkaaGreatDoorF13
import Derived.WideKeyPair
import Derived.DeepKeys4
set_option linter.unusedVariables false
set_option maxRecDepth 20000
set_option maxHeartbeats 4000000
namespace Go.Proofs.YtibhefllijahkaaGreatDoor
open Go.RowKit
def I0(w:World)(S:Nat->Prop)(v:Value)(n:Nat)(f:Nat->AM):Prop:=∃(bs:Nat) (kb:Nat->Nat) (kv:Nat->Value),DD w bs kb kv v n f/\IE kb n f/\∀k,EN bs kb n f k->S k
def GZ(w:World)(S:Nat->Prop)(v:Value)(n:Nat)(f:Nat->AL):Prop:=∃(bs:Nat) (kb:Nat->Nat) (kv:Nat->Value),EI w bs kb kv v n f/\Mj kb n f/\∀k,Io bs kb n f k->S k
variable{S T:Nat->Prop}{w w':World}{v:Value}{n:Nat}
theorem I0.AH{f:Nat->AM}(h:I0 w S v n f)(t:AI T w w')(hs:∀k,S k->¬T k):I0 w' S v n f:=by
 obtain⟨b,g,i,c,d,a⟩:=h;exact⟨b,g,i,c.AH t (fun k e=>hs k (a k e)),d,a⟩
theorem GZ.AH{f:Nat->AL}(h:GZ w S v n f)(t:AI T w w')(hs:∀k,S k->¬T k):GZ w' S v n f:=by
 obtain⟨b,g,i,c,d,a⟩:=h;exact⟨b,g,i,c.AH t (fun k e=>hs k (a k e)),d,a⟩
variable{lo hi:Nat}
theorem I0.at{f:Nat->AM}(h:I0 w S v n f)(hs:∀k,S k->lo<=k/\k<hi):EF w lo hi v n f:=by
 obtain⟨d,g,i,a,e,b⟩:=h;exact a.at (fun k c=>hs k (b k c))
theorem GZ.at{f:Nat->AL}(h:GZ w S v n f)(hs:∀k,S k->lo<=k/\k<hi):DR w lo hi v n f:=by
 obtain⟨d,g,i,a,e,b⟩:=h;exact a.at (fun k c=>hs k (b k c))
theorem I0.C5{f:Nat->AM}(h:I0 w S v n f):∃a c,v = .slice a n c/\n<=c:=by
 obtain⟨d,i,j,⟨_,a,c,hv,b,_⟩,e,g⟩:=h;exact⟨a,c,hv,b⟩
theorem GZ.C5{f:Nat->AL}(h:GZ w S v n f):∃a c,v = .slice a n c/\n<=c:=by
 obtain⟨d,i,j,⟨_,a,c,hv,b,_⟩,e,g⟩:=h;exact⟨a,c,hv,b⟩
variable{v0 v1:Value}
theorem FI.C5{p:A8}(h:FI w S v0 v1 p):∃a c b c',v0 = .slice a p.n c/\v1 = .slice b p.hn c':=by
 obtain⟨g,l,m,o,⟨_,a,c,d,_⟩,i,⟨_,b,c',e,_,_⟩,j,k⟩:=h;exact⟨a,c,b,c',d,e⟩
structure Ke (w:World) (P Q R:Nat->Prop) (v0 v1 v2 v3:Value) (W:A5):Prop where
 pool:FI w P v0 v1 W.pool
 A3:I0 w Q v2 W.sn W.A3
 A1:GZ w R v3 W.pn W.A1
 pq:∀k,P k->¬Q k
 pr:∀k,P k->¬R k
 qr:∀k,Q k->¬R k
def EJ(w:World)(lo hi:Nat)(v0 v1 v2 v3:Value)(W:A5):Prop:=∃P Q R,Ke w P Q R v0 v1 v2 v3 W/\∀k,P k\/Q k\/R k->lo<=k/\k<hi
variable{v2 v3:Value}{W:A5}
theorem EJ.at(h:EJ w lo hi v0 v1 v2 v3 W):BR w lo hi v0 v1 v2 v3 W:=by
 obtain⟨P,Q,R,h,b⟩:=h;exact⟨h.pool.at (fun k a=>b k (Or.inl a)),h.A3.at (fun k a=>b k (Or.inr (Or.inl a))),h.A1.at (fun k a=>b k (Or.inr (Or.inr a)))⟩
theorem Ke.AH{P Q R:Nat->Prop}(h:Ke w P Q R v0 v1 v2 v3 W)(t:AI T w w')(hs:∀k,P k\/Q k\/R k->¬T k):Ke w' P Q R v0 v1 v2 v3 W:=
 ⟨h.pool.AH t (fun k a=>hs k (Or.inl a)),h.A3.AH t (fun k a=>hs k (Or.inr (Or.inl a))),h.A1.AH t (fun k a=>hs k (Or.inr (Or.inr a))),h.pq,h.pr,h.qr⟩
theorem EJ.AH(h:EJ w lo hi v0 v1 v2 v3 W)(t:AI S w w')(hs:∀k,S k->k<lo\/hi<=k):EJ w' lo hi v0 v1 v2 v3 W:=by
 obtain⟨P,Q,R,h,a⟩:=h;exact⟨P,Q,R,h.AH t (fun k b c=>by have:=a k b;have:=hs k c;omega),a⟩
variable{b:Nat}
theorem EJ.wide{a:Nat}(h:EJ w lo hi v0 v1 v2 v3 W)(e:b<=lo)(g:hi<=a):EJ w b a v0 v1 v2 v3 W:=by
 obtain⟨P,Q,R,h,d⟩:=h;exact⟨P,Q,R,h,fun k c=>by have:=d k c;omega⟩
theorem EJ.C5(h:EJ w lo hi v0 v1 v2 v3 W):∃a c0 b c1 c e d c3,v0 = .slice a W.pool.n c0/\v1 = .slice b W.pool.hn c1/\v2 = .slice c W.sn e/\v3 = .slice d W.pn c3:=by
 obtain⟨P,Q,R,h,k⟩:=h;obtain⟨a,c0,b,c1,e0,g⟩:=h.pool.C5;obtain⟨c,e,i,-⟩:=h.A3.C5;obtain⟨d,c3,j,-⟩:=h.A1.C5;exact⟨a,c0,b,c1,c,e,d,c3,e0,g,i,j⟩
theorem BR.C5(h:BR w lo hi v0 v1 v2 v3 W):∃a c0 b c1 c e d c3,v0 = .slice a W.pool.n c0/\v1 = .slice b W.pool.hn c1/\v2 = .slice c W.sn e/\v3 = .slice d W.pn c3:=by
 obtain⟨a,c0,b,c1,e0,g⟩:=h.pool.C5;obtain⟨-,c,e,i,-⟩:=h.A3;obtain⟨-,d,c3,j,-⟩:=h.A1;exact⟨a,c0,b,c1,c,e,d,c3,e0,g,i,j⟩
def CC(f:Nat->AM)(cv:Nat->Value)(i r:Nat):Value:=
 match r with
 | 0=>.string (f i).name
 | 1=>.int .i64 (f i).origin
 | 2=>.int .i64 (f i).A6
 | 3=>.int .i64 (f i).rs
 | 4=>.int .i64 (f i).rb
 | _=>cv i
def G5(f:Nat->AM)(cv:Nat->Value)(n:Nat):List Value:=(List.range (n*6)).map fun j=>CC f cv (j / 6) (j % 6)
theorem IG(f:Nat->AM)(a:Nat->Value)(n:Nat):(G5 f a n).length=n*6:=by simp[G5]
theorem IA(f:Nat->AM)(a:Nat->Value)(n:Nat){i r:Nat}(hi:i<n)(d:r<6):(G5 f a n)[i*6+r]?=some (CC f a i r):=by
 have h:i*6+r<n*6:=by omega
 have b:(i*6+r) / 6=i:=by omega
 have c:(i*6+r) % 6=r:=by omega
 simp[G5,h,b,c]
theorem RI(f:Nat->AM)(a:Nat->Value)(n:Nat)(h:∀i,i<n->(a i).oneCell'=true):∀u∈G5 f a n,u.oneCell'=true:=by
 intro u b;unfold G5 at b;obtain⟨j,c,rfl⟩:=List.mem_map.1 b;have d:=List.mem_range.1 c;have hi:j / 6<n:=by omega
 have e:j % 6<6:=by omega
 generalize j % 6=r at e ⊢;rcases r with _ | _ | _ | _ | _ | _<;>first | rfl | exact h _ hi
def FL(w:World)(b o:Nat)(s:AM)(vd:Value):Prop:=AJ w b o (.string s.name)/\AJ w b (o+1) (.int .i64 s.origin)/\AJ w b (o+2) (.int .i64 s.A6)/\AJ w b (o+3) (.int .i64 s.rs)/\AJ w b (o+4) (.int .i64 s.rb)/\AJ w b (o+5) vd
variable{o:Nat}{s:AM}{vd:Value}
theorem FL.AH(h:FL w b o s vd)(t:AI S w w')(hs:¬S b):FL w' b o s vd:=by
 obtain⟨a,c,d,e,g,i⟩:=h;exact⟨a.AH t hs,c.AH t hs,d.AH t hs,e.AH t hs,g.AH t hs,i.AH t hs⟩
theorem FL.A0(h:FL w b o s vd)(t:Below w.heap.size w w'):FL w' b o s vd:=
 h.AH (AI.Co (S:=fun _=>False) t) (fun h=>h)
theorem FL.set(h:FL w b o s vd)(u:Value):FL (w.setCell ⟨b,o+5,none⟩ u) b o s u:=by
 obtain⟨a,c,d,e,g,i⟩:=h;exact⟨a.other _ (Or.inr (by omega)),c.other _ (Or.inr (by omega)),d.other _ (Or.inr (by omega)),e.other _ (Or.inr (by omega)),g.other _ (Or.inr (by omega)),i.set _⟩
theorem FL.other{o':Nat}(h:FL w b o s vd)(u:Value)(a:∀r,r<6->o'≠o+r):FL (w.setCell ⟨b,o',none⟩ u) b o s vd:=by
 obtain⟨c,d,e,g,i,j⟩:=h;exact⟨c.other _ (Or.inr (a 0 (by omega))),d.other _ (Or.inr (a 1 (by omega))),e.other _ (Or.inr (a 2 (by omega))),g.other _ (Or.inr (a 3 (by omega))),i.other _ (Or.inr (a 4 (by omega))),j.other _ (Or.inr (a 5 (by omega)))⟩
structure DQ (wr:World) (bs L n k:Nat) (f:Nat->AM) (kb:Nat->Nat) (kv cv:Nat->Value):Prop where
 Dv:∀j,j<n->FL wr bs (j*6) (f j) (if j<k then kv j else cv j)
 dead:∀j,j<k->CI wr (kb j) (kv j) (f j).dn (f j).ds (f j).db
 Bn:∀j,j<k->0<(f j).dn->L<=kb j/\kb j<wr.heap.size
 Bi:IE kb k f
 lt:0<n->bs<L
variable{wr:World}{bs L k:Nat}{f:Nat->AM}{kb:Nat->Nat}{kv cv:Nat->Value}
theorem DQ.A0(h:DQ wr bs L n k f kb kv cv)(t:Below wr.heap.size wr w'):DQ w' bs L n k f kb kv cv:=
 ⟨fun j a=>(h.Dv j a).A0 t,fun j a=>(h.dead j a).A0 t,fun j a b=>by have:=h.Bn j a b;have:=t.size;omega,h.Bi,h.lt⟩
theorem DQ.AH(h:DQ wr bs L n k f kb kv cv)(t:AI S wr w')(hs:∀q,S q->(0<n->q≠bs)/\q<L)(c:k<=n):DQ w' bs L n k f kb kv cv:=
 ⟨fun j a=>(h.Dv j a).AH t (fun e=>(hs _ e).1 (by omega) rfl),fun j a=>(h.dead j a).AH t (fun b e=>by have:=h.Bn j a b;have:=(hs _ e).2;omega),fun j a b=>by have:=h.Bn j a b;have:=t.size;omega,h.Bi,h.lt⟩
variable{w1:World}
theorem DQ.next(h:DQ wr bs L n k f kb kv cv)(A:k<n)(z:L<=wr.heap.size)(t:Below wr.heap.size wr w1)
 (x:CI w1 b v (f k).dn (f k).ds (f k).db) (l:0<(f k).dn->wr.heap.size<=b/\b<w1.heap.size) :
 DQ (w1.setCell ⟨bs,k*6+5,none⟩ v) bs L n (k+1) f (fun j=>if j=k then b else kb j) (fun j=>if j=k then v else kv j) cv:=by
 have g:=h.A0 t;have w:=h.lt (by omega);refine⟨fun j m=>?_,fun j m=>?_,fun j m c=>?_,fun i j hi m q o p=>?_,h.lt⟩
 ·have s:=g.Dv j m;by_cases e:j=k
  ·subst e;rw[if_pos (by omega),if_pos rfl];exact s.set v
  ·rw[if_neg e];have u:(if j<k+1 then kv j else cv j)=if j<k then kv j else cv j:=by
    by_cases a:j<k
    ·rw[if_pos a,if_pos (by omega)]
    ·rw[if_neg a,if_neg (by omega)]
   rw[u];exact s.other v (fun r B=>by omega)
 ·by_cases e:j=k
  ·subst e;simp only[if_true];exact x.AH (AI.put _ _ _ _) (fun c y=>by have:=l c;omega)
  ·simp only[if_neg e];exact(g.dead j (by omega)).AH (AI.put _ _ _ _) (fun c y=>by have:=g.Bn j (by omega) c;omega)
 ·simp only[World.size_setCell];by_cases e:j=k
  ·subst e;rw[if_pos rfl];have:=l c;omega
  ·rw[if_neg e];have:=g.Bn j (by omega) c;omega
 ·show(if i=k then b else kb i)≠(if j=k then b else kb j);by_cases d:i=k
  ·by_cases a:j=k
   ·omega
   ·rw[if_pos d,if_neg a];subst d;have:=l o;have:=h.Bn j (by omega) p;omega
  ·by_cases a:j=k
   ·rw[if_neg d,if_pos a];subst a;have:=l p;have:=h.Bn i (by omega) o;omega
   ·rw[if_neg d,if_neg a];exact h.Bi i j (by omega) (by omega) q o p
variable{c:Nat}{a:Option Addr}
theorem DQ.own(h:DQ wr bs L n n f kb kv cv)(q:n<=maxLen)(m:0<n->a=some ⟨bs,0,none⟩)(o:n<=c)(hs:∀i,i<n->(f i).name.size<=maxLen):DD wr bs kb kv (.slice a n c) n f:=
 ⟨q,a,c,rfl,o,fun b=>⟨0,m b,fun i hi=>by
  obtain⟨b,g,j,k,l,d⟩:=h.Dv i hi;rw[if_pos hi]at d;rw[Nat.zero_add];exact⟨b,g,j,k,l,d,h.dead i hi,hs i hi,fun p e=>by have:=h.Bn i hi p;have:=h.lt (by omega);omega⟩⟩⟩
theorem DQ.turned0(h:DQ wr bs L n 0 f kb kv cv)(t:AI S wr w')(hs:∀q,S q->0<n->q≠bs):DQ w' bs L n 0 f kb kv cv:=
 ⟨fun j a=>(h.Dv j a).AH t (fun e=>hs _ e (by omega) rfl),fun j a=>absurd a (Nat.not_lt_zero _),fun j a=>absurd a (Nat.not_lt_zero _),h.Bi,h.lt⟩
theorem DQ.weak{L':Nat}(h:DQ wr bs L n 0 f kb kv cv)(b:L<=L'):DQ wr bs L' n 0 f kb kv cv:=
 ⟨h.Dv,h.dead,fun j c=>absurd c (Nat.not_lt_zero _),h.Bi,fun a=>Nat.lt_of_lt_of_le (h.lt a) b⟩
theorem EF.values(h:EF w lo hi (.slice a n c) n f) :
 ∃k:Nat->Value,(∀i,i<n->B4 w lo hi (k i) (f i).dn (f i).ds (f i).db/\(f i).name.size<=maxLen)/\
  (0<n->∃b off,a=some ⟨b,off,none⟩/\∀j u,(G5 f k n)[j]?=some u->w.cell? ⟨b,off+j,none⟩=some u):=by
 obtain⟨_,B,c0,m,_,g⟩:=h;simp only[Value.slice.injEq,true_and]at m;obtain⟨rfl,rfl⟩:=m;by_cases hn:0<n
 ·obtain⟨b,off,p,s,t,v⟩:=g hn;have l:∀i,∃x,i<n->I8 w b (off+i*6) lo hi x (f i):=fun i=>by
   by_cases hi:i<n
   ·obtain⟨vd,hs⟩:=v i hi;exact⟨vd,fun _=>hs⟩
   ·exact⟨.slice none 0 0,fun h=>absurd h hi⟩
  obtain⟨k,d⟩:=Classical.axiomOfChoice l;refine⟨k,fun i hi=>⟨(d i hi).dead,(d i hi).Bo⟩,fun _=>⟨b,off,p,fun j u o=>?_⟩⟩;have y:j<n*6:=by
   have:=(List.getElem?_eq_some_iff.1 o).1
   rwa [IG]at this
  have hs:=d (j / 6) (by omega);have e:=IA f k n (i:=j / 6) (r:=j % 6) (by omega) (by omega);rw[show j / 6*6+j % 6=j by omega,o]at e;have A:j % 6<6:=(by omega);have z:off+j=off+j / 6*6+j % 6:=(by omega);rw[z];generalize j % 6=r at A e ⊢;generalize j / 6=q at hs e ⊢;rcases r with _ | _ | _ | _ | _ | _ | r
  ·cases e;exact hs.c0
  ·cases e;exact hs.c1
  ·cases e;exact hs.c2
  ·cases e;exact hs.c3
  ·cases e;exact hs.c4
  ·cases e;exact hs.c5
  ·omega
 ·exact⟨fun _=>.slice none 0 0,fun i hi=>absurd hi (by omega),fun h=>absurd h hn⟩
theorem Rs{base:Nat}(e:w1.ownsRow base 44 6 v n (G5 f cv n))(L:Nat)(s:w1.heap.size<=L):∃l a c,v = .slice a n c/\n<=c/\(0<n->a=some ⟨l,0,none⟩/\base<=l/\l<w1.heap.size)/\DQ w1 l L n 0 f (fun _=>0) cv cv:=by
 obtain⟨q,c1,rfl,k⟩:=CV e;by_cases m:0<n
 ·obtain⟨g,cap,hv,_,o,p,b⟩:=FN e m;simp only[Value.slice.injEq,true_and]at hv;obtain⟨rfl,rfl⟩:=hv;refine⟨g,_,_,rfl,k,fun _=>⟨rfl,o,p⟩,fun j d=>?_,fun j d=>absurd d (Nat.not_lt_zero _),fun j d=>absurd d (Nat.not_lt_zero _),fun i j hi=>absurd hi (Nat.not_lt_zero _),fun _=>by omega⟩;rw[if_neg (Nat.not_lt_zero _)];exact⟨b _ _ (IA f cv n d (r:=0) (by omega)),b _ _ (IA f cv n d (r:=1) (by omega)),b _ _ (IA f cv n d (r:=2) (by omega)),b _ _ (IA f cv n d (r:=3) (by omega)),b _ _ (IA f cv n d (r:=4) (by omega)),b _ _ (IA f cv n d (r:=5) (by omega))⟩
 ·exact⟨0,_,_,rfl,k,fun h=>absurd h m,fun j d=>absurd d (by omega),fun j d=>absurd d (Nat.not_lt_zero _),fun j d=>absurd d (Nat.not_lt_zero _),fun i j hi=>absurd hi (Nat.not_lt_zero _),fun h=>absurd h m⟩
def EV(f:Nat->AL)(cv:Nat->Value)(i r:Nat):Value:=
 match r with
 | 0=>.int .i64 (f i).id
 | 1=>.string (f i).name
 | 2=>.string (f i).set
 | 3=>.int .i64 (f i).A6
 | 4=>.int .i64 (f i).time
 | 5=>.int .i64 (f i).rs
 | 6=>.int .i64 (f i).rb
 | _=>cv i
def Ei(f:Nat->AL)(cv:Nat->Value)(n:Nat):List Value:=(List.range (n*8)).map fun j=>EV f cv (j / 8) (j % 8)
theorem Gk(f:Nat->AL)(a:Nat->Value)(n:Nat):(Ei f a n).length=n*8:=by simp[Ei]
theorem F1(f:Nat->AL)(a:Nat->Value)(n:Nat){i r:Nat}(hi:i<n)(d:r<8):(Ei f a n)[i*8+r]?=some (EV f a i r):=by
 have h:i*8+r<n*8:=by omega
 have b:(i*8+r) / 8=i:=by omega
 have c:(i*8+r) % 8=r:=by omega
 simp[Ei,h,b,c]
theorem Ok(f:Nat->AL)(a:Nat->Value)(n:Nat)(h:∀i,i<n->(a i).oneCell'=true):∀u∈Ei f a n,u.oneCell'=true:=by
 intro u b;unfold Ei at b;obtain⟨j,c,rfl⟩:=List.mem_map.1 b;have d:=List.mem_range.1 c;have hi:j / 8<n:=by omega
 have e:j % 8<8:=by omega
 generalize j % 8=r at e ⊢;rcases r with _ | _ | _ | _ | _ | _ | _ | _<;>first | rfl | exact h _ hi
def FO(w:World)(b o:Nat)(s:AL)(vd:Value):Prop:=AJ w b o (.int .i64 s.id)/\AJ w b (o+1) (.string s.name)/\AJ w b (o+2) (.string s.set)/\AJ w b (o+3) (.int .i64 s.A6)/\AJ w b (o+4) (.int .i64 s.time)/\AJ w b (o+5) (.int .i64 s.rs)/\AJ w b (o+6) (.int .i64 s.rb)/\AJ w b (o+7) vd
variable{s:AL}
theorem FO.AH(h:FO w b o s vd)(t:AI S w w')(hs:¬S b):FO w' b o s vd:=by
 obtain⟨a,c,d,e,g,i,j,k⟩:=h;exact⟨a.AH t hs,c.AH t hs,d.AH t hs,e.AH t hs,g.AH t hs,i.AH t hs,j.AH t hs,k.AH t hs⟩
theorem FO.A0(h:FO w b o s vd)(t:Below w.heap.size w w'):FO w' b o s vd:=
 h.AH (AI.Co (S:=fun _=>False) t) (fun h=>h)
theorem FO.set(h:FO w b o s vd)(u:Value):FO (w.setCell ⟨b,o+7,none⟩ u) b o s u:=by
 obtain⟨a,c,d,e,g,i,j,k⟩:=h;exact⟨a.other _ (Or.inr (by omega)),c.other _ (Or.inr (by omega)),d.other _ (Or.inr (by omega)),e.other _ (Or.inr (by omega)),g.other _ (Or.inr (by omega)),i.other _ (Or.inr (by omega)),j.other _ (Or.inr (by omega)),k.set _⟩
theorem FO.other{o':Nat}(h:FO w b o s vd)(u:Value)(a:∀r,r<8->o'≠o+r):FO (w.setCell ⟨b,o',none⟩ u) b o s vd:=by
 obtain⟨c,d,e,g,i,j,k,l⟩:=h;exact⟨c.other _ (Or.inr (a 0 (by omega))),d.other _ (Or.inr (a 1 (by omega))),e.other _ (Or.inr (a 2 (by omega))),g.other _ (Or.inr (a 3 (by omega))),i.other _ (Or.inr (a 4 (by omega))),j.other _ (Or.inr (a 5 (by omega))),k.other _ (Or.inr (a 6 (by omega))),l.other _ (Or.inr (a 7 (by omega)))⟩
structure DO (wr:World) (bs L n k:Nat) (f:Nat->AL) (kb:Nat->Nat) (kv cv:Nat->Value):Prop where
 Dv:∀j,j<n->FO wr bs (j*8) (f j) (if j<k then kv j else cv j)
 dead:∀j,j<k->CI wr (kb j) (kv j) (f j).dn (f j).ds (f j).db
 Bn:∀j,j<k->0<(f j).dn->L<=kb j/\kb j<wr.heap.size
 Bi:Mj kb k f
 lt:0<n->bs<L
variable{f:Nat->AL}
theorem DO.A0(h:DO wr bs L n k f kb kv cv)(t:Below wr.heap.size wr w'):DO w' bs L n k f kb kv cv:=
 ⟨fun j a=>(h.Dv j a).A0 t,fun j a=>(h.dead j a).A0 t,fun j a b=>by have:=h.Bn j a b;have:=t.size;omega,h.Bi,h.lt⟩
theorem DO.AH(h:DO wr bs L n k f kb kv cv)(t:AI S wr w')(hs:∀q,S q->(0<n->q≠bs)/\q<L)(c:k<=n):DO w' bs L n k f kb kv cv:=
 ⟨fun j a=>(h.Dv j a).AH t (fun e=>(hs _ e).1 (by omega) rfl),fun j a=>(h.dead j a).AH t (fun b e=>by have:=h.Bn j a b;have:=(hs _ e).2;omega),fun j a b=>by have:=h.Bn j a b;have:=t.size;omega,h.Bi,h.lt⟩
theorem DO.next(h:DO wr bs L n k f kb kv cv)(A:k<n)(z:L<=wr.heap.size)(t:Below wr.heap.size wr w1)
 (x:CI w1 b v (f k).dn (f k).ds (f k).db) (l:0<(f k).dn->wr.heap.size<=b/\b<w1.heap.size) :
 DO (w1.setCell ⟨bs,k*8+7,none⟩ v) bs L n (k+1) f (fun j=>if j=k then b else kb j) (fun j=>if j=k then v else kv j) cv:=by
 have g:=h.A0 t;have w:=h.lt (by omega);refine⟨fun j m=>?_,fun j m=>?_,fun j m c=>?_,fun i j hi m q o p=>?_,h.lt⟩
 ·have s:=g.Dv j m;by_cases e:j=k
  ·subst e;rw[if_pos (by omega),if_pos rfl];exact s.set v
  ·rw[if_neg e];have u:(if j<k+1 then kv j else cv j)=if j<k then kv j else cv j:=by
    by_cases a:j<k
    ·rw[if_pos a,if_pos (by omega)]
    ·rw[if_neg a,if_neg (by omega)]
   rw[u];exact s.other v (fun r B=>by omega)
 ·by_cases e:j=k
  ·subst e;simp only[if_true];exact x.AH (AI.put _ _ _ _) (fun c y=>by have:=l c;omega)
  ·simp only[if_neg e];exact(g.dead j (by omega)).AH (AI.put _ _ _ _) (fun c y=>by have:=g.Bn j (by omega) c;omega)
 ·simp only[World.size_setCell];by_cases e:j=k
  ·subst e;rw[if_pos rfl];have:=l c;omega
  ·rw[if_neg e];have:=g.Bn j (by omega) c;omega
 ·show(if i=k then b else kb i)≠(if j=k then b else kb j);by_cases d:i=k
  ·by_cases a:j=k
   ·omega
   ·rw[if_pos d,if_neg a];subst d;have:=l o;have:=h.Bn j (by omega) p;omega
  ·by_cases a:j=k
   ·rw[if_neg d,if_pos a];subst a;have:=l p;have:=h.Bn i (by omega) o;omega
   ·rw[if_neg d,if_neg a];exact h.Bi i j (by omega) (by omega) q o p
theorem DO.own(h:DO wr bs L n n f kb kv cv)(s:n<=maxLen)(p:0<n->a=some ⟨bs,0,none⟩)(q:n<=c)(hs:∀i,i<n->((f i).name.size<=maxLen/\(f i).set.size<=maxLen)):EI wr bs kb kv (.slice a n c) n f:=
 ⟨s,a,c,rfl,q,fun b=>⟨0,p b,fun i hi=>by
  obtain⟨b,g,j,k,l,m,o,d⟩:=h.Dv i hi;rw[if_pos hi]at d;rw[Nat.zero_add];exact⟨b,g,j,k,l,m,o,d,h.dead i hi,hs i hi,fun r e=>by have:=h.Bn i hi r;have:=h.lt (by omega);omega⟩⟩⟩
theorem DO.turned0(h:DO wr bs L n 0 f kb kv cv)(t:AI S wr w')(hs:∀q,S q->0<n->q≠bs):DO w' bs L n 0 f kb kv cv:=
 ⟨fun j a=>(h.Dv j a).AH t (fun e=>hs _ e (by omega) rfl),fun j a=>absurd a (Nat.not_lt_zero _),fun j a=>absurd a (Nat.not_lt_zero _),h.Bi,h.lt⟩
theorem DO.weak{L':Nat}(h:DO wr bs L n 0 f kb kv cv)(b:L<=L'):DO wr bs L' n 0 f kb kv cv:=
 ⟨h.Dv,h.dead,fun j c=>absurd c (Nat.not_lt_zero _),h.Bi,fun a=>Nat.lt_of_lt_of_le (h.lt a) b⟩
theorem DR.values(h:DR w lo hi (.slice a n c) n f) :
 ∃k:Nat->Value,(∀i,i<n->B4 w lo hi (k i) (f i).dn (f i).ds (f i).db/\((f i).name.size<=maxLen/\(f i).set.size<=maxLen))/\
  (0<n->∃b off,a=some ⟨b,off,none⟩/\∀j u,(Ei f k n)[j]?=some u->w.cell? ⟨b,off+j,none⟩=some u):=by
 obtain⟨_,B,c0,m,_,g⟩:=h;simp only[Value.slice.injEq,true_and]at m;obtain⟨rfl,rfl⟩:=m;by_cases hn:0<n
 ·obtain⟨b,off,p,s,t,v⟩:=g hn;have l:∀i,∃x,i<n->IF w b (off+i*8) lo hi x (f i):=fun i=>by
   by_cases hi:i<n
   ·obtain⟨vd,hs⟩:=v i hi;exact⟨vd,fun _=>hs⟩
   ·exact⟨.slice none 0 0,fun h=>absurd h hi⟩
  obtain⟨k,d⟩:=Classical.axiomOfChoice l;refine⟨k,fun i hi=>⟨(d i hi).dead,(d i hi).Bo⟩,fun _=>⟨b,off,p,fun j u o=>?_⟩⟩;have y:j<n*8:=by
   have:=(List.getElem?_eq_some_iff.1 o).1
   rwa [Gk]at this
  have hs:=d (j / 8) (by omega);have e:=F1 f k n (i:=j / 8) (r:=j % 8) (by omega) (by omega);rw[show j / 8*8+j % 8=j by omega,o]at e;have A:j % 8<8:=(by omega);have z:off+j=off+j / 8*8+j % 8:=(by omega);rw[z];generalize j % 8=r at A e ⊢;generalize j / 8=q at hs e ⊢;rcases r with _ | _ | _ | _ | _ | _ | _ | _ | r
  ·cases e;exact hs.c0
  ·cases e;exact hs.c1
  ·cases e;exact hs.c2
  ·cases e;exact hs.c3
  ·cases e;exact hs.c4
  ·cases e;exact hs.c5
  ·cases e;exact hs.c6
  ·cases e;exact hs.c7
  ·omega
 ·exact⟨fun _=>.slice none 0 0,fun i hi=>absurd hi (by omega),fun h=>absurd h hn⟩
theorem P5{base:Nat}(e:w1.ownsRow base 41 8 v n (Ei f cv n))(L:Nat)(s:w1.heap.size<=L):∃l a c,v = .slice a n c/\n<=c/\(0<n->a=some ⟨l,0,none⟩/\base<=l/\l<w1.heap.size)/\DO w1 l L n 0 f (fun _=>0) cv cv:=by
 obtain⟨q,c1,rfl,k⟩:=CV e;by_cases m:0<n
 ·obtain⟨g,cap,hv,_,o,p,b⟩:=FN e m;simp only[Value.slice.injEq,true_and]at hv;obtain⟨rfl,rfl⟩:=hv;refine⟨g,_,_,rfl,k,fun _=>⟨rfl,o,p⟩,fun j d=>?_,fun j d=>absurd d (Nat.not_lt_zero _),fun j d=>absurd d (Nat.not_lt_zero _),fun i j hi=>absurd hi (Nat.not_lt_zero _),fun _=>by omega⟩;rw[if_neg (Nat.not_lt_zero _)];exact⟨b _ _ (F1 f cv n d (r:=0) (by omega)),b _ _ (F1 f cv n d (r:=1) (by omega)),b _ _ (F1 f cv n d (r:=2) (by omega)),b _ _ (F1 f cv n d (r:=3) (by omega)),b _ _ (F1 f cv n d (r:=4) (by omega)),b _ _ (F1 f cv n d (r:=5) (by omega)),b _ _ (F1 f cv n d (r:=6) (by omega)),b _ _ (F1 f cv n d (r:=7) (by omega))⟩
 ·exact⟨0,_,_,rfl,k,fun h=>absurd h m,fun j d=>absurd d (by omega),fun j d=>absurd d (Nat.not_lt_zero _),fun j d=>absurd d (Nat.not_lt_zero _),fun i j hi=>absurd hi (Nat.not_lt_zero _),fun h=>absurd h m⟩
def Je(W:A5):Prop:=(∀i,i<W.sn->(W.A3 i).dn<=1048576)/\∀i,i<W.pn->(W.A1 i).dn<=1048576
open Go.Maps
def CK(v:Value):Option (DataW Value×List MemPlace):=some (.held v,[])
theorem Jq{d:DataW Value}{ps:List MemPlace}(h:CK v=some (d,ps)):d = .held v:=by
 unfold CK at h;simp only[Option.some.injEq,Prod.mk.injEq]at h;exact h.1.symm
theorem Fi(v:Value):CK v=some (.held v,[]):=rfl
variable{P:Program}{h:Array Oper}{rest:List Oper}{Q:Exit->Act->World->Prop}
theorem zDP(w:World){o:Oper}{a:Act}
 (p:o.guard=none) (m x:Operand) (t:TypeId) (hop:o.op=Op.lookup t m x false)
 (k e:TypeId) (K:Keyed P k) (r:P.underlying t=some (.map k e)) {z:Value} (u:(zeroValue e).run P w = .ok z w) (b n:Nat) (D:DataW Value)
 (q:a.eval m = .map (some b)) (d:w.ownsMap P k CK b n D) (key:Value) (kl:Lit) (s:a.eval x=key) (c:keyOf P k key=some kl)
 (v:Value) (l:D.atKey kl (.held z) = .held v) (hK:wpList P h Q rest (a.put o.dst v) w) :
 wpList P h Q (o :: rest) a w:=by
 refine wpList_plain p fun y j=>?_
 obtain⟨A,ps,g,hv⟩:=d.lookup K r u (Fi z) c;have i:=Jq hv;rw[l]at i;injection i with i;subst i;unfold Oper.wp;simp[execOp,hop,q,s,g,Result.andThen];exact j _ _ hK
theorem P7(w:World){o:Oper}{a:Act}
 (p:o.guard=none) (m x:Operand) (t:TypeId) (hop:o.op=Op.lookup t m x true)
 (k e:TypeId) (K:Keyed P k) (r:P.underlying t=some (.map k e)) {z:Value} (u:(zeroValue e).run P w = .ok z w) (b n:Nat) (D:DataW Value)
 (q:a.eval m = .map (some b)) (g:w.ownsMap P k CK b n D) (key:Value) (kl:Lit) (s:a.eval x=key) (d:keyOf P k key=some kl)
 (v:Value) (j:D.atKey kl (.held z) = .held v) (c:Bool) (l:Maps.has D kl=c) (hK:wpList P h Q rest (a.put o.dst (.tuple #[v,.bool c])) w) :
 wpList P h Q (o :: rest) a w:=by
 refine wpList_lookup_own_ok w p m x t hop k e K r CK u (.held z) [] (Fi z) b n D q g key kl s d (fun y ps hv=>?_);have i:=Jq hv;rw[j]at i;injection i with i;subst i;rw[l];exact hK
def putD(key:Nat->Lit)(val:Nat->Value):Nat->DataW Value
 | 0=>.map []
 | k+1=>(putD key val k).put (key k) (.held (val k))
def GU(key:Nat->Lit):Prop:=∀i,WideAt.IsKeyLit (key i)
theorem L5{key:Nat->Lit}(a:GU key)(val:Nat->Value):∀k,Tidy (putD key val k)
 | 0=>tidy_empty
 | k+1=>(L5 a val k).put (a k) _
theorem MB{key:Nat->Lit}(a:GU key)(val:Nat->Value)(l:Lit):∀k,Maps.has (putD key val k) l=true↔∃i,i<k/\key i=l
 | 0=>by
  constructor
  ·intro h;exact absurd h (by simp[putD,Maps.has])
  ·rintro⟨i,hi,_⟩;omega
 | k+1=>by
  by_cases b:key k=l
  ·subst b;exact⟨fun _=>⟨k,by omega,rfl⟩,fun _=>has_put_same (L5 a val k).isMap (a k) _⟩
  ·rw[show Maps.has (putD key val (k+1)) l=Maps.has (putD key val k) l from has_put_other (Ne.symm b) _,MB a val l k];constructor
   ·rintro⟨i,hi,e⟩;exact⟨i,by omega,e⟩
   ·rintro⟨i,hi,e⟩;by_cases h:i=k
    ·subst h;exact absurd e b
    ·exact⟨i,by omega,e⟩
variable{key:Nat->Lit}
theorem OL(b:GU key)(val:Nat->Value){l:Lit}(h:∀i,i<k->key i≠l)(z:DataW Value):(putD key val k).atKey l z=z:=by
 refine atKey_of_not_has ?_ _;rw[Bool.eq_false_iff];intro a;obtain⟨i,hi,e⟩:=(MB b val l k).1 a;exact h i hi e
theorem Nc{key:Nat->Lit}(a:GU key)(val:Nat->Value)(z:DataW Value):∀k i,i<k->(∀j,i<j->j<k->key j≠key i)->(putD key val k).atKey (key i) z = .held (val i)
 | 0,i,hi,_=>absurd hi (Nat.not_lt_zero _)
 | k+1,i,hi,hd=>by
  by_cases e:i=k
  ·subst e;exact atKey_put_same (L5 a val i).isMap (a i) _ _
  ·exact(atKey_put_other (Ne.symm (hd k (by omega) (by omega))) _ _).trans (Nc a val z k i (by omega) (fun j b c=>hd j b (by omega)))
def H6(n:Nat)(key:Nat->Lit):Prop:=∀i,i<n->∀k,k<i->key k≠key i
theorem RP{f:Nat->Lit}:H6 (k+1) f↔H6 k f/\∀i,i<k->f i≠f k:=by
 constructor
 ·exact fun h=>⟨fun i hi=>h i (by omega),fun i hi=>h k (by omega) i hi⟩
 ·rintro⟨b,c⟩ i hi j a;by_cases e:i=k
  ·subst e;exact c j a
  ·exact b i (by omega) j a
theorem Qs{key:Nat->Lit}(b:GU key)(val:Nat->Value):∀k,Maps.size (putD key val k)<=k/\(Maps.size (putD key val k)=k↔H6 k key)
 | 0=>⟨Nat.le_refl _,fun _ i hi=>by omega,fun _=>rfl⟩
 | k+1=>by
  obtain⟨g,d⟩:=Qs b val k;have e:Maps.size (putD key val (k+1))=if Maps.has (putD key val k) (key k)then Maps.size (putD key val k)else Maps.size (putD key val k)+1:=size_put (L5 b val k) _
  by_cases a:Maps.has (putD key val k) (key k)=true
  ·rw[if_pos a]at e;rw[e,RP];refine⟨by omega,fun h=>by omega,fun h=>?_⟩;obtain⟨i,hi,c⟩:=(MB b val (key k) k).1 a;exact absurd c (h.2 i hi)
  ·rw[if_neg a]at e;rw[e,RP,<-d];refine⟨by omega,fun h=>⟨by omega,fun i hi c=>a ((MB b val (key k) k).2 ⟨i,hi,c⟩)⟩,fun h=>by omega⟩
theorem ZV(n:Int)(w:World):Calls Tryz.prog 70 #[.int .i64 n] w fun e w'=>AG (Kc n 1 900000) e/\w'=w:=by
 by_cases a:1<=n
 ·by_cases b:n<=900000
  ·go_enter Tryz.func70,Tryz.ntmps70;go_wp2;go_ret;exact⟨AG.yes ⟨a,b⟩,rfl⟩
  ·go_enter Tryz.func70,Tryz.ntmps70;go_wp2;go_ret;exact⟨AG.no fun h=>by have:=h.2;omega,rfl⟩
 ·go_enter Tryz.func70,Tryz.ntmps70;go_wp2;go_ret;exact⟨AG.no fun h=>by have:=h.1;omega,rfl⟩
def Mid(a x b:Int):Prop:=a<x/\x<b
theorem Yv(a x b:Int)(w:World):Calls Tryz.prog 117 #[.int .i64 a,.int .i64 x,.int .i64 b] w fun e w'=>AG (Mid a x b) e/\w'=w:=by
 by_cases c:a<x
 ·by_cases d:x<b
  ·go_enter Tryz.func117,Tryz.ntmps117;go_wp2;go_ret;exact⟨AG.yes ⟨c,d⟩,rfl⟩
  ·go_enter Tryz.func117,Tryz.ntmps117;go_wp2;go_ret;exact⟨AG.no fun h=>by have:=h.2;omega,rfl⟩
 ·go_enter Tryz.func117,Tryz.ntmps117;go_wp2;go_ret;exact⟨AG.no fun h=>by have:=h.1;omega,rfl⟩
def Ee(f:Nat->AM):Nat->ByteArray
 | 0=>⟨#[]⟩
 | k+1=>(f k).name
def JQ(n:Nat)(f:Nat->AM):Prop:=n<=8/\∀i,i<n->BK (f i).name/\BF (Ee f i) (f i).name
theorem zCm(v:Value)(n lo hi:Nat)(f:Nat->AM)(w:World)(h:EF w lo hi v n f) :
 Calls Tryz.prog 71 #[v] w fun e w'=>AG (JQ n f) e/\Below w.heap.size w w':=by
 have H:=A4 h;obtain⟨K,a,c,rfl,R,-⟩:=id h;unfold maxLen at K;clear h;by_cases hn:n<=8;rotate_left
 ·have z:(8:Int)<(n:Int):=(by omega);go_enter Tryz.func71,Tryz.ntmps71;go_wp2;go_ret;exact⟨AG.no fun h=>hn h.1,Below.refl _ _⟩
 have z:¬(8:Int)<(n:Int):=by omega
 go_enter Tryz.func71,Tryz.ntmps71;go_wp2
 go_loopw [3,11] (fun l i wr=>∃k:Nat,k<=n/\i = .int .i64 k/\l = .string (Ee f k)/\(∀j,j<k->BK (f j).name/\BF (Ee f j) (f j).name)/\Below w.heap.size w wr) (fun _ i _=>n - (intOf i).toNat)
 case atStart=>exact⟨0,Nat.zero_le _,rfl,rfl,fun j J=>absurd J (Nat.not_lt_zero _),Below.refl _ _⟩
 case round=>
  obtain⟨k,Q,rfl,rfl,p,y⟩:=hrel;have o:=A4 p;clear p;by_cases g:k<n;rotate_left
  ·obtain rfl:k=n:=(by omega);go_wp2;go_ret;exact⟨AG.yes ⟨hn,o.out⟩,y⟩
  have D:(k:Int)<(n:Int):=(by omega);obtain⟨b,off,vd,rfl,d⟩:=(H.out.A0 y).cells g;obtain⟨-,B,C,rfl,-,-⟩:=id d.dead;have t:=A9 wr (.cells #[.string (f k).name,.int .i64 (f k).origin,.int .i64 (f k).A6,.int .i64 (f k).rs,.int .i64 (f k).rb,.slice B (f k).dn C] 44);have x:=A4 (Aj.new wr (.string (f k).name) (.int .i64 (f k).origin) (.int .i64 (f k).A6) (.int .i64 (f k).rs) (.int .i64 (f k).rb) (.slice B (f k).dn C) 44);have q:=A7 y t;have L:=d.c0;have q1:=d.c1;have M:=d.c2;have N:=d.c3;have O:=d.c4;have P:=d.c5;have A:=d.Bo;obtain⟨⟨T,U⟩,-⟩:=x.out;clear d t;go_wp2_with fail;clear L q1 M N O P;refine(Rh (f k).name _ A).mono ?_;rintro e S ⟨⟨E,rfl,m⟩,rfl⟩;by_cases r:BK (f k).name;rotate_left
  ·have G:=A4 r;obtain rfl:E=false:=Bc m r;clear m r;go_wp2;go_ret;exact⟨AG.no fun h=>G.out (h.2 k g).1,q⟩
  have F:=A4 r;obtain rfl:E=true:=m.2 r;clear m r;by_cases s:BF (Ee f k) (f k).name
  ·have I:=(Td (f k).name (Ee f k)).2 s;have u:=A4 s;clear s;go_wp2;go_roundw
   case rel=>exact⟨k+1,by omega,by go_num,rfl,Bf g o.out ⟨F.out,u.out⟩,q⟩
   case measure=>simp[intOf];omega
  ·have I:(Op.bytesLess (f k).name.toList (Ee f k).toList || (f k).name.toList == (Ee f k).toList)=true:=by
    cases hc:(Op.bytesLess (f k).name.toList (Ee f k).toList || (f k).name.toList == (Ee f k).toList)
    ·exact absurd ((Td _ _).1 hc) s
    ·rfl
   have u:=A4 s;clear s;go_wp2;go_ret;exact⟨AG.no fun h=>u.out (h.2 k g).2,q⟩
theorem SJ:laidOutB Tryz.prog=true:=by kernel_rfl
theorem yh:300<=Tryz.prog.types.size+300 - 1/\1<=Tryz.prog.types.size:=by
 have h:decide (1<=Tryz.prog.types.size)=true:=by kernel_rfl
 have:=of_decide_eq_true h;omega
theorem SK(h:decide (k<Tryz.prog.types.size)=true):k<Tryz.prog.types.size:=of_decide_eq_true h
theorem zJk:Tryz.prog.underlying 9=some .string:=by kernel_rfl
theorem yw:Tryz.prog.underlying 2=some (.int .i64):=by kernel_rfl
theorem LM:Keyed Tryz.prog 9:=string_keyed zJk
theorem yx:Keyed Tryz.prog 2:=int_keyed yw
def CS(s:ByteArray):Lit:=.string s.data.toList
variable{s:ByteArray}
theorem NW(h:s.size<=maxLen):keyOf Tryz.prog 9 (.string s)=some (CS s):=by simp[keyOf,mapKey,CS,h]
variable{t:ByteArray}
theorem QT(h:CS s=CS t):s=t:=by
 unfold CS at h;injection h with h;cases s;cases t;simp only[ByteArray.mk.injEq];exact Array.toList_inj.1 h
theorem QU(s:ByteArray):WideAt.IsKeyLit (CS s):=trivial
def Gt(x:Int):Lit:=.int .i64 x
variable{x:Int}
theorem TV(h:(Lit.int .i64 x).wf=true):keyOf Tryz.prog 2 (.int .i64 x)=some (Gt x):=keyOf_int_mk yw h
theorem VC{y:Int}(h:Gt x=Gt y):x=y:=by unfold Gt at h;injection h
theorem zFf(x:Int):WideAt.IsKeyLit (Gt x):=trivial
theorem zT:Tryz.prog.underlying 193=some (.array 2 9):=by kernel_rfl
theorem Sa:Keyed Tryz.prog 193:=Keyed.of_law (deep_law_laid SJ (m:=5) (by decide) (SK (by kernel_rfl)) (by kernel_rfl) (by kernel_rfl))
theorem zHb(hs:s.size<=maxLen)(e:t.size<=maxLen):∃l,keyOf Tryz.prog 193 (.agg #[.string s,.string t])=some l:=by
 obtain⟨m,d⟩:∃m,Tryz.prog.types.size+1=m+2:=⟨Tryz.prog.types.size - 1,by have:=yh;omega⟩;have c:Tryz.prog.keyType 193=true:=by kernel_rfl
 have a:Tryz.prog.cellsOf 193=2:=by kernel_rfl
 have b:Tryz.prog.cellsOf 9=1:=by kernel_rfl
 unfold keyOf;simp only[zT];rw[if_pos (by simp[c,Value.formed,a]),d];unfold Program.keyLits;simp only[zT,Value.cells];rw[if_pos (by rw[a];rfl),show List.range 2 = [0,1] from rfl,List.mapM_cons,List.mapM_cons,List.mapM_nil];simp[b,Program.keyLits,hs,e]
theorem yp:Tryz.prog.underlying 38=some (.struct #[⟨ "Slot",2,0,false, "", "",0⟩,⟨ "Birth",2,1,false, "", "",8⟩]):=by kernel_rfl
theorem PF:Keyed Tryz.prog 38:=Keyed.of_law (deep_law_laid SJ (m:=5) (by decide) (SK (by kernel_rfl)) (by kernel_rfl) (by kernel_rfl))
theorem TW{y:Int}(e:(Lit.int .i64 x).wf=true)(g:(Lit.int .i64 y).wf=true):∃l,keyOf Tryz.prog 38 (.agg #[.int .i64 x,.int .i64 y])=some l:=by
 obtain⟨m,d⟩:∃m,Tryz.prog.types.size+1=m+2:=⟨Tryz.prog.types.size - 1,by have:=yh;omega⟩;have c:Tryz.prog.keyType 38=true:=by kernel_rfl
 have a:Tryz.prog.cellsOf 38=2:=by kernel_rfl
 have b:Tryz.prog.cellsOf 2=1:=by kernel_rfl
 unfold keyOf;simp only[yp];rw[if_pos (by simp[c,Value.formed,a]),d];unfold Program.keyLits;simp only[yp,Value.cells];rw[if_pos ⟨by rw[a];rfl,by kernel_rfl⟩];simp[b,Program.keyLits,e,g]
def Dh(vd:Value)(s:AM):Value:=.agg #[.string s.name,.int .i64 s.origin,.int .i64 s.A6,.int .i64 s.rs,.int .i64 s.rb,vd]
def DK(vd:Value)(s:AL):Value:=.agg #[.int .i64 s.id,.string s.name,.string s.set,.int .i64 s.A6,.int .i64 s.time,.int .i64 s.rs,.int .i64 s.rb,vd]
def MJ(w:World)(lo hi n:Nat)(f:Nat->AM)(vd:Nat->Value):Prop:=∀i,i<n->B4 w lo hi (vd i) (f i).dn (f i).ds (f i).db
def OA(w:World)(lo hi n:Nat)(f:Nat->AL)(vd:Nat->Value):Prop:=∀i,i<n->B4 w lo hi (vd i) (f i).dn (f i).ds (f i).db
open Classical in
theorem EF.vals{f:Nat->AM}(h:EF w lo hi (.slice a n c) n f):∃vd:Nat->Value,MJ w lo hi n f vd/\∀i,i<n->∃b off,a=some ⟨b,off,none⟩/\I8 w b (off+i*6) lo hi (vd i) (f i):=by
 have e:∀i,∃v,i<n->∃b off,a=some ⟨b,off,none⟩/\I8 w b (off+i*6) lo hi v (f i):=fun i=>by
  by_cases d:i<n
  ·obtain⟨b,off,vd,g,hs⟩:=h.cells d;exact⟨vd,fun _=>⟨b,off,g,hs⟩⟩
  ·exact⟨undef,fun h=>absurd h d⟩
 refine⟨fun i=>(e i).choose,fun i d=>?_,fun i d=>(e i).choose_spec d⟩;obtain⟨b,off,_,hs⟩:=(e i).choose_spec d;exact hs.dead
open Classical in
theorem DR.vals(h:DR w lo hi (.slice a n c) n f):∃vd:Nat->Value,OA w lo hi n f vd/\∀i,i<n->∃b off,a=some ⟨b,off,none⟩/\IF w b (off+i*8) lo hi (vd i) (f i):=by
 have e:∀i,∃v,i<n->∃b off,a=some ⟨b,off,none⟩/\IF w b (off+i*8) lo hi v (f i):=fun i=>by
  by_cases d:i<n
  ·obtain⟨b,off,vd,g,hs⟩:=h.cells d;exact⟨vd,fun _=>⟨b,off,g,hs⟩⟩
  ·exact⟨undef,fun h=>absurd h d⟩
 refine⟨fun i=>(e i).choose,fun i d=>?_,fun i d=>(e i).choose_spec d⟩;obtain⟨b,off,_,hs⟩:=(e i).choose_spec d;exact hs.dead
theorem KQ:Tryz.prog.underlying 86=some (.map 9 44):=by kernel_rfl
theorem qW:Tryz.prog.underlying 156=some (.map 2 41):=by kernel_rfl
theorem Zi:Tryz.prog.underlying 192=some (.map 193 2):=by kernel_rfl
def FM(w:World)(W:A5)(M n:Nat)(vd:Nat->Value):Prop:=w.ownsMap Tryz.prog 9 CK M n (putD (fun i=>CS (W.A3 i).name) (fun i=>Dh (vd i) (W.A3 i)) n)
def Jt(w:World)(W:A5)(M n:Nat)(vd:Nat->Value):Prop:=w.ownsMap Tryz.prog 2 CK M n (putD (fun i=>Gt (W.A1 i).id) (fun i=>DK (vd i) (W.A1 i)) n)
variable{vd:Nat->Value}
theorem FM.A0{M:Nat}(h:FM w W M n vd)(t:Below w.heap.size w w'):FM w' W M n vd:=h.kept (Dy t none) (by simp)
theorem Jt.A0{M:Nat}(h:Jt w W M n vd)(t:Below w.heap.size w w'):Jt w' W M n vd:=h.kept (Dy t none) (by simp)
theorem K9(s v1 Q t:Value)(lo hi:Nat)(W:A5)(w:World)(h:BR w lo hi s v1 Q t W)(hn:W.sn<=8) :
 Calls Tryz.prog 46 #[BS s v1 Q t W] w fun e w'=>∃vd,e = .returned (.map (some (w.heap.size+1)))/\FM w' W (w.heap.size+1) W.sn vd/\MJ w lo hi W.sn W.A3 vd/\Below w.heap.size w w':=by
 have Hp:=A4 h;obtain⟨U,a,c,rfl,mc,-⟩:=id h.A3;unfold maxLen at U;obtain⟨vd,B,z⟩:=h.A3.vals;have E:=A4 B;have D:=A4 z;clear h B z;have O:=A9 w (.cells #[s,v1,.int .i64 W.time,.int .i64 W.next,.slice a W.sn c,t] 30);have K:=A4 (Aj.new w s v1 (.int .i64 W.time) (.int .i64 W.next) (.slice a W.sn c) t 30);have r:(w.alloc (.cells #[s,v1,.int .i64 W.time,.int .i64 W.next,.slice a W.sn c,t] 30)).heap.size=w.heap.size+1:=World.size_alloc _ _;have I:=World.ownsMap_made (w.alloc (.cells #[s,v1,.int .i64 W.time,.int .i64 W.next,.slice a W.sn c,t] 30)) Tryz.prog 9 CK;rw[r]at I;have L:=A4 I;have u:=A4 (K.out.A0 (A9 _ (.map #[] 0)));have v:=A4 (A7 O (A9 _ (.map #[] 0)));have S:=@run_makeMap Tryz.prog;obtain⟨V,X,Y,Z,x8,J⟩:=u.out.c;clear I;go_enter Tryz.func46,Tryz.ntmps46;go_wp2;clear V X Y Z x8 J O
 go_loopw [10] (fun i wr=>∃k:Nat,k<=W.sn/\i = .int .i64 k/\FM wr W (w.heap.size+1) k vd/\Below w.heap.size w wr/\w.heap.size+2<=wr.heap.size) (fun i _=>W.sn - (intOf i).toNat)
 case atStart=>exact⟨0,Nat.zero_le _,rfl,L.out,v.out,by rw[World.size_alloc,r];omega⟩
 case round=>
  clear L u v K r;obtain⟨k,hk,rfl,n,G,hz⟩:=hrel;have m:=A4 n;clear n;by_cases H:k<W.sn
  ·have P:(k:Int)<(W.sn:Int):=(by omega);obtain⟨b,off,rfl,A⟩:=D.out k H;have d:=A.A0 G;obtain⟨-,M,N,q,-,-⟩:=id d.dead;have F:=A4 q;rw[q]at d;clear q A;have l:=A9 wr (.cells #[.string (W.A3 k).name,.int .i64 (W.A3 k).origin,.int .i64 (W.A3 k).A6,.int .i64 (W.A3 k).rs,.int .i64 (W.A3 k).rb,.slice M (W.A3 k).dn N] 44);have C:=A4 (Aj.new wr (.string (W.A3 k).name) (.int .i64 (W.A3 k).origin) (.int .i64 (W.A3 k).A6) (.int .i64 (W.A3 k).rs) (.int .i64 (W.A3 k).rb) (.slice M (W.A3 k).dn N) 44);have y:=A7 G l;have q0:=d.c0;have q1:=d.c1;have q2:=d.c2;have q3:=d.c3;have q4:=d.c4;have q5:=d.c5;have x:=A4 (NW d.Bo);obtain⟨⟨y0,y1⟩,⟨y2,y3⟩,⟨y4,y5⟩,⟨y6,y7⟩,⟨y8,y9⟩,⟨bA,cA⟩⟩:=C.out;have o:=A4 (m.out.A0 l);have T:=l.size;clear d l;go_wp2_with (first
    | (at_mapUpdate;refine wpList_mapUpdate_own _ rfl _ _ _ 86 rfl 9 44 LM KQ CK (w.heap.size+1) k _ rfl o.out (by unfold maxLen;omega) _ _ _ rfl rfl x.out _ [] (Fi _) ?_;intro w1 p g)
    | go_in)
   go_roundw
   case rel=>
    refine⟨k+1,by omega,by go_num,?_,y.grown g y.size (fun j R=>by cases R;omega),by have:=g.size;omega⟩;unfold FM putD Dh;rw[F.out];exact p
   case measure=>simp[intOf];omega
  ·obtain rfl:k=W.sn:=(by omega);go_wp2;go_ret;exact⟨vd,rfl,m.out,E.out,G⟩
def SA(n:Nat)(f:Nat->AL):Prop:=∀i,i<n->(Lit.int .i64 (f i).id).wf=true
theorem zCo(s v1 t S:Value)(lo hi:Nat)(W:A5)(w:World)(h:BR w lo hi s v1 t S W)(hn:W.pn<=20)(D:SA W.pn W.A1) :
 Calls Tryz.prog 121 #[BS s v1 t S W] w fun e w'=>∃vd,e = .returned (.map (some (w.heap.size+1)))/\Jt w' W (w.heap.size+1) W.pn vd/\OA w lo hi W.pn W.A1 vd/\Below w.heap.size w w':=by
 have Hp:=A4 h;have I:=A4 D;obtain⟨X,a,c,rfl,mc,-⟩:=id h.A1;unfold maxLen at X;obtain⟨vd,C,z⟩:=h.A1.vals;have G:=A4 C;have F:=A4 z;clear h C z D;have Q:=A9 w (.cells #[s,v1,.int .i64 W.time,.int .i64 W.next,t,.slice a W.pn c] 30);have M:=A4 (Aj.new w s v1 (.int .i64 W.time) (.int .i64 W.next) t (.slice a W.pn c) 30);have r:(w.alloc (.cells #[s,v1,.int .i64 W.time,.int .i64 W.next,t,.slice a W.pn c] 30)).heap.size=w.heap.size+1:=World.size_alloc _ _;have K:=World.ownsMap_made (w.alloc (.cells #[s,v1,.int .i64 W.time,.int .i64 W.next,t,.slice a W.pn c] 30)) Tryz.prog 2 CK;rw[r]at K;have N:=A4 K;have u:=A4 (M.out.A0 (A9 _ (.map #[] 0)));have v:=A4 (A7 Q (A9 _ (.map #[] 0)));have U:=@run_makeMap Tryz.prog;obtain⟨Y,Z,x4,x6,x8,L⟩:=u.out.c;clear K;go_enter Tryz.func121,Tryz.ntmps121;go_wp2;clear Y Z x4 x6 x8 L Q
 go_loopw [10] (fun i wr=>∃k:Nat,k<=W.pn/\i = .int .i64 k/\Jt wr W (w.heap.size+1) k vd/\Below w.heap.size w wr/\w.heap.size+2<=wr.heap.size) (fun i _=>W.pn - (intOf i).toNat)
 case atStart=>exact⟨0,Nat.zero_le _,rfl,N.out,v.out,by rw[World.size_alloc,r];omega⟩
 case round=>
  clear N u v M r;obtain⟨k,hk,rfl,n,J,hz⟩:=hrel;have m:=A4 n;clear n;by_cases A:k<W.pn
  ·have R:(k:Int)<(W.pn:Int):=(by omega);obtain⟨b,off,rfl,B⟩:=F.out k A;have d:=B.A0 J;obtain⟨-,O,P,q,-,-⟩:=id d.dead;have H:=A4 q;rw[q]at d;clear q B;have l:=A9 wr (.cells #[.int .i64 (W.A1 k).id,.string (W.A1 k).name,.string (W.A1 k).set,.int .i64 (W.A1 k).A6,.int .i64 (W.A1 k).time,.int .i64 (W.A1 k).rs,.int .i64 (W.A1 k).rb,.slice O (W.A1 k).dn P] 41);have E:=A4 (Bu.new wr (.int .i64 (W.A1 k).id) (.string (W.A1 k).name) (.string (W.A1 k).set) (.int .i64 (W.A1 k).A6) (.int .i64 (W.A1 k).time) (.int .i64 (W.A1 k).rs) (.int .i64 (W.A1 k).rb) (.slice O (W.A1 k).dn P) 41);have y:=A7 J l;have q0:=d.c0;have q1:=d.c1;have q2:=d.c2;have q3:=d.c3;have q4:=d.c4;have q5:=d.c5;have q6:=d.c6;have q7:=d.c7;have x:=A4 (TV (I.out k A));obtain⟨⟨⟨y0,-⟩,⟨y1,-⟩,⟨y2,-⟩,⟨y3,-⟩⟩,⟨y4,-⟩,⟨y5,-⟩,⟨y6,-⟩,⟨y7,-⟩⟩:=E.out;have o:=A4 (m.out.A0 l);have V:=l.size;clear d l;go_wp2_with (first
    | (at_mapUpdate;refine wpList_mapUpdate_own _ rfl _ _ _ 156 rfl 2 41 yx qW CK (w.heap.size+1) k _ rfl o.out (by unfold maxLen;omega) _ _ _ rfl rfl x.out _ [] (Fi _) ?_;intro w1 p g)
    | go_in)
   go_roundw
   case rel=>
    refine⟨k+1,by omega,by go_num,?_,y.grown g y.size (fun j T=>by cases T;omega),by have:=g.size;omega⟩;unfold Jt putD DK;rw[H.out];exact p
   case measure=>simp[intOf];omega
  ·obtain rfl:k=W.pn:=(by omega);go_wp2;go_ret;exact⟨vd,rfl,m.out,G.out,J⟩
def Mi(n:Nat)(f:Nat->AL):Prop:=∀i,i<n->∀k,k<i->¬((f k).set=(f i).set/\(f k).name=(f i).name)
theorem Mi.iff(c:∀i,i<n->keyOf Tryz.prog 193 (.agg #[.string (f i).set,.string (f i).name])=some (key i)):H6 n key↔Mi n f:=by
 constructor
 ·intro h i hi k a e;refine h i hi k a ?_;have d:=c i hi;have b:=c k (by omega);rw[e.1,e.2,d]at b;exact(Option.some.inj b).symm
 ·intro h i hi k a e;have d:=c i hi;have b:=c k (by omega);rw[e]at b;have:=Sa.inj b d;simp only[Value.agg.injEq,Array.mk.injEq,List.cons.injEq,Value.string.injEq,and_true]at this;exact h i hi k a this
theorem zCx(v:Value)(n lo hi:Nat)(f:Nat->AL)(w:World)(h:DR w lo hi v n f)(hn:n<=20) :
 Calls Tryz.prog 118 #[v] w fun e w'=>AG (Mi n f) e/\Below w.heap.size w w':=by
 have M:=A4 h;obtain⟨S,a,c,rfl,V,-⟩:=id h;unfold maxLen at S;have o:∀i,∃l,WideAt.IsKeyLit l/\(i<n->keyOf Tryz.prog 193 (.agg #[.string (f i).set,.string (f i).name])=some l):=fun i=>by
  by_cases y:i<n
  ·obtain⟨b,off,vd,_,hs⟩:=h.cells y;obtain⟨l,J⟩:=zHb hs.Bo.2 hs.Bo.1;exact⟨l,Sa.key J,fun _=>J⟩
  ·exact⟨.string [],trivial,fun h=>absurd h y⟩
 obtain⟨key,z,A⟩:∃key:Nat->Lit,GU key/\∀i,i<n->keyOf Tryz.prog 193 (.agg #[.string (f i).set,.string (f i).name])=some (key i):=⟨fun i=>(o i).choose,fun i=>(o i).choose_spec.1,fun i=>(o i).choose_spec.2⟩;have D:=A4 z;have u:=A4 A;clear h o z A;have G:=A4 (World.ownsMap_made w Tryz.prog 193 CK);have Q:=@run_makeMap Tryz.prog;go_enter Tryz.func118,Tryz.ntmps118;go_wp2
 go_loopw [9] (fun i wr=>∃k:Nat,k<=n/\i = .int .i64 k/\wr.ownsMap Tryz.prog 193 CK w.heap.size k (putD key (fun i=>.int .i64 (f i).id) k)/\Below w.heap.size w wr/\w.heap.size+1<=wr.heap.size) (fun i _=>n - (intOf i).toNat)
 case atStart=>exact⟨0,Nat.zero_le _,rfl,G.out,A9 _ _,by rw[World.size_alloc];omega⟩
 case round=>
  clear G;obtain⟨k,T,rfl,q,F,U⟩:=hrel;have p:=A4 q;clear q;by_cases B:k<n
  ·have K:(k:Int)<(n:Int):=(by omega);obtain⟨b,off,vd,rfl,d⟩:=(M.out.A0 F).cells B;obtain⟨-,H,I,rfl,-,-⟩:=id d.dead;have m:=A9 wr (.cells #[.int .i64 (f k).id,.string (f k).name,.string (f k).set,.int .i64 (f k).A6,.int .i64 (f k).time,.int .i64 (f k).rs,.int .i64 (f k).rb,.slice H (f k).dn I] 41);have C:=A4 (Bu.new wr (.int .i64 (f k).id) (.string (f k).name) (.string (f k).set) (.int .i64 (f k).A6) (.int .i64 (f k).time) (.int .i64 (f k).rs) (.int .i64 (f k).rb) (.slice H (f k).dn I) 41);have x:=A7 F m;have W:=d.c0;have q1:=d.c1;have X:=d.c2;have Y:=d.c3;have Z:=d.c4;have q5:=d.c5;have q6:=d.c6;have q7:=d.c7;have t:=A4 (u.out k B);obtain⟨⟨⟨y0,-⟩,⟨y1,-⟩,⟨y2,-⟩,⟨y3,-⟩⟩,⟨y4,-⟩,⟨y5,-⟩,⟨y6,-⟩,⟨y7,-⟩⟩:=C.out;have r:=A4 (p.out.kept (Dy m none) (by simp));have R:=m.size;clear d m;go_wp2_with (first
    | (at_mapUpdate;refine wpList_mapUpdate_own _ rfl _ _ _ 192 rfl 193 2 Sa Zi CK w.heap.size k _ rfl r.out (by unfold maxLen;omega) _ _ _ rfl rfl t.out _ [] (Fi _) ?_;intro w1 s g)
    | go_in)
   go_roundw
   case rel=>exact⟨k+1,by omega,by go_num,s,x.grown g x.size (fun j P=>by cases P;omega),by have:=g.size;omega⟩
   case measure=>simp[intOf];omega
  ·obtain rfl:k=n:=(by omega);have E:=A4 (Qs D.out (fun i=>.int .i64 (f i).id) k);have L:=A4 (Mi.iff (f:=f) u.out);go_wp2_with (first
    | (at_len;refine wpList_len_own _ rfl _ 192 rfl 193 2 Zi CK w.heap.size k _ rfl p.out ?_)
    | go_in)
   go_ret;refine⟨⟨_,rfl,?_⟩,F⟩;have N:=E.out.2;have O:=L.out;simp only[beq_iff_eq,Int.natCast_inj];exact N.trans O
end Go.Proofs.YtibhefllijahkaaGreatDoor
