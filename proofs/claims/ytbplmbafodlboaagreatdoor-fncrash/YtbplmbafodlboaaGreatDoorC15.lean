/- A part of the proof. -/
import Derived.Test.YtbplmbafodlboaaGreatDoorC13
import Derived.RegionTactic
import Derived.ChangeAlike
import Derived.BigRegion
import Derived.Maps.OwnSet
import Derived.ProofKit
set_option linter.unusedVariables false
set_option maxRecDepth 20000
set_option maxHeartbeats 4000000
namespace Go.Proofs.YtbplmbafodlboaaGreatDoor
open Go.RowKit
structure zAV where
 name:ByteArray
 origin:Int
 zc2:Int
 rs:Int
 rb:Int
 dn:Nat
 ds:Nat->Int
 db:Nat->Int
structure zz where
 id:Int
 name:ByteArray
 set:ByteArray
 zc2:Int
 time:Int
 rs:Int
 rb:Int
 dn:Nat
 ds:Nat->Int
 db:Nat->Int
structure zB where
 pool:zE
 time:Int
 next:Int
 sn:Nat
 zc1:Nat->zAV
 pn:Nat
 zcy:Nat->zz
structure zDd (w:World) (b o lo hi:Nat) (vd:Value) (s:zAV):Prop where
 c0:w.cell? ⟨b,o,none⟩=some (.string s.name)
 c1:w.cell? ⟨b,o+1,none⟩=some (.int .i64 s.origin)
 c2:w.cell? ⟨b,o+2,none⟩=some (.int .i64 s.zc2)
 c3:w.cell? ⟨b,o+3,none⟩=some (.int .i64 s.rs)
 c4:w.cell? ⟨b,o+4,none⟩=some (.int .i64 s.rb)
 c5:w.cell? ⟨b,o+5,none⟩=some vd
 dead:qo w lo hi vd s.dn s.ds s.db
 zc5:s.name.size<=maxLen
theorem zDd.zcw{w w':World}{b o lo hi:Nat}{vd:Value}{s:zAV}(h:zDd w b o lo hi vd s)(t:Below w.heap.size w w'):zDd w' b o lo hi vd s:=
 ⟨(t.cell (zH h.c0)).trans h.c0,(t.cell (zH h.c1)).trans h.c1,(t.cell (zH h.c2)).trans h.c2,(t.cell (zH h.c3)).trans h.c3,(t.cell (zH h.c4)).trans h.c4,(t.cell (zH h.c5)).trans h.c5,h.dead.zcw t,h.zc5⟩
structure zC7 (w:World) (b o lo hi:Nat) (vd:Value) (s:zz):Prop where
 c0:w.cell? ⟨b,o,none⟩=some (.int .i64 s.id)
 c1:w.cell? ⟨b,o+1,none⟩=some (.string s.name)
 c2:w.cell? ⟨b,o+2,none⟩=some (.string s.set)
 c3:w.cell? ⟨b,o+3,none⟩=some (.int .i64 s.zc2)
 c4:w.cell? ⟨b,o+4,none⟩=some (.int .i64 s.time)
 c5:w.cell? ⟨b,o+5,none⟩=some (.int .i64 s.rs)
 c6:w.cell? ⟨b,o+6,none⟩=some (.int .i64 s.rb)
 c7:w.cell? ⟨b,o+7,none⟩=some vd
 dead:qo w lo hi vd s.dn s.ds s.db
 zc5:s.name.size<=maxLen/\s.set.size<=maxLen
theorem zC7.zcw{w w':World}{b o lo hi:Nat}{vd:Value}{s:zz}(h:zC7 w b o lo hi vd s)(t:Below w.heap.size w w'):zC7 w' b o lo hi vd s:=
 ⟨(t.cell (zH h.c0)).trans h.c0,(t.cell (zH h.c1)).trans h.c1,(t.cell (zH h.c2)).trans h.c2,(t.cell (zH h.c3)).trans h.c3,(t.cell (zH h.c4)).trans h.c4,(t.cell (zH h.c5)).trans h.c5,(t.cell (zH h.c6)).trans h.c6,(t.cell (zH h.c7)).trans h.c7,h.dead.zcw t,h.zc5⟩
def zCl(w:World)(lo hi:Nat)(v:Value)(n:Nat)(f:Nat->zAV):Prop:=
 n<=maxLen/\∃a cap,v = .slice a n cap/\n<=cap/\(0<n->∃b off,a=some ⟨b,off,none⟩/\lo<=b/\b<hi/\∀i,i<n->∃vd,zDd w b (off+i*6) lo hi vd (f i))
def zBq(w:World)(lo hi:Nat)(v:Value)(n:Nat)(f:Nat->zz):Prop:=
 n<=maxLen/\∃a cap,v = .slice a n cap/\n<=cap/\(0<n->∃b off,a=some ⟨b,off,none⟩/\lo<=b/\b<hi/\∀i,i<n->∃vd,zC7 w b (off+i*8) lo hi vd (f i))
theorem zCl.zcw{w w':World}{lo hi:Nat}{v:Value}{n:Nat}{f:Nat->zAV}(h:zCl w lo hi v n f)(t:Below w.heap.size w w'):zCl w' lo hi v n f:=by
 obtain⟨h0,a,cap,hv,aA,hc⟩:=h;refine⟨h0,a,cap,hv,aA,fun hn=>?_⟩;obtain⟨b,off,ha,h1,h2,h3⟩:=hc hn;refine⟨b,off,ha,h1,h2,fun i hi=>?_⟩;obtain⟨vd,hs⟩:=h3 i hi;exact⟨vd,hs.zcw t⟩
theorem zBq.zcw{w w':World}{lo hi:Nat}{v:Value}{n:Nat}{f:Nat->zz}(h:zBq w lo hi v n f)(t:Below w.heap.size w w'):zBq w' lo hi v n f:=by
 obtain⟨h0,a,cap,hv,aA,hc⟩:=h;refine⟨h0,a,cap,hv,aA,fun hn=>?_⟩;obtain⟨b,off,ha,h1,h2,h3⟩:=hc hn;refine⟨b,off,ha,h1,h2,fun i hi=>?_⟩;obtain⟨vd,hs⟩:=h3 i hi;exact⟨vd,hs.zcw t⟩
theorem zCl.cells{w:World}{lo hi:Nat}{a:Option Addr}{n c:Nat}{f:Nat->zAV}(h:zCl w lo hi (.slice a n c) n f){i:Nat}(aA:i<n):∃b off vd,a=some ⟨b,off,none⟩/\zDd w b (off+i*6) lo hi vd (f i):=by
 obtain⟨h0,a2,cap,hv,bA,hx⟩:=h;simp only[Value.slice.injEq,true_and]at hv;obtain⟨rfl,rfl⟩:=hv;obtain⟨b,off,ha,h1,h2,h3⟩:=hx (by omega);obtain⟨vd,hs⟩:=h3 i aA;exact⟨b,off,vd,ha,hs⟩
theorem zBq.cells{w:World}{lo hi:Nat}{a:Option Addr}{n c:Nat}{f:Nat->zz}(h:zBq w lo hi (.slice a n c) n f){i:Nat}(aA:i<n):∃b off vd,a=some ⟨b,off,none⟩/\zC7 w b (off+i*8) lo hi vd (f i):=by
 obtain⟨h0,a2,cap,hv,bA,hx⟩:=h;simp only[Value.slice.injEq,true_and]at hv;obtain⟨rfl,rfl⟩:=hv;obtain⟨b,off,ha,h1,h2,h3⟩:=hx (by omega);obtain⟨vd,hs⟩:=h3 i aA;exact⟨b,off,vd,ha,hs⟩
structure zAF (w:World) (lo hi:Nat) (v0 v1 v2 v3:Value) (W:zB):Prop where
 pool:zCV w lo hi v0 v1 W.pool
 zc1:zCl w lo hi v2 W.sn W.zc1
 zcy:zBq w lo hi v3 W.pn W.zcy
theorem zAF.zcw{w w':World}{lo hi:Nat}{v0 v1 v2 v3:Value}{W:zB}(h:zAF w lo hi v0 v1 v2 v3 W)(t:Below w.heap.size w w'):zAF w' lo hi v0 v1 v2 v3 W:=⟨h.pool.zcw t,h.zc1.zcw t,h.zcy.zcw t⟩
abbrev zB8(v0 v1 v2 v3:Value)(W:zB):Value:=.agg #[v0,v1,.int .i64 W.time,.int .i64 W.next,v2,v3]
def zBD(W:zB)(id:Int)(k:Nat):Prop:=k<W.pn/\(W.zcy k).id=id/\∀j,j<k->(W.zcy j).id≠id
theorem zBD.uniq{W:zB}{id:Int}{i j:Nat}(h:zBD W id i)(h':zBD W id j):i=j:=by
 rcases Nat.lt_trichotomy i j with e | e | e
 ·exact absurd h.2.1 (h'.2.2 i e)
 ·exact e
 ·exact absurd h'.2.1 (h.2.2 j e)
theorem zC{P:Prop}(h:P):Hid P:=h
def zOz(n:Nat)(P:Nat->Prop)(r:Int):Prop:=(∃k:Nat,k<n/\P k/\(∀j,j<k->¬P j)/\r=k)\/((∀j,j<n->¬P j)/\r = -1)
open Go.Maps
def zG4(t:Int):Prop:=0<=t/\t<=1000000
def zG3(s b:Int):Prop:=0<=s/\s<=199/\1<=b/\b<=1000000
def zSF(n:Nat)(f:Nat->Int):Prop:=∀i,i<n->∀k,k<i->f k≠f i
def zAD(n:Nat)(f g:Nat->Int):Prop:=n<=200/\(∀i,i<n->zG3 (f i) (g i))/\zSF n f
def PIn(n:Nat)(f g:Nat->Int)(x y:Int):Prop:=∃j,j<n/\f j=x/\g j=y
def zF1(n:Nat)(f g:Nat->Int)(m:Nat)(f' g':Nat->Int):Prop:=zAD n f g/\zAD m f' g'/\n=m/\∀i,i<n->PIn m f' g' (f i) (g i)
theorem zSF.inj{n:Nat}{f:Nat->Int}(h:zSF n f){i k:Nat}(hi:i<n)(hk:k<n)(e:f i=f k):i=k:=by
 rcases Nat.lt_trichotomy i k with h1 | h1 | h1
 ·exact absurd e (h k hk i h1)
 ·exact h1
 ·exact absurd e.symm (h i hi k h1)
theorem zUv:∀(n m:Nat) (h:Nat->Nat),(∀i,i<n->h i<m)->(∀i k,i<n->k<n->h i=h k->i=k)->n<=m
 | 0,_,_,_,_=>Nat.zero_le _
 | n+1,m,h,h1,h2=>by
  have hm:=h1 n (Nat.lt_succ_self n);have:=zUv n (m - 1) (fun i=>if h i<h n then h i else h i - 1) (fun i hi=>by
   have:=h1 i (by omega);have:h i≠h n:=fun e=>by have:=h2 i n (by omega) (by omega) e;omega
   show(if h i<h n then h i else h i - 1)<m - 1;split<;>omega) (fun i k hi hk e=>by
   have a1:h i≠h n:=fun e=>by have:=h2 i n (by omega) (by omega) e;omega
   have a2:h k≠h n:=fun e=>by have:=h2 k n (by omega) (by omega) e;omega
   have e':(if h i<h n then h i else h i - 1)=(if h k<h n then h k else h k - 1):=e;refine h2 i k (by omega) (by omega) ?_;split at e'<;>split at e'<;>omega)
  omega
theorem zWH{n:Nat}{f g f' g':Nat->Int}(h1:zAD n f g)(h2:zAD n f' g')(h:∀i,i<n->PIn n f' g' (f i) (g i)):∀j,j<n->PIn n f g (f' j) (g' j):=by
 intro j hj;by_cases hx:PIn n f g (f' j) (g' j)
 ·exact hx
 ·exfalso;have:=zUv n (n - 1) (fun i=>if hi:i<n then(if (h i hi).choose<j then(h i hi).choose else(h i hi).choose - 1)else 0) (fun i hi=>by
   have hs:=(h i hi).choose_spec;have bA:(h i hi).choose≠j:=fun e=>hx ⟨i,hi,by rw[<-hs.2.1,e],by rw[<-hs.2.2,e]⟩
   simp only[hi,dif_pos];split<;>omega) (fun i k hi hk e=>by
   have hs:=(h i hi).choose_spec;have aA:=(h k hk).choose_spec;have bA:(h i hi).choose≠j:=fun e=>hx ⟨i,hi,by rw[<-hs.2.1,e],by rw[<-hs.2.2,e]⟩
   have cA:(h k hk).choose≠j:=fun e=>hx ⟨k,hk,by rw[<-aA.2.1,e],by rw[<-aA.2.2,e]⟩
   simp only[hi,hk,dif_pos]at e;have e2:(h i hi).choose=(h k hk).choose:=(by split at e<;>split at e<;>omega);refine h1.2.2.inj hi hk ?_;rw[<-hs.2.1,<-aA.2.1,e2])
  omega
theorem zF1.symm{n m:Nat}{f g f' g':Nat->Int}(h:zF1 n f g m f' g'):zF1 m f' g' n f g:=by
 obtain⟨h1,h2,rfl,h3⟩:=h;exact⟨h2,h1,rfl,zWH h1 h2 h3⟩
def zET(x:Int):Lit:=.int .i64 x
theorem zLL{x y:Int}(h:x≠y):zET x≠zET y:=fun e=>h (by unfold zET at e;injection e)
theorem zMS(x:Int):WideAt.IsKeyLit (zET x):=trivial
def zGZ(x:Int):DataW Unit:=.lit (.int .i64 x)
theorem zJE{x y:Int}(h:zGZ x=zGZ y):x=y:=by unfold zGZ at h;injection h with h;injection h
def seenD(f g:Nat->Int):Nat->DataW Unit
 | 0=>.map []
 | k+1=>(seenD f g k).put (zET (f k)) (zGZ (g k))
theorem zGH(f g:Nat->Int):∀k,Tidy (seenD f g k)
 | 0=>tidy_empty
 | k+1=>(zGH f g k).put (zMS _) _
theorem zHW(f g:Nat->Int)(x:Int):∀k,Maps.has (seenD f g k) (zET x)=true↔∃i,i<k/\f i=x
 | 0=>by
  constructor
  ·intro h;exact absurd h (by simp[seenD,Maps.has])
  ·rintro⟨i,hi,_⟩;omega
 | k+1=>by
  by_cases hx:f k=x
  ·subst hx;exact⟨fun _=>⟨k,by omega,rfl⟩,fun _=>has_put_same (zGH f g k).isMap (zMS _) _⟩
  ·rw[show Maps.has (seenD f g (k+1)) (zET x)=Maps.has (seenD f g k) (zET x)from has_put_other (zLL (Ne.symm hx)) _,zHW f g x k];constructor
   ·rintro⟨i,hi,e⟩;exact⟨i,by omega,e⟩
   ·rintro⟨i,hi,e⟩;by_cases h:i=k
    ·subst h;exact absurd e hx
    ·exact⟨i,by omega,e⟩
theorem zN8{k:Nat}{f:Nat->Int}:zSF (k+1) f↔zSF k f/\∀i,i<k->f i≠f k:=by
 constructor
 ·exact fun h=>⟨fun i hi=>h i (by omega),fun i hi=>h k (by omega) i hi⟩
 ·rintro⟨h1,h2⟩ i hi j hj;by_cases e:i=k
  ·subst e;exact h2 j hj
  ·exact h1 i (by omega) j hj
theorem zKF(f g:Nat->Int):∀k,Maps.size (seenD f g k)<=k/\(Maps.size (seenD f g k)=k↔zSF k f)
 | 0=>⟨Nat.le_refl _,fun _ i hi=>by omega,fun _=>rfl⟩
 | k+1=>by
  obtain⟨h1,h2⟩:=zKF f g k;have e:Maps.size (seenD f g (k+1))=if Maps.has (seenD f g k) (zET (f k))then Maps.size (seenD f g k)else Maps.size (seenD f g k)+1:=size_put (zGH f g k) _
  by_cases hh:Maps.has (seenD f g k) (zET (f k))=true
  ·rw[if_pos hh]at e;rw[e,zN8];refine⟨by omega,fun h=>by omega,fun h=>?_⟩;obtain⟨i,hi,he⟩:=(zHW f g (f k) k).1 hh;exact absurd he (h.2 i hi)
  ·rw[if_neg hh]at e;rw[e,zN8,<-h2];refine⟨by omega,fun h=>⟨by omega,fun i hi he=>hh ((zHW f g (f k) k).2 ⟨i,hi,he⟩)⟩,fun h=>by omega⟩
theorem zU4{n:Nat}{f:Nat->Int}(g:Nat->Int)(hd:zSF n f)(z:DataW Unit):∀k,k<=n->∀i,i<k->(seenD f g k).atKey (zET (f i)) z=zGZ (g i)
 | 0,_,i,hi=>absurd hi (Nat.not_lt_zero _)
 | k+1,hk,i,hi=>by
  by_cases e:i=k
  ·subst e;exact atKey_put_same (zGH f g i).isMap (zMS _) _ _
  ·exact(atKey_put_other (zLL (fun h=>e (hd.inj (by omega) (by omega) h))) _ _).trans (zU4 g hd z k (by omega) i (by omega))
structure zF0 (n:Nat) (f g f':Nat->Int) (k:Nat) (D:DataW Unit):Prop where
 tidy:Tidy D
 size:Maps.size D+k=n
 at':∀x,(∀j,j<k->f' j≠x)->(∀i,i<n->f i=x->D.atKey (zET x) (zGZ 0)=zGZ (g i))/\((∀i,i<n->f i≠x)->D.atKey (zET x) (zGZ 0)=zGZ 0)
 has:∀x,Maps.has D (zET x)=true↔(∃i,i<n/\f i=x)/\∀j,j<k->f' j≠x
theorem zF0.start{n:Nat}{f g:Nat->Int}(h:zAD n f g)(f':Nat->Int):zF0 n f g f' 0 (seenD f g n) where
 tidy:=zGH f g n
 size:=by rw[(zKF f g n).2.2 h.2.2];rfl
 at':=fun x _=>⟨fun i hi e=>by subst e;exact zU4 g h.2.2 _ n (Nat.le_refl _) i hi,fun aA=>by
  refine atKey_of_not_has ?_ _;rw[Bool.eq_false_iff];intro hh;obtain⟨i,hi,e⟩:=(zHW f g x n).1 hh;exact aA i hi e⟩
 has:=fun x=>by
  rw[zHW];exact⟨fun h=>⟨h,fun j hj=>absurd hj (Nat.not_lt_zero _)⟩,fun h=>h.1⟩
theorem zF0.next{n m:Nat}{f g f' g':Nat->Int}{k:Nat}{D:DataW Unit}(h:zF0 n f g f' k D)(h2:zAD m f' g')(hk:k<m)(e:D.atKey (zET (f' k)) (zGZ 0)=zGZ (g' k)):zF0 n f g f' (k+1) (D.del (zET (f' k))):=by
 have bA:Maps.has D (zET (f' k))=true:=by
  by_cases hh:Maps.has D (zET (f' k))=true
  ·exact hh
  ·rw[atKey_of_not_has (by simpa using hh)]at e;have:=zJE e;have:=(h2.2.1 k hk).2.2.1;omega
 have hs:=size_del (k:=zET (f' k)) h.tidy;rw[bA]at hs;refine⟨h.tidy.del _,?_,fun x hx=>?_,fun x=>?_⟩
 ·have:=h.size;have cA:Maps.size (D.del (zET (f' k)))+1=Maps.size D:=hs;omega
 ·have aA:f' k≠x:=hx k (by omega);rw[atKey_del_other (zLL (Ne.symm aA))];exact h.at' x (fun j hj=>hx j (by omega))
 ·by_cases aA:f' k=x
  ·subst aA;rw[has_del_same];exact⟨fun h=>absurd h (by simp),fun h=>absurd rfl (h.2 k (by omega))⟩
  ·rw[has_del_other (zLL (Ne.symm aA)),h.has x];refine and_congr_right fun _=>⟨fun h j hj=>?_,fun h j hj=>h j (by omega)⟩
   by_cases ej:j=k
   ·subst ej;exact aA
   ·exact h j (by omega)
theorem zF0.no{n m:Nat}{f g f' g':Nat->Int}{k:Nat}{D:DataW Unit}(h:zF0 n f g f' k D)(h1:zAD n f g)(h2:zAD m f' g')(hk:k<m){c:Int}(e:D.atKey (zET (f' k)) (zGZ 0)=zGZ c)(hc:c≠g' k):¬zF1 n f g m f' g':=by
 intro hs;obtain⟨i,hi,e1,e2⟩:=hs.symm.2.2.2 k hk;have:=(h.at' (f' k) (fun j hj=>h2.2.2 k hk j hj)).1 i hi e1;rw[e]at this;exact hc ((zJE this).trans e2)
theorem zF0.end{n m:Nat}{f g f' g':Nat->Int}{D:DataW Unit}(h:zF0 n f g f' m D)(h1:zAD n f g)(h2:zAD m f' g')(aA:∀j,j<m->PIn n f g (f' j) (g' j)):Maps.size D=0↔zF1 n f g m f' g':=by
 have hs:=h.size;constructor
 ·intro h0;obtain rfl:m=n:=(by omega);exact zF1.symm ⟨h2,h1,rfl,aA⟩
 ·intro hp;have:=hp.2.2.1;omega
theorem zF0.in{n m:Nat}{f g f' g':Nat->Int}{k:Nat}{D:DataW Unit}(h:zF0 n f g f' k D)(h2:zAD m f' g')(hk:k<m)(e:D.atKey (zET (f' k)) (zGZ 0)=zGZ (g' k)):PIn n f g (f' k) (g' k):=by
 by_cases hx:∃i,i<n/\f i=f' k
 ·obtain⟨i,hi,ei⟩:=hx;have:=(h.at' (f' k) (fun j hj=>h2.2.2 k hk j hj)).1 i hi ei;rw[e]at this;exact⟨i,hi,ei,(zJE this).symm⟩
 ·have:=(h.at' (f' k) (fun j hj=>h2.2.2 k hk j hj)).2 (fun i hi e=>hx ⟨i,hi,e⟩);rw[e]at this;have:=zJE this;have:=(h2.2.1 k hk).2.2.1;omega
def zAl(f g:Nat->Int)(t:Int):Nat->List (Int×Int)
 | 0=>[]
 | k+1=>if t<g k then zAl f g t k ++ [(f k,g k)] else zAl f g t k
def zEj(f g:Nat->Int)(t:Int):Nat->List (Int×Int)
 | 0=>[]
 | k+1=>if t<g k then zEj f g t k else zEj f g t k ++ [(f k,g k)]
theorem zGN(f g:Nat->Int)(t:Int):∀k,(zAl f g t k).length+(zEj f g t k).length=k
 | 0=>rfl
 | k+1=>by
  have:=zGN f g t k;unfold zAl zEj;split<;>simp<;>omega
theorem zn{P:Prop}(h:P):Hid P:=h
theorem qo.cellsD{w:World}{lo hi:Nat}{a:Option Addr}{n c:Nat}{f g:Nat->Int}(h:qo w lo hi (.slice a n c) n f g){k:Nat}(hk:k<n):∃b off,a=some ⟨b,off,none⟩/\w.cell? ⟨b,off+k*2,none⟩=some (.int .i64 (f k))/\w.cell? ⟨b,off+k*2+1,none⟩=some (.int .i64 (g k)):=by
 obtain⟨_,a2,c2,hv,_,hx⟩:=h;simp only[Value.slice.injEq,true_and]at hv;obtain⟨rfl,rfl⟩:=hv;obtain⟨b,off,ha,_,_,h3⟩:=hx (by omega);exact⟨b,off,ha,(h3 k hk).1,(h3 k hk).2⟩
theorem zPz(x y:Int)(w:World):Calls Tryz.prog 183 #[.agg #[.int .i64 x,.int .i64 y]] w fun e w'=>zL (zG3 x y) e/\Below w.heap.size w w':=by
 have aA:=zD w (.cells #[.int .i64 x,.int .i64 y] 70);by_cases h1:0<=x
 ·by_cases h2:x<200
  ·by_cases h3:zBg y
   ·have H:=zn (show zG3 x y from⟨h1,by omega,h3.1,h3.2⟩);have H3:=zn h3;clear h3;go_enter Tryz.func183,Tryz.ntmps183;go_wp2_with (first | (go_at_call 177;refine(zAx y _).mono ?_;rintro e w1 ⟨⟨t,rfl,ht⟩,rfl⟩;obtain rfl:t=true:=ht.2 H3.out;clear ht) | fail);go_wp2;go_ret;exact⟨zL.yes H.out,aA⟩
   ·have H:=zn (show ¬zG3 x y from fun h=>h3 ⟨h.2.2.1,h.2.2.2⟩);have H3:=zn h3;clear h3;go_enter Tryz.func183,Tryz.ntmps183;go_wp2_with (first | (go_at_call 177;refine(zAx y _).mono ?_;rintro e w1 ⟨⟨t,rfl,ht⟩,rfl⟩;obtain rfl:t=false:=yy ht H3.out;clear ht) | fail);go_wp2;go_ret;exact⟨zL.no H.out,aA⟩
  ·go_enter Tryz.func183,Tryz.ntmps183;go_wp2;go_ret;exact⟨zL.no fun h=>by have:=h.2.1;omega,aA⟩
 ·go_enter Tryz.func183,Tryz.ntmps183;go_wp2;go_ret;exact⟨zL.no fun h=>by have:=h.1;omega,aA⟩
theorem zbd:Keyed Tryz.prog 2:=int_keyed (q:=.i64) (by kernel_rfl)
theorem zYB:Tryz.prog.underlying 220=some (.map 2 2):=by kernel_rfl
theorem zZl:Tryz.prog.underlying 2=some (.int .i64):=by kernel_rfl
theorem zco(w:World):(zeroValue 2).run Tryz.prog w = .ok (.int .i64 0) w:=by kernel_rfl
theorem zNQ{x:Int}(h0:0<=x)(h1:x<=1000000):(Lit.int .i64 x).wf=true:=WalkArith.wf_i64 (by omega)
def zWi(w:World)(B n:Nat)(D:DataW Unit):Prop:=w.ownsMap Tryz.prog 2 (plainElem Tryz.prog 2) B n D
theorem zIG(v:Value)(n lo hi:Nat)(f g:Nat->Int)(w:World)(h1:qo w lo hi v n f g)(hn:n<=200)(jA:∀i,i<n->zG3 (f i) (g i)) :
  Calls Tryz.prog 182 #[v] w fun e w'=>e = .returned (.map (some w.heap.size))/\zWi w' w.heap.size n (seenD f g n)/\Below w.heap.size w w':=by
 have Hp:=zn h1;have gA:=zn jA;obtain⟨m1,a,c,rfl,mc,_⟩:=id h1;clear h1 jA;have nA:=@run_makeMap Tryz.prog;go_enter Tryz.func182,Tryz.ntmps182;go_wp2
 go_loopw [9] (fun i wr=>∃k:Nat,k<=n/\i = .int .i64 k/\zWi wr w.heap.size k (seenD f g k)/\Below w.heap.size w wr) (fun i _=>n - (intOf i).toNat)
 case atStart=>exact⟨0,Nat.zero_le _,rfl,World.ownsMap_made _ _ _ _,(Below.refl _ _).alloc (Nat.le_refl _) _⟩
 case round=>
  obtain⟨k,hk,rfl,eA,hb⟩:=hrel;have bA:=zn eA;clear eA;by_cases dA:k<n
  ·have mA:(k:Int)<(n:Int):=(by omega);obtain⟨b,off,rfl,q0,q1⟩:=(Hp.out.zcw hb).cellsD dA;have cA:keyOf Tryz.prog 2 (.int .i64 (f k))=some (zET (f k)):=keyOf_int_mk zZl (zNQ (gA.out k dA).1 (by have:=(gA.out k dA).2.1;omega));have kA:=zNQ (x:=g k) (by have:=(gA.out k dA).2.2.1;omega) (gA.out k dA).2.2.2;have iA:=zn cA;have lA:=zn kA;clear cA kA;go_wp2_with (first
    | (at_mapUpdate;refine wpList_mapUpdate_own _ rfl _ _ _ 220 rfl 2 2 zbd zYB _ w.heap.size k _ rfl (bA.out.alloc _) (by unfold maxLen;omega) _ _ _ rfl rfl iA.out _ [] (plainElem_int zZl lA.out) ?_;intro w1 fA aA)
    | go_in)
   go_roundw
   case rel=>exact⟨k+1,by omega,by go_num,fA,(hb.alloc hb.size _).grown aA (by rw[World.size_alloc];have:=hb.size;omega) (fun j hj=>by cases hj;exact Nat.le_refl _)⟩
   case measure=>simp[intOf];omega
  ·obtain rfl:k=n:=(by omega);go_wp2;go_ret;exact⟨rfl,bA.out,hb⟩
theorem zAn(v:Value)(n lo hi:Nat)(f g:Nat->Int)(w:World)(h1:qo w lo hi v n f g) :
  Calls Tryz.prog 172 #[v] w fun e w'=>zL (zAD n f g) e/\Below w.heap.size w w':=by
 have Hp:=zn h1;obtain⟨m1,a,c,rfl,mc,_⟩:=id h1;clear h1;unfold maxLen at m1;by_cases hn:n<=200
 ·have lA:¬(200:Int)<(n:Int):=(by omega);go_enter Tryz.func172,Tryz.ntmps172;go_wp2
  go_loopw [10] (fun i wr=>∃k:Nat,k<=n/\i = .int .i64 k/\(∀i,i<k->zG3 (f i) (g i))/\Below w.heap.size w wr) (fun i _=>n - (intOf i).toNat)
  case atStart=>exact⟨0,Nat.zero_le _,rfl,fun j hj=>absurd hj (Nat.not_lt_zero _),Below.refl _ _⟩
  case round=>
   obtain⟨k,hk,rfl,cA,hb⟩:=hrel;have aA:=zn cA;clear cA;by_cases fA:k<n
   ·have kA:(k:Int)<(n:Int):=(by omega);obtain⟨b,off,rfl,q0,q1⟩:=(Hp.out.zcw hb).cellsD fA;have gA:=zA hb (zD wr (.cells #[.int .i64 (f k),.int .i64 (g k)] 70));go_wp2_with fail;refine(zPz (f k) (g k) _).mono ?_;rintro e w1 ⟨⟨t,rfl,ht⟩,dA⟩;have eA:=zA gA dA;clear dA gA q0 q1;by_cases bA:zG3 (f k) (g k)
    ·have Hk:=zn bA;obtain rfl:t=true:=ht.2 bA;clear ht bA;go_wp2;go_roundw
     case rel=>exact⟨k+1,by omega,by go_num,yE fA aA.out Hk.out,eA⟩
     case measure=>simp[intOf];omega
    ·have Hk:=zn bA;obtain rfl:t=false:=yy ht bA;clear ht bA;go_wp2;go_ret;exact⟨zL.no fun h=>Hk.out (h.2.1 k fA),eA⟩
   ·obtain rfl:k=n:=(by omega);go_wp2_with fail;refine(zIG _ k lo hi f g _ (Hp.out.zcw hb) hn aA.out).mono ?_;rintro e w1 ⟨rfl,hm,dA⟩;have eA:=zA hb dA;have Hm:=zn hm;have mA:=zKF f g k;clear hm dA;obtain⟨nA,iA⟩:=mA;have jA:=zn iA;clear iA;go_wp2_with (first
     | (at_len;refine wpList_len_own _ rfl _ 220 rfl 2 2 zYB _ wr.heap.size k _ rfl Hm.out ?_)
     | go_in)
    go_ret;refine⟨⟨_,rfl,?_⟩,eA⟩;have Ho:=jA.out;have Ha:=aA.out;simp only[beq_iff_eq,Int.natCast_inj];exact Ho.trans ⟨fun h=>⟨hn,Ha,h⟩,fun h=>h.2.2⟩
 ·have lA:(200:Int)<(n:Int):=(by omega);go_enter Tryz.func172,Tryz.ntmps172;go_wp2;go_ret;exact⟨zL.no fun h=>hn h.1,Below.refl _ _⟩
def zHd(n a b:Int):Prop:=a<=n/\n<=b
structure zH2 where
 zc2:Int
 time:Int
 rs:Int
 rb:Int
 dn:Nat
 ds:Nat->Int
 db:Nat->Int
def zZy(s:zz):zH2:=⟨s.zc2,s.time,s.rs,s.rb,s.dn,s.ds,s.db⟩
def zZz(t:Int)(s:zAV):zH2:=⟨s.zc2,t,s.rs,s.rb,s.dn,s.ds,s.db⟩
def zK(W:zB)(i:Nat):zH2:=if i<W.pn then zZy (W.zcy i)else zZz W.time (W.zc1 (i - W.pn))
def memN(W:zB):Nat:=W.pn+W.sn
theorem yR{W:zB}{i:Nat}(h:i<W.pn):zK W i=zZy (W.zcy i):=if_pos h
theorem zAo(W:zB)(i:Nat):zK W (W.pn+i)=zZz W.time (W.zc1 i):=by
 unfold zK;rw[if_neg (by omega),show W.pn+i - W.pn=i by omega]
def zA9:zz:=⟨0,ByteArray.empty,ByteArray.empty,0,0,0,0,0,fun _=>0,fun _=>0⟩
open Classical in
noncomputable def zI(W:zB)(x:Int):zz:=if h:∃k,zBD W x k then W.zcy h.choose else zA9
theorem zBO{W:zB}{x:Int}{k:Nat}(h:zBD W x k):zI W x=W.zcy k:=by
 unfold zI;rw[dif_pos ⟨k,h⟩,zBD.uniq (Exists.choose_spec (⟨k,h⟩:∃k,zBD W x k)) h]
theorem zIS{W:zB}{x:Int}(h:∀k,k<W.pn->(W.zcy k).id≠x):zI W x=zA9:=by
 unfold zI;rw[dif_neg];rintro⟨k,hk⟩;exact h k hk.1 hk.2.1
theorem zKH{W:zB}{x:Int}:∀{n:Nat},n<=W.pn->(∃k,k<n/\(W.zcy k).id=x)->∃k,zBD W x k
 | 0,_,⟨k,hk,_⟩=>absurd hk (Nat.not_lt_zero _)
 | n+1,hn,⟨k,hk,e⟩=>by
  by_cases h:∃j,j<n/\(W.zcy j).id=x
  ·exact zKH (by omega) h
  ·have:k=n:=by
    by_cases h':k<n
    ·exact absurd ⟨k,h',e⟩ h
    ·omega
   subst this;exact⟨k,by omega,e,fun j hj he=>h ⟨j,hj,he⟩⟩
def treeM(W:zB)(m:zH2):List (Int×Int):=zN W.pool m.rs m.rb
noncomputable def oldM(W:zB)(m:zH2):List (Int×Int):=zN W.pool (zI W m.zc2).rs (zI W m.zc2).rb
def zCK(l m:List (Int×Int)):List (Int×Int):=l.filter (fun x=>decide (x∉m))
def zAH(l m:List (Int×Int)):List (Int×Int):=l.filter (fun x=>decide (x∈m))
def zCa(l:List (Int×Int))(t:Int):List (Int×Int):=l.filter (fun x=>decide (t<x.2))
noncomputable def zH6(W:zB)(m:zH2):List (Int×Int):=zCK (treeM W m) (oldM W m)
noncomputable def zBS(W:zB)(m:zH2):List (Int×Int):=zCa (treeM W m) (zI W m.zc2).time
def zEb(n:Nat)(f g:Nat->Int)(l:List (Int×Int)):Prop:=zF1 n f g l.length (qP l) (qb l)
def zKQ(now old:List (Int×Int))(t tm:Int):Prop:=∀x,x∈now->x.2<=tm/\(x∈old↔x.2<=t)
def zNw(W:zB)(m:zH2):Prop:=zEb m.dn m.ds m.db (zCK (oldM W m) (treeM W m))/\zKQ (treeM W m) (oldM W m) (zI W m.zc2).time m.time
def zaW(W:zB)(m:zH2):Prop:=m.rb<=m.time/\zEb (zBS W m).length (qP (zBS W m)) (qb (zBS W m)) (zH6 W m)/\zEb m.dn m.ds m.db (zCK (oldM W m) (zAH (treeM W m) (oldM W m)))
theorem zVl(l m:List (Int×Int)):zCK m (zAH l m)=zCK m l:=by
 unfold zCK zAH;refine List.filter_congr fun x hx=>?_
 rw[decide_eq_decide];simp only[List.mem_filter,decide_eq_true_eq];exact⟨fun h h'=>h ⟨h',hx⟩,fun h h'=>h h'.1⟩
theorem zBT{l:List (Int×Int)}{i:Nat}(h:i<l.length):l.getD i (0,0)=l[i]:=by
 rw[List.getD_eq_getElem?_getD,List.getElem?_eq_getElem h,Option.getD_some]
theorem zFP{l:List (Int×Int)}{x y:Int}:PIn l.length (qP l) (qb l) x y↔(x,y)∈l:=by
 constructor
 ·rintro⟨j,hj,e1,e2⟩;unfold qP at e1;unfold qb at e2;rw[zBT hj]at e1 e2;have:l[j]=(x,y):=Prod.ext e1 e2;exact this▸List.getElem_mem hj
 ·intro h;obtain⟨j,hj,e⟩:=List.getElem_of_mem h;exact⟨j,hj,by unfold qP;rw[zBT hj,e],by unfold qb;rw[zBT hj,e]⟩
structure zFY (W:zB):Prop where
 right:zq W.pool
 ids:∀k,k<W.pn->(W.zcy k).zc2<(W.zcy k).id
 tree:∀i,i<memN W->qT W.pool (zK W i).rs (zK W i).rb
 time:∀i,i<memN W->0<=(zK W i).time
theorem zCD{p:zE}{rs rb:Int}(hR:zq p)(hT:qT p rs rb){x:Int×Int}(hx:x∈zN p rs rb):yT p x.1 x.2/\x.2<=rb/\¬Has p.hn p.h x.1:=by
 rcases(zNO hR).2 hT with hz | ⟨hP,_,hA⟩
 ·rw[zN,if_pos hz]at hx;simp at hx
 ·have:=zFl hR hP x hx;exact⟨this.1,this.2,hA.2 x hx⟩
theorem zC5{p:zE}{rs rb:Int}(hR:zq p)(hT:qT p rs rb):(zN p rs rb).Nodup:=by
 rcases(zNO hR).2 hT with hz | ⟨hP,_,hA⟩
 ·rw[zN,if_pos hz];exact List.nodup_nil
 ·exact hA.1
theorem zV8{p:zE}{x y:Int}(hR:zq p)(h:yT p x y):zG3 x y:=by
 have hf:=zBG hR h;have h1:=hR.1;obtain⟨a,b,c,d⟩:=h;have:=hf.1.2;exact⟨b,by omega,a,by omega⟩
theorem zDX{p:zE}(hR:zq p){l:List (Int×Int)}(h:∀x,x∈l->yT p x.1 x.2)(hn:l.Nodup)(hl:l.length<=200):zAD l.length (qP l) (qb l):=by
 have hs:=(zJ7 h).2 hn;refine⟨hl,fun i hi=>?_,fun i hi k hk=>?_⟩
 ·unfold qP qb;rw[zBT hi];exact zV8 hR (h _ (List.getElem_mem hi))
 ·unfold qP;rw[zBT hi,zBT (show k<l.length by omega)];unfold zCo List.Nodup at hs;rw[List.pairwise_map]at hs;exact List.pairwise_iff_getElem.1 hs k i (by omega) hi hk
theorem zPy{p:zE}(hR:zq p){T:List (Int×Int)}(hT:∀x,x∈T->yT p x.1 x.2)(hn:T.Nodup)(hl:T.length<=200)(P Q:Int×Int->Bool) :
  zEb (T.filter P).length (qP (T.filter P)) (qb (T.filter P)) (T.filter Q)↔∀x,x∈T->P x=Q x:=by
 constructor
 ·rintro⟨_,_,aA,cA⟩;have h1:∀x,x∈T->P x=true->Q x=true:=fun x hx hp=>by
   have hm:x∈T.filter P:=List.mem_filter.2 ⟨hx,hp⟩;obtain⟨j,hj,e⟩:=List.getElem_of_mem hm;have:=cA j hj;rw[zFP]at this;unfold qP qb at this;rw[zBT hj,e]at this;exact(List.mem_filter.1 this).2
  have h2:(T.filter Q).filter P=T.filter P:=by
   rw[List.filter_filter];refine List.filter_congr fun x hx=>?_
   cases hp:P x
   ·rfl
   ·rw[h1 x hx hp];rfl
  have h3:((T.filter Q).filter P).length=(T.filter Q).length:=(by rw[h2,aA]);rw[List.length_filter_eq_length_iff]at h3;intro x hx;cases hq:Q x
  ·cases hp:P x
   ·rfl
   ·rw[h1 x hx hp]at hq;exact absurd hq (by simp)
  ·exact h3 x (List.mem_filter.2 ⟨hx,hq⟩)
 ·intro h;have e:T.filter P=T.filter Q:=List.filter_congr h;rw[e];have bA:zAD (T.filter Q).length (qP (T.filter Q)) (qb (T.filter Q)):=zDX hR (fun x hx=>hT x (List.mem_filter.1 hx).1) (hn.filter _) (Nat.le_trans (List.length_filter_le _ _) hl);exact⟨bA,bA,rfl,fun i hi=>⟨i,hi,rfl,rfl⟩⟩
theorem zMp{W:zB}(h:zFY W){i:Nat}(hi:i<memN W):zaW W (zK W i)↔zNw W (zK W i):=by
 generalize hm:zK W i=m;have hT:=h.tree i hi;have eA:=h.time i hi;rw[hm]at hT eA;have bA:(treeM W m).length<=200:=by have:=yz W.pool m.rs m.rb;unfold treeM;omega
 have fA:∀x,x∈treeM W m->yT W.pool x.1 x.2:=fun x hx=>(zCD h.right hT hx).1
 unfold zaW zNw;rw[zVl];have key:zEb (zBS W m).length (qP (zBS W m)) (qb (zBS W m)) (zH6 W m)↔∀x,x∈treeM W m->(x∈oldM W m↔x.2<=(zI W m.zc2).time):=by
  unfold zBS zH6 zCa zCK;rw[zPy h.right fA (zC5 h.right hT) bA];refine⟨fun hh x hx=>?_,fun hh x hx=>?_⟩
  ·have:=hh x hx;rw[decide_eq_decide]at this;constructor
   ·intro aA;by_cases dA:(zI W m.zc2).time<x.2
    ·exact absurd aA (this.1 dA)
    ·omega
   ·intro cA;by_cases aA:x∈oldM W m
    ·exact aA
    ·have:=this.2 aA;omega
  ·rw[decide_eq_decide];have:=hh x hx;constructor
   ·intro dA aA;have:=this.1 aA;omega
   ·intro aA;by_cases cA:x.2<=(zI W m.zc2).time
    ·exact absurd (this.2 cA) aA
    ·omega
 rw[key];constructor
 ·rintro⟨h1,h2,h3⟩;exact⟨h3,fun x hx=>⟨by have:=(zCD h.right hT hx).2.1;omega,h2 x hx⟩⟩
 ·rintro⟨h1,h2⟩;refine⟨?_,fun x hx=>(h2 x hx).2,h1⟩;by_cases hz:Nil m.rs m.rb
  ·rw[hz.2];exact eA
  ·have hr:(m.rs,m.rb)∈treeM W m:=(by unfold treeM zN;rw[if_neg hz];simp);exact(h2 _ hr).1
theorem zWZ{W:zB}{m:zH2}(hS:zNw W m):zBS W m=zH6 W m:=by
 unfold zBS zH6 zCa zCK;refine List.filter_congr fun x hx=>?_
 rw[decide_eq_decide];have:=(hS.2 x hx).2;constructor
 ·intro h1 h2;have:=this.1 h2;omega
 ·intro h1;by_cases h2:x.2<=(zI W m.zc2).time
  ·exact absurd (this.2 h2) h1
  ·omega
open Classical in
noncomputable def cnt(P:Nat->Prop):Nat->Nat
 | 0=>0
 | k+1=>cnt P k+(if P k then 1 else 0)
theorem zE0{P Q:Nat->Prop}:∀{n:Nat},(∀i,i<n->(P i↔Q i))->cnt P n=cnt Q n
 | 0,_=>rfl
 | n+1,h=>by
  unfold cnt;rw[zE0 (fun i hi=>h i (by omega))];by_cases hp:P n
  ·rw[if_pos hp,if_pos ((h n (by omega)).1 hp)]
  ·rw[if_neg hp,if_neg (fun hq=>hp ((h n (by omega)).2 hq))]
theorem zWz{P Q:Nat->Prop}:∀{n:Nat},(∀i,i<n->P i->Q i)->cnt P n<=cnt Q n
 | 0,_=>Nat.le_refl _
 | n+1,h=>by
  unfold cnt;have:=zWz (n:=n) (fun i hi=>h i (by omega));by_cases hp:P n
  ·rw[if_pos hp,if_pos (h n (by omega) hp)];omega
  ·rw[if_neg hp];omega
theorem zLs{P Q:Nat->Prop}:∀{n:Nat},(∀i,i<n->P i->Q i)->(cnt P n=cnt Q n↔∀i,i<n->(P i↔Q i))
 | 0,_=>⟨fun _ i hi=>absurd hi (Nat.not_lt_zero _),fun _=>rfl⟩
 | n+1,h=>by
  refine⟨fun e=>?_,fun e=>zE0 e⟩;have aA:=zWz (n:=n) (fun i hi=>h i (by omega));have ih:=zLs (n:=n) (fun i hi=>h i (by omega));unfold cnt at e;have hn:P n↔Q n:=by
   refine⟨h n (by omega),fun hq=>?_⟩;by_cases hp:P n
   ·exact hp
   ·rw[if_neg hp,if_pos hq]at e;omega
  have e':cnt P n=cnt Q n:=by
   by_cases hp:P n
   ·rw[if_pos hp,if_pos (hn.1 hp)]at e;omega
   ·rw[if_neg hp,if_neg (fun hq=>hp (hn.2 hq))]at e;omega
  intro i hi;by_cases e2:i=n
  ·subst e2;exact hn
  ·exact ih.1 e' i (by omega)
theorem zST{P Q:Nat->Prop}:∀{n:Nat},(∀i,i<n->P i->¬Q i)->cnt (fun i=>P i\/Q i) n=cnt P n+cnt Q n
 | 0,_=>rfl
 | n+1,h=>by
  unfold cnt;rw[zST (fun i hi=>h i (by omega))];by_cases hp:P n
  ·rw[if_pos (Or.inl hp),if_pos hp,if_neg (h n (by omega) hp)];omega
  ·by_cases hq:Q n
   ·rw[if_pos (Or.inr hq),if_neg hp,if_pos hq];omega
   ·rw[if_neg (fun h=>h.elim hp hq),if_neg hp,if_neg hq];omega
theorem zTo(P:Nat->Prop):∀n,cnt P n+cnt (fun i=>¬P i) n=n
 | 0=>rfl
 | n+1=>by
  have:=zTo P n;unfold cnt;by_cases hp:P n
  ·rw[if_pos hp,if_neg (fun h=>h hp)];omega
  ·rw[if_neg hp,if_pos hp];omega
theorem zLt{P:Nat->Prop}:∀{n:Nat},(∀i,i<n->¬P i)->cnt P n=0
 | 0,_=>rfl
 | n+1,h=>by
  unfold cnt;rw[zLt (fun i hi=>h i (by omega)),if_neg (h n (by omega))]
theorem zTp:∀{n a:Nat},a<n->cnt (fun i=>i=a) n=1
 | 0,a,h=>absurd h (Nat.not_lt_zero _)
 | n+1,a,h=>by
  unfold cnt;by_cases e:n=a
  ·subst e;rw[if_pos rfl,zLt (fun i hi=>by omega)]
  ·rw[if_neg e,zTp (by omega)]
theorem zJC{n:Nat}:∀{l:List Nat},l.Nodup->(∀x,x∈l->x<n)->cnt (fun i=>i∈l) n=l.length
 | [],_,_=>zLt (fun i hi=>by simp)
 | a :: l,hn,hl=>by
  obtain⟨h1,h2⟩:=List.nodup_cons.1 hn;have e1:cnt (fun i=>i∈a :: l) n=cnt (fun i=>i=a\/i∈l) n:=zE0 (fun i _=>List.mem_cons);have e2:cnt (fun i=>i=a\/i∈l) n=cnt (fun i=>i=a) n+cnt (fun i=>i∈l) n:=zST (fun i _ (e:i=a) hi=>h1 (e▸hi));rw[e1,e2,zTp (hl a (by simp)),zJC h2 (fun x hx=>hl x (by simp[hx])),List.length_cons];omega
theorem zQf(f:Nat->zM):∀n,roomN f n=cnt (fun i=>zAA (f i)) n
 | 0=>rfl
 | n+1=>by unfold roomN cnt;rw[zQf f n]
theorem zWy{p:zE}(hR:zq p):cnt (fun i=>Has p.hn p.h i) p.n=p.hn:=by
 have h:=hR.2.2;have hl:∀x,x∈(List.range p.hn).map (fun j=>(p.h j).toNat)->x<p.n:=by
  intro x hx;obtain⟨j,hj,rfl⟩:=List.mem_map.1 hx;have:=h j (List.mem_range.1 hj);have h1:=this.1;have h2:=this.2.1;omega
 have hn:((List.range p.hn).map (fun j=>(p.h j).toNat)).Nodup:=by
  unfold List.Nodup;rw[List.pairwise_map];refine List.Pairwise.imp_of_mem ?_ (List.pairwise_lt_range);intro a b ha hb aA e;have h1:=h a (List.mem_range.1 ha);have h2:=h b (List.mem_range.1 hb);have:=h1.1;have:=h2.1;exact h2.2.2.2 ⟨a,aA,by omega⟩
 have:=zJC hn hl;rw[List.length_map,List.length_range]at this;refine Eq.trans (zE0 (fun i hi=>?_)) this;constructor
 ·rintro⟨j,hj,e⟩;exact List.mem_map.2 ⟨j,List.mem_range.2 hj,by rw[e];simp⟩
 ·intro hx;obtain⟨j,hj,e⟩:=List.mem_map.1 hx;have:=(h j (List.mem_range.1 hj)).1;exact⟨j,List.mem_range.1 hj,by omega⟩
theorem zQe{p:zE}(hR:zq p):cnt (fun i=>¬zAA (p.s i)/\¬Has p.hn p.h i) p.n+roomN p.s p.n+p.hn=p.n:=by
 have h1:=zTo (fun i=>zAA (p.s i)\/Has p.hn p.h i) p.n;have h2:cnt (fun i=>zAA (p.s i)\/Has p.hn p.h i) p.n=cnt (fun i=>zAA (p.s i)) p.n+cnt (fun i=>Has p.hn p.h i) p.n:=zST (fun i hi hf=>by
  rintro⟨j,hj,e⟩;have:=(hR.2.2 j hj).2.2.1;rw[e]at this;simp only[Int.toNat_natCast]at this;exact this hf)
 rw[zWy hR,<-zQf]at h2;have h3:cnt (fun i=>¬(zAA (p.s i)\/Has p.hn p.h i)) p.n=cnt (fun i=>¬zAA (p.s i)/\¬Has p.hn p.h i) p.n:=zE0 (fun i _=>not_or);omega
def zO5(W:zB):Prop:=∀i,i<W.pool.n->((∃m,m<memN W/\∃b,((i:Int),b)∈treeM W (zK W m))↔(¬zAA (W.pool.s i)/\¬Has W.pool.hn W.pool.h i))
def zIL(W:zB):Prop:=∀i,i<memN W->∀j,j<i->∀x,x∈zH6 W (zK W i)->∀y,y∈zH6 W (zK W j)->x.1≠y.1
noncomputable def zu(W:zB):Nat->List (Int×Int)
 | 0=>[]
 | k+1=>zu W k ++ zBS W (zK W k)
def zI1(W:zB):Prop:=(zu W (memN W)).Nodup/\(zu W (memN W)).length+roomN W.pool.s W.pool.n+W.pool.hn=W.pool.n
theorem zF8{W:zB}{x:Int×Int}:∀{k:Nat},x∈zu W k↔∃i,i<k/\x∈zBS W (zK W i)
 | 0=>by simp[zu]
 | k+1=>by
  unfold zu;rw[List.mem_append,zF8];constructor
  ·rintro(⟨i,hi,h⟩ | h)
   ·exact⟨i,by omega,h⟩
   ·exact⟨k,by omega,h⟩
  ·rintro⟨i,hi,h⟩;by_cases e:i=k
   ·subst e;exact Or.inr h
   ·exact Or.inl ⟨i,by omega,h⟩
theorem zKm{W:zB}:∀{k:Nat},(∀i,i<k->(zBS W (zK W i)).Nodup)->((zu W k).Nodup↔∀i,i<k->∀j,j<i->∀x,x∈zBS W (zK W i)->x∉zBS W (zK W j))
 | 0,_=>⟨fun _ i hi=>absurd hi (Nat.not_lt_zero _),fun _=>List.nodup_nil⟩
 | k+1,hy=>by
  unfold zu;rw[List.nodup_append,zKm (fun i hi=>hy i (by omega))];constructor
  ·rintro⟨h1,h2,h3⟩ i hi j hj x hx aA;by_cases e:i=k
   ·subst e;exact h3 x (zF8.2 ⟨j,hj,aA⟩) x hx rfl
   ·exact h1 i (by omega) j hj x hx aA
  ·intro h;refine⟨fun i hi=>h i (by omega),hy k (by omega),fun x hx y bA e=>?_⟩;subst e;obtain⟨i,hi,hx⟩:=zF8.1 hx;exact h k (by omega) i hi x bA hx
theorem zQt{W:zB}(h:zFY W){x:Int×Int}:∀(N:Nat) (k:Nat),k<W.pn->(W.zcy k).id<N->0<=(W.zcy k).id->(∀j,j<W.pn->0<=(W.zcy j).id)->x∈treeM W (zK W k)->∃i,i<memN W/\x∈zH6 W (zK W i)
 | 0,k,hk,h1,h2,_,_=>by omega
 | N+1,k,hk,h1,h2,h0,hx=>by
  by_cases ho:x∈oldM W (zK W k)
  ·have aA:∃j,zBD W (zK W k).zc2 j:=by
    refine Classical.byContradiction fun bA=>?_
    have:zI W (zK W k).zc2=zA9:=(by unfold zI;rw[dif_neg bA]);unfold oldM at ho;rw[this,zN,if_pos ⟨rfl,rfl⟩]at ho;simp at ho
   obtain⟨j,hj⟩:=aA;unfold oldM at ho;rw[zBO hj]at ho;have e1:(zK W k).zc2=(W.zcy k).zc2:=(by rw[yR hk];rfl);have:=h.ids k hk;have:=hj.2.1;exact zQt h N j hj.1 (by omega) (h0 j hj.1) h0 (by rw[yR hj.1];exact ho)
  ·exact⟨k,by unfold memN;omega,List.mem_filter.2 ⟨hx,by simpa using ho⟩⟩
theorem zXD{W:zB}(h:zFY W)(h0:∀j,j<W.pn->0<=(W.zcy j).id){x:Int×Int}{m:Nat}(hm:m<memN W)(hx:x∈treeM W (zK W m)):∃i,i<memN W/\x∈zH6 W (zK W i):=by
 by_cases ho:x∈oldM W (zK W m)
 ·have aA:∃j,zBD W (zK W m).zc2 j:=by
   refine Classical.byContradiction fun bA=>?_
   have:zI W (zK W m).zc2=zA9:=(by unfold zI;rw[dif_neg bA]);unfold oldM at ho;rw[this,zN,if_pos ⟨rfl,rfl⟩]at ho;simp at ho
  obtain⟨j,hj⟩:=aA;unfold oldM at ho;rw[zBO hj]at ho;have:=h0 j hj.1;exact zQt h ((W.zcy j).id.toNat+1) j hj.1 (by omega) (h0 j hj.1) h0 (by rw[yR hj.1];exact ho)
 ·exact⟨m,hm,List.mem_filter.2 ⟨hx,by simpa using ho⟩⟩
theorem zOJ{W:zB}(h:zFY W)(h0:∀j,j<W.pn->0<=(W.zcy j).id)(hM:∀i,i<memN W->zNw W (zK W i)):zI1 W↔zO5 W/\zIL W:=by
 have hy:∀i,i<memN W->zBS W (zK W i)=zH6 W (zK W i):=fun i hi=>zWZ (hM i hi)
 have oA:∀i,i<memN W->(zBS W (zK W i)).Nodup:=fun i hi=>(zC5 h.right (h.tree i hi)).filter _
 have kA:∀i,i<memN W->∀x,x∈zH6 W (zK W i)->x∈treeM W (zK W i):=fun i _ x hx=>(List.mem_filter.1 hx).1
 have fA:∀i,i<memN W->∀x,x∈treeM W (zK W i)->yT W.pool x.1 x.2/\¬Has W.pool.hn W.pool.h x.1:=fun i hi x hx=>⟨(zCD h.right (h.tree i hi) hx).1,(zCD h.right (h.tree i hi) hx).2.2⟩
 have eA:∀x y:Int×Int,yT W.pool x.1 x.2->yT W.pool y.1 y.2->x.1=y.1->x=y:=fun x y hx dA e=>by
  have a1:=hx.2.2.2;have a2:=dA.2.2.2;rw[e]at a1;exact Prod.ext e (a1.symm.trans a2)
 have hA:(zu W (memN W)).Nodup↔zIL W:=by
  rw[zKm oA];unfold zIL;constructor
  ·intro hh i hi j hj x hx y dA e;have sA:=eA x y (fA i hi x (kA i hi x hx)).1 (fA j (by omega) y (kA j (by omega) y dA)).1 e;subst sA;exact hh i hi j hj x (by rw[hy i hi];exact hx) (by rw[hy j (by omega)];exact dA)
  ·intro hh i hi j hj x hx rA;exact hh i hi j hj x (by rw[<-hy i hi];exact hx) x (by rw[<-hy j (by omega)];exact rA) rfl
 have aA:∀x,x∈zu W (memN W)↔∃m,m<memN W/\x∈treeM W (zK W m):=fun x=>by
  rw[zF8];constructor
  ·rintro⟨i,hi,hx⟩;rw[hy i hi]at hx;exact⟨i,hi,kA i hi x hx⟩
  ·rintro⟨m,hm,hx⟩;obtain⟨i,hi,hx⟩:=zXD h h0 hm hx;exact⟨i,hi,by rw[hy i hi];exact hx⟩
 unfold zI1;rw[hA];constructor
 ·rintro⟨ha,nA⟩;refine⟨?_,ha⟩;have bA:=hA.2 ha;have hpL:∀x,x∈zu W (memN W)->yT W.pool x.1 x.2:=fun x hx=>by
   obtain⟨m,hm,hx⟩:=(aA x).1 hx;exact(fA m hm x hx).1
  have hl:∀x,x∈(zu W (memN W)).map (fun x=>x.1.toNat)->x<W.pool.n:=by
   intro x hx;obtain⟨y,dA,rfl⟩:=List.mem_map.1 hx;have:=hpL y dA;have h1:=this.2.1;have h2:=this.2.2.1;omega
  have mA:((zu W (memN W)).map (fun x=>x.1.toNat)).Nodup:=by
   unfold List.Nodup;rw[List.pairwise_map];refine List.Pairwise.imp_of_mem ?_ bA;intro a b gA iA lA e;have p1:=hpL a gA;have p2:=hpL b iA;have:=p1.2.1;have:=p2.2.1;exact lA (eA a b p1 p2 (by omega))
  have hc:=zJC mA hl;rw[List.length_map]at hc;have hr:=zQe h.right;have cA:∀i,i<W.pool.n->(i∈(zu W (memN W)).map (fun x=>x.1.toNat)↔∃m,m<memN W/\∃b,((i:Int),b)∈treeM W (zK W m)):=by
   intro i hi;rw[List.mem_map];constructor
   ·rintro⟨x,hx,e⟩;have:=(hpL x hx).2.1;obtain⟨m,hm,hx⟩:=(aA x).1 hx;exact⟨m,hm,x.2,by rw[show(i:Int)=x.1 by omega];exact hx⟩
   ·rintro⟨m,hm,b,hx⟩;exact⟨(i,b),(aA _).2 ⟨m,hm,hx⟩,by simp⟩
  have jA:∀i,i<W.pool.n->i∈(zu W (memN W)).map (fun x=>x.1.toNat)->¬zAA (W.pool.s i)/\¬Has W.pool.hn W.pool.h i:=by
   intro i hi hx;obtain⟨m,hm,b,hx⟩:=(cA i hi).1 hx;have:=fA m hm _ hx;refine⟨fun hf=>?_,this.2⟩;have h1:=this.1.1;have h2:=this.1.2.2.2;simp only[Int.toNat_natCast]at h2;rw[hf.1]at h2;simp only at h1 h2;omega
  have:=(zLs jA).1 (by rw[hc];omega);intro i hi;rw[<-cA i hi];exact this i hi
 ·rintro⟨pA,ha⟩;refine⟨ha,?_⟩;have bA:=hA.2 ha;have hpL:∀x,x∈zu W (memN W)->yT W.pool x.1 x.2:=fun x hx=>by
   obtain⟨m,hm,hx⟩:=(aA x).1 hx;exact(fA m hm x hx).1
  have hl:∀x,x∈(zu W (memN W)).map (fun x=>x.1.toNat)->x<W.pool.n:=by
   intro x hx;obtain⟨y,dA,rfl⟩:=List.mem_map.1 hx;have:=hpL y dA;have h1:=this.2.1;have h2:=this.2.2.1;omega
  have mA:((zu W (memN W)).map (fun x=>x.1.toNat)).Nodup:=by
   unfold List.Nodup;rw[List.pairwise_map];refine List.Pairwise.imp_of_mem ?_ bA;intro a b gA iA lA e;have p1:=hpL a gA;have p2:=hpL b iA;have:=p1.2.1;have:=p2.2.1;exact lA (eA a b p1 p2 (by omega))
  have hc:=zJC mA hl;rw[List.length_map]at hc;have hr:=zQe h.right;have cA:∀i,i<W.pool.n->(i∈(zu W (memN W)).map (fun x=>x.1.toNat)↔∃m,m<memN W/\∃b,((i:Int),b)∈treeM W (zK W m)):=by
   intro i hi;rw[List.mem_map];constructor
   ·rintro⟨x,hx,e⟩;have:=(hpL x hx).2.1;obtain⟨m,hm,hx⟩:=(aA x).1 hx;exact⟨m,hm,x.2,by rw[show(i:Int)=x.1 by omega];exact hx⟩
   ·rintro⟨m,hm,b,hx⟩;exact⟨(i,b),(aA _).2 ⟨m,hm,hx⟩,by simp⟩
  have:=zE0 (P:=fun i=>i∈(zu W (memN W)).map (fun x=>x.1.toNat)) (Q:=fun i=>¬zAA (W.pool.s i)/\¬Has W.pool.hn W.pool.h i) (n:=W.pool.n) (fun i hi=>(cA i hi).trans (pA i hi));omega
theorem zCI.atW{w:World}{base:Nat}{v:Value}{l:List (Int×Int)}(h:zCI w base v l)(hm:l.length<=1000):qo w 0 w.heap.size v l.length (qP l) (qb l):=by
 obtain⟨b,h1,h2⟩:=h.own (by unfold maxLen;omega);exact h1.at (fun h0=>⟨Nat.zero_le _,(h2 h0).2.2⟩)
def zaV(now old:List (Int×Int))(t tm:Int)(n:Nat):Prop:=∀i,i<n->qb now i<=tm/\((qP now i,qb now i)∈old↔qb now i<=t)
theorem zTj(aA bA:List (Int×Int))(t tm:Int):zaV aA bA t tm aA.length↔zKQ aA bA t tm:=by
 constructor
 ·intro h x hx;obtain⟨j,hj,e⟩:=List.getElem_of_mem hx;have:=h j hj;unfold qP qb at this;rw[zBT hj,e]at this;exact this
 ·intro h i hi;have:=h _ (List.getElem_mem hi);unfold qP qb;rw[zBT hi];exact this
def zO1(W:zB):Prop:=∀k,k<W.pn->1<=(W.zcy k).id
def zGS(i:Nat)(c:Int):Prop:=(97<=c/\c<=122)\/(i≠0/\((48<=c/\c<=57)\/c=95))
def zDb(s:ByteArray):Prop:=1<=s.size/\s.size<=20/\∀j,(h:j<s.size)->zGS j (s[j].toNat:Int)
theorem zcf{s:ByteArray}{k:Nat}(cA:k<s.size)(aA:∀j,(h:j<k)->(h':j<s.size)->zGS j (s[j].toNat:Int))(bA:zGS k (s[k].toNat:Int)) :
  ∃m:Nat,m<=s.size/\Value.int .i64 ((k:Int)+1) = .int .i64 (m:Int)/\∀j,(h:j<m)->(h':j<s.size)->zGS j (s[j].toNat:Int):=by
 refine⟨k+1,by omega,by simp,fun j h h'=>?_⟩;by_cases e:j=k
 ·subst e;exact bA
 ·exact aA j (by omega) h'
theorem zce{s:ByteArray}(bA:0<s.size)(aA:zGS 0 (s[0].toNat:Int)) :
  ∃m:Nat,m<=s.size/\Value.int .i64 1 = .int .i64 (m:Int)/\∀j,(h:j<m)->(h':j<s.size)->zGS j (s[j].toNat:Int):=by
 refine⟨1,by omega,by simp,fun j h h'=>?_⟩;obtain rfl:j=0:=by omega
 exact aA
theorem zJQ(s:ByteArray)(w:World)(hs:s.size<=maxLen) :
  Calls Tryz.prog 137 #[.string s] w fun e w'=>zL (zDb s) e/\w'=w:=by
 unfold maxLen at hs;by_cases h1:s.size<1
 ·have eA:(s.size:Int)<1:=(by omega);go_enter Tryz.func137,Tryz.ntmps137;go_wp2;go_ret;exact⟨⟨false,rfl,by simp[zDb];omega⟩,rfl⟩
 by_cases h2:20<s.size
 ·have gA:(20:Int)<(s.size:Int):=(by omega);have eA:¬(s.size:Int)<1:=(by omega);go_enter Tryz.func137,Tryz.ntmps137;go_wp2;go_ret;exact⟨⟨false,rfl,by simp[zDb];omega⟩,rfl⟩
 have eA:¬(s.size:Int)<1:=by omega
 have gA:¬(20:Int)<(s.size:Int):=by omega
 have h0:0<s.size:=by omega
 by_cases cA:97<=(s[0].toNat:Int)/\(s[0].toNat:Int)<=122
 ·obtain⟨fA,iA⟩:=cA;go_enter Tryz.func137,Tryz.ntmps137;go_wp2
  go_loop [20] (fun i=>∃k:Nat,k<=s.size/\i = .int .i64 k/\∀j,(h:j<k)->(h':j<s.size)->zGS j (s[j].toNat:Int)) (fun i=>s.size - (intOf i).toNat)
  case atStart=>exact⟨0,Nat.zero_le _,rfl,fun j h=>absurd h (Nat.not_lt_zero _)⟩
  case round=>
   obtain⟨k,hk,rfl,bA⟩:=hrel;have aA:Hid (∀j,(h:j<k)->(h':j<s.size)->zGS j (s[j].toNat:Int)):=bA;clear bA;by_cases dA:k<s.size
   ·by_cases jA:k=0
    all_goals try subst jA
    all_goals go_wp2
    all_goals try (go_ret;refine⟨⟨false,rfl,?_⟩,rfl⟩;simp only[Bool.false_eq_true,false_iff];intro h;have h3:=h.2.2 _ dA;unfold zGS at h3;first | omega | grind)
    all_goals
     go_round
     case measure=>simp[intOf];omega
     case rel=>first | exact zce dA (by unfold zGS;first | omega | grind) | exact zcf dA aA.out (by unfold zGS;first | omega | grind)
   ·go_wp2;go_ret;refine⟨⟨true,rfl,?_⟩,rfl⟩;simp only[true_iff];exact⟨by omega,by omega,fun j h=>aA.out j (by omega) h⟩
 ·by_cases fA:97<=(s[0].toNat:Int)
  ·have iA:¬(s[0].toNat:Int)<=122:=fun h=>cA ⟨fA,h⟩
   clear cA;go_enter Tryz.func137,Tryz.ntmps137;go_wp2;go_ret;refine⟨⟨false,rfl,?_⟩,rfl⟩;simp only[Bool.false_eq_true,false_iff];intro h;have h3:=h.2.2 _ h0;unfold zGS at h3;omega
  ·clear cA;go_enter Tryz.func137,Tryz.ntmps137;go_wp2;go_ret;refine⟨⟨false,rfl,?_⟩,rfl⟩;simp only[Bool.false_eq_true,false_iff];intro h;have h3:=h.2.2 _ h0;unfold zGS at h3;omega
def zCN(a b:ByteArray):Prop:=Op.bytesLess a.toList b.toList=true
theorem zQW:∀x y:List UInt8,Op.bytesLess x y=true\/x=y\/Op.bytesLess y x=true
 | [],[]=>Or.inr (Or.inl rfl)
 | [],b :: y=>Or.inl (by simp[Op.bytesLess])
 | a :: x,[]=>Or.inr (Or.inr (by simp[Op.bytesLess]))
 | a :: x,b :: y=>by
  simp only[Op.bytesLess,Bool.or_eq_true,decide_eq_true_eq,Bool.and_eq_true,beq_iff_eq,List.cons.injEq];by_cases h:a=b
  ·subst h;rcases zQW x y with h | h | h
   ·exact Or.inl (Or.inr ⟨rfl,h⟩)
   ·exact Or.inr (Or.inl ⟨rfl,h⟩)
   ·exact Or.inr (Or.inr (Or.inr ⟨rfl,h⟩))
  ·have:a<b\/b<a:=by
    have aA:a.toNat≠b.toNat:=fun e=>h (UInt8.toNat_inj.1 e)
    rw[UInt8.lt_iff_toNat_lt,UInt8.lt_iff_toNat_lt];omega
   rcases this with h | h
   ·exact Or.inl (Or.inl h)
   ·exact Or.inr (Or.inr (Or.inl h))
theorem zJx:∀x:List UInt8,Op.bytesLess x x=false
 | []=>rfl
 | a :: x=>by simp[Op.bytesLess,zJx x]
theorem zQV:∀x y:List UInt8,Op.bytesLess x y=true->Op.bytesLess y x=false
 | [],[],h=>by simp[Op.bytesLess]at h
 | [],b :: y,_=>by simp[Op.bytesLess]
 | a :: x,[],h=>by simp[Op.bytesLess]at h
 | a :: x,b :: y,h=>by
  simp only[Op.bytesLess,Bool.or_eq_true,decide_eq_true_eq,Bool.and_eq_true,beq_iff_eq]at h;rw[<-Bool.not_eq_true];simp only[Op.bytesLess,Bool.or_eq_true,decide_eq_true_eq,Bool.and_eq_true,beq_iff_eq,UInt8.lt_iff_toNat_lt]at h ⊢;rintro(h' | ⟨h',h2⟩)
  ·rcases h with h | ⟨h,_⟩
   ·omega
   ·subst h;omega
  ·subst h';rcases h with h | ⟨_,h⟩
   ·omega
   ·rw[zQV x y h]at h2;exact absurd h2 (by simp)
theorem zCe{a b:ByteArray}(h:a.toList=b.toList):a=b:=by
 rw[Go.ByteArray.toList_eq,Go.ByteArray.toList_eq]at h;cases a;cases b;simp only[ByteArray.mk.injEq]at *;exact Array.toList_inj.1 h
theorem zT8(a b:ByteArray):(Op.bytesLess a.toList b.toList || a.toList == b.toList)=false↔zCN b a:=by
 unfold zCN;rw[Bool.or_eq_false_iff,beq_eq_false_iff_ne];constructor
 ·rintro⟨h1,h2⟩;rcases zQW a.toList b.toList with h | h | h
  ·rw[h1]at h;exact absurd h (by simp)
  ·exact absurd h h2
  ·exact h
 ·intro h;refine⟨zQV _ _ h,fun e=>?_⟩;rw[e,zJx]at h;exact absurd h (by simp)
theorem zYd{a b:ByteArray}(h:zCN a b):a≠b:=fun e=>by
 subst e;unfold zCN at h;rw[zJx]at h;exact absurd h (by simp)
theorem zQX:∀x y z:List UInt8,Op.bytesLess x y=true->Op.bytesLess y z=true->Op.bytesLess x z=true
 | _,[],_,h,_=>by cases ‹List UInt8›<;>simp[Op.bytesLess]at h
 | [],_ :: _,[],_,h=>by simp[Op.bytesLess]at h
 | [],_ :: _,_ :: _,_,_=>by simp[Op.bytesLess]
 | _ :: _,_ :: _,[],_,h=>by simp[Op.bytesLess]at h
 | a :: x,b :: y,c :: z,h,h'=>by
  simp only[Op.bytesLess,Bool.or_eq_true,decide_eq_true_eq,Bool.and_eq_true,beq_iff_eq,UInt8.lt_iff_toNat_lt]at h h' ⊢;rcases h with h | ⟨h,h1⟩
  ·rcases h' with h' | ⟨h',h2⟩
   ·left;omega
   ·subst h';left;exact h
  ·subst h;rcases h' with h' | ⟨h',h2⟩
   ·left;exact h'
   ·subst h';right;exact⟨rfl,zQX x y z h1 h2⟩
theorem zRj{a b c:ByteArray}(h:zCN a b)(h':zCN b c):zCN a c:=zQX _ _ _ h h'
def zB2(W:zB)(x:Int):Prop:=∃k,k<W.pn/\(W.zcy k).id=x
def zBW(W:zB)(x:ByteArray):Prop:=∃k,k<W.sn/\(W.zc1 k).name=x
def zKU(W:zB)(i:Nat):Prop:=zDb (W.zc1 i).name/\(0<i->zCN (W.zc1 (i - 1)).name (W.zc1 i).name)/\((W.zc1 i).zc2≠0->zB2 W (W.zc1 i).zc2)/\((W.zc1 i).origin≠0->zB2 W (W.zc1 i).origin)
def zab(W:zB)(i:Nat):Prop:=1<=(W.zcy i).id/\(W.zcy i).id<W.next/\1<=(W.zcy i).time/\(W.zcy i).time<W.time/\zDb (W.zcy i).name/\zBW W (W.zcy i).set
def zWn(W:zB)(i:Nat):Prop:=(0<i->(W.zcy (i - 1)).id<(W.zcy i).id/\(W.zcy (i - 1)).time<(W.zcy i).time)/\((W.zcy i).zc2≠0->(W.zcy i).zc2<(W.zcy i).id/\zB2 W (W.zcy i).zc2)
def zWo(W:zB)(i j:Nat):Prop:=∀k,k<j->¬((W.zcy k).set=(W.zcy i).set/\(W.zcy k).name=(W.zcy i).name)
def zO8(W:zB)(i:Nat):Prop:=zab W i/\zWn W i/\zWo W i i
def zBt(W:zB):Prop:=zHd W.time 1 900000/\zHd W.next 1 900000/\W.sn<=8/\W.pn<=20/\(∀i,i<W.sn->zKU W i)/\∀i,i<W.pn->zO8 W i
theorem zL2{W:zB}{x r:Int}(h:zOz W.pn (fun k=>(W.zcy k).id=x) r):(zB2 W x/\0<=r/\r<W.pn/\(W.zcy r.toNat).id=x)\/(¬zB2 W x/\r = -1):=by
 rcases h with⟨k,hk,e,_,rfl⟩ | ⟨hn,rfl⟩
 ·exact Or.inl ⟨⟨k,hk,e⟩,by omega,by omega,by simpa using e⟩
 ·exact Or.inr ⟨fun ⟨k,hk,e⟩=>hn k hk e,rfl⟩
theorem zVT{W:zB}{x:ByteArray}{r:Int}(h:zOz W.sn (fun k=>(W.zc1 k).name=x) r):(zBW W x/\0<=r)\/(¬zBW W x/\r = -1):=by
 rcases h with⟨k,hk,e,_,rfl⟩ | ⟨hn,rfl⟩
 ·exact Or.inl ⟨⟨k,hk,e⟩,by omega⟩
 ·exact Or.inr ⟨fun ⟨k,hk,e⟩=>hn k hk e,rfl⟩
def zGO(w:World)(b:Nat)(v0 v1 v2 v3 v4 v5 v6 v7:Value):Prop:=(zo w b 0 v0/\zo w b 1 v1/\zo w b 2 v2/\zo w b 3 v3)/\(zo w b 4 v4/\zo w b 5 v5/\zo w b 6 v6/\zo w b 7 v7)
theorem zGO.zcw{w w':World}{b:Nat}{v0 v1 v2 v3 v4 v5 v6 v7:Value}(h:zGO w b v0 v1 v2 v3 v4 v5 v6 v7)(t:Below w.heap.size w w'):zGO w' b v0 v1 v2 v3 v4 v5 v6 v7:=
 ⟨⟨h.1.1.zcw t,h.1.2.1.zcw t,h.1.2.2.1.zcw t,h.1.2.2.2.zcw t⟩,h.2.1.zcw t,h.2.2.1.zcw t,h.2.2.2.1.zcw t,h.2.2.2.2.zcw t⟩
theorem zGO.new(w:World)(v0 v1 v2 v3 v4 v5 v6 v7:Value)(t:TypeId):zGO (w.alloc (.cells #[v0,v1,v2,v3,v4,v5,v6,v7] t)) w.heap.size v0 v1 v2 v3 v4 v5 v6 v7:=by
 have hb:(w.alloc (.cells #[v0,v1,v2,v3,v4,v5,v6,v7] t)).heap[w.heap.size]?=some (.cells #[v0,v1,v2,v3,v4,v5,v6,v7] t):=heap_alloc_new _ _;exact⟨⟨zG hb rfl,zG hb rfl,zG hb rfl,zG hb rfl⟩,zG hb rfl,zG hb rfl,zG hb rfl,zG hb rfl⟩
end Go.Proofs.YtbplmbafodlboaaGreatDoor
