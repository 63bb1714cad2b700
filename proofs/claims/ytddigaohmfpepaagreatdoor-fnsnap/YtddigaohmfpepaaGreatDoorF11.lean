/- A part of the proof. -/
import Derived.Deep.LoopGhost
import Derived.Test.YtddigaohmfpepaaGreatDoorF10
import Derived.RegionTactic
import Derived.ChangeAlike
import Derived.BigRegion
import Derived.Maps.OwnSet
import Derived.ProofKit
set_option linter.unusedVariables false
set_option maxRecDepth 20000
set_option maxHeartbeats 4000000
namespace Go.Proofs.YtddigaohmfpepaaGreatDoor
noncomputable section
open Go.RowKit
open Classical in
def Dx(p:A7)(m:Nat):A7:={n:=p.n,s:=fun i=>if Has m p.h (i:Int)then EW else p.s i,hn:=p.hn,h:=p.h}
def Gn(p:A7):A7:={n:=p.n,s:=(Dx p p.hn).s,hn:=0,h:=p.h}
open Classical in
def IN(p:A7):A7:=if AZ p/\AZ (Gn p)then Gn p else p
variable{p:A7}{m i:Nat}
theorem Qp(h:Has m p.h (i:Int)):(Dx p m).s i=EW:=if_pos h
theorem R0(h:¬Has m p.h (i:Int)):(Dx p m).s i=p.s i:=if_neg h
theorem zAi(p:A7):Dx p 0=p:=by
 have e:(Dx p 0).s=p.s:=funext fun i=>R0 (fun ⟨j,hj,_⟩=>absurd hj (Nat.not_lt_zero _))
 show A7.mk p.n (Dx p 0).s p.hn p.h=p;rw[e]
variable{k:Nat}
theorem zAh(c:p.h k=(m:Int)):Dx p (k+1)=Au (Dx p k) m EW:=by
 have e:(Dx p (k+1)).s=(Au (Dx p k) m EW).s:=funext fun i=>by
  show _=if i=m then EW else(Dx p k).s i
  by_cases b:i=m
  ·rw[if_pos b,Qp ⟨k,by omega,by rw[c,b]⟩]
  ·rw[if_neg b];by_cases a:Has k p.h (i:Int)
   ·rw[Qp a,Qp (by obtain⟨j,f,e⟩:=a;exact⟨j,by omega,e⟩)]
   ·rw[R0 a,R0 (fun ⟨j,f,e⟩=>a ⟨j,by
     by_cases d:j=k
     ·subst d;rw[c]at e;omega
     ·omega,e⟩)]
 show A7.mk p.n (Dx p (k+1)).s p.hn p.h=A7.mk p.n (Au (Dx p k) m EW).s p.hn p.h;rw[e]
theorem UB(h:AZ p)(a:AZ (Gn p)):IN p=Gn p:=if_pos ⟨h,a⟩
theorem PM(h:¬(AZ p/\AZ (Gn p))):IN p=p:=if_neg h
structure Ab where
 name:ByteArray
 origin:Int
 A8:Int
 rs:Int
 rb:Int
 dn:Nat
 ds:Nat->Int
 db:Nat->Int
structure Aa where
 id:Int
 name:ByteArray
 set:ByteArray
 A8:Int
 time:Int
 rs:Int
 rb:Int
 dn:Nat
 ds:Nat->Int
 db:Nat->Int
structure A6 where
 pool:A7
 time:Int
 next:Int
 sn:Nat
 A2:Nat->Ab
 pn:Nat
 A3:Nat->Aa
structure I1 (w:World) (b o lo hi:Nat) (vd:Value) (s:Ab):Prop where
 c0:w.cell? ⟨b,o,none⟩=some (.string s.name)
 c1:w.cell? ⟨b,o+1,none⟩=some (A0 s.origin)
 c2:w.cell? ⟨b,o+2,none⟩=some (A0 s.A8)
 c3:w.cell? ⟨b,o+3,none⟩=some (A0 s.rs)
 c4:w.cell? ⟨b,o+4,none⟩=some (A0 s.rb)
 c5:w.cell? ⟨b,o+5,none⟩=some vd
 dead:BG w lo hi vd s.dn s.ds s.db
 CG:s.name.size<=maxLen
variable{w w':World}{lo hi:Nat}
theorem I1.A1{b o:Nat}{vd:Value}{s:Ab}(h:I1 w b o lo hi vd s)(t:Below w.heap.size w w'):I1 w' b o lo hi vd s:=
 ⟨(t.cell (AV h.c0)).trans h.c0,(t.cell (AV h.c1)).trans h.c1,(t.cell (AV h.c2)).trans h.c2,(t.cell (AV h.c3)).trans h.c3,(t.cell (AV h.c4)).trans h.c4,(t.cell (AV h.c5)).trans h.c5,h.dead.A1 t,h.CG⟩
structure I6 (w:World) (b o lo hi:Nat) (vd:Value) (s:Aa):Prop where
 c0:w.cell? ⟨b,o,none⟩=some (A0 s.id)
 c1:w.cell? ⟨b,o+1,none⟩=some (.string s.name)
 c2:w.cell? ⟨b,o+2,none⟩=some (.string s.set)
 c3:w.cell? ⟨b,o+3,none⟩=some (A0 s.A8)
 c4:w.cell? ⟨b,o+4,none⟩=some (A0 s.time)
 c5:w.cell? ⟨b,o+5,none⟩=some (A0 s.rs)
 c6:w.cell? ⟨b,o+6,none⟩=some (A0 s.rb)
 c7:w.cell? ⟨b,o+7,none⟩=some vd
 dead:BG w lo hi vd s.dn s.ds s.db
 CG:s.name.size<=maxLen/\s.set.size<=maxLen
theorem I6.A1{b o:Nat}{vd:Value}{s:Aa}(h:I6 w b o lo hi vd s)(t:Below w.heap.size w w'):I6 w' b o lo hi vd s:=
 ⟨(t.cell (AV h.c0)).trans h.c0,(t.cell (AV h.c1)).trans h.c1,(t.cell (AV h.c2)).trans h.c2,(t.cell (AV h.c3)).trans h.c3,(t.cell (AV h.c4)).trans h.c4,(t.cell (AV h.c5)).trans h.c5,(t.cell (AV h.c6)).trans h.c6,(t.cell (AV h.c7)).trans h.c7,h.dead.A1 t,h.CG⟩
def EJ(w:World)(lo hi:Nat)(v:Value)(n:Nat)(f:Nat->Ab):Prop:=
 n<=maxLen/\∃a cap,v = .slice a n cap/\n<=cap/\(0<n->∃b off,a=some ⟨b,off,none⟩/\lo<=b/\b<hi/\∀i,i<n->∃vd,I1 w b (off+i*6) lo hi vd (f i))
def EE(w:World)(lo hi:Nat)(v:Value)(n:Nat)(f:Nat->Aa):Prop:=
 n<=maxLen/\∃a cap,v = .slice a n cap/\n<=cap/\(0<n->∃b off,a=some ⟨b,off,none⟩/\lo<=b/\b<hi/\∀i,i<n->∃vd,I6 w b (off+i*8) lo hi vd (f i))
variable{v:Value}{n:Nat}
theorem EJ.A1{f:Nat->Ab}(h:EJ w lo hi v n f)(t:Below w.heap.size w w'):EJ w' lo hi v n f:=by
 obtain⟨d,a,cap,hv,c,l⟩:=h;refine⟨d,a,cap,hv,c,fun hn=>?_⟩;obtain⟨b,off,k,e,g,j⟩:=l hn;refine⟨b,off,k,e,g,fun i hi=>?_⟩;obtain⟨vd,hs⟩:=j i hi;exact⟨vd,hs.A1 t⟩
theorem EE.A1{f:Nat->Aa}(h:EE w lo hi v n f)(t:Below w.heap.size w w'):EE w' lo hi v n f:=by
 obtain⟨d,a,cap,hv,c,l⟩:=h;refine⟨d,a,cap,hv,c,fun hn=>?_⟩;obtain⟨b,off,k,e,g,j⟩:=l hn;refine⟨b,off,k,e,g,fun i hi=>?_⟩;obtain⟨vd,hs⟩:=j i hi;exact⟨vd,hs.A1 t⟩
variable{a:Option Addr}
theorem EJ.cells{c:Nat}{f:Nat->Ab}(h:EJ w lo hi (.slice a n c) n f)(hi':i<n):∃b off vd,a=some ⟨b,off,none⟩/\I1 w b (off+i*6) lo hi vd (f i):=by
 obtain⟨l,k,cap,hv,g,j⟩:=h;simp only[Value.slice.injEq,true_and]at hv;obtain⟨rfl,rfl⟩:=hv;obtain⟨b,off,e,m,o,d⟩:=j (by omega);obtain⟨vd,hs⟩:=d i hi';exact⟨b,off,vd,e,hs⟩
theorem EE.cells{c:Nat}{f:Nat->Aa}(h:EE w lo hi (.slice a n c) n f)(hi':i<n):∃b off vd,a=some ⟨b,off,none⟩/\I6 w b (off+i*8) lo hi vd (f i):=by
 obtain⟨l,k,cap,hv,g,j⟩:=h;simp only[Value.slice.injEq,true_and]at hv;obtain⟨rfl,rfl⟩:=hv;obtain⟨b,off,e,m,o,d⟩:=j (by omega);obtain⟨vd,hs⟩:=d i hi';exact⟨b,off,vd,e,hs⟩
structure C7 (w:World) (lo hi:Nat) (v0 v1 v2 v3:Value) (W:A6):Prop where
 pool:CD w lo hi v0 v1 W.pool
 A2:EJ w lo hi v2 W.sn W.A2
 A3:EE w lo hi v3 W.pn W.A3
variable{v0 v1 v2 v3:Value}{W:A6}
theorem C7.A1(h:C7 w lo hi v0 v1 v2 v3 W)(t:Below w.heap.size w w'):C7 w' lo hi v0 v1 v2 v3 W:=⟨h.pool.A1 t,h.A2.A1 t,h.A3.A1 t⟩
abbrev Cc(v0 v1 v2 v3:Value)(W:A6):Value:=.agg #[v0,v1,A0 W.time,A0 W.next,v2,v3]
def BW(W:A6)(id:Int)(k:Nat):Prop:=k<W.pn/\(W.A3 k).id=id/\∀j,j<k->(W.A3 j).id≠id
def Gs(W:A6)(name:ByteArray)(k:Nat):Prop:=k<W.sn/\(W.A2 k).name=name/\∀j,j<k->(W.A2 j).name≠name
variable{j:Nat}
theorem BW.uniq{id:Int}(h:BW W id i)(a:BW W id j):i=j:=by
 rcases Nat.lt_trichotomy i j with e | e | e
 ·exact absurd h.2.1 (a.2.2 i e)
 ·exact e
 ·exact absurd a.2.1 (h.2.2 j e)
theorem A4{P:Prop}(h:P):Hid P:=h
def Py(n:Nat)(P:Nat->Prop)(r:Int):Prop:=(∃k:Nat,k<n/\P k/\(∀j,j<k->¬P j)/\r=k)\/((∀j,j<n->¬P j)/\r = -1)
open Go.Maps
def FZ(t:Int):Prop:=0<=t/\t<=1000000
def FU(s b:Int):Prop:=0<=s/\s<=199/\1<=b/\b<=1000000
def JD(n:Nat)(f:Nat->Int):Prop:=∀i,i<n->∀k,k<i->f k≠f i
def Cf(n:Nat)(f g:Nat->Int):Prop:=n<=200/\(∀i,i<n->FU (f i) (g i))/\JD n f
def PIn(n:Nat)(f g:Nat->Int)(x y:Int):Prop:=∃j,j<n/\f j=x/\g j=y
def F6(n:Nat)(f g:Nat->Int)(m:Nat)(f' g':Nat->Int):Prop:=Cf n f g/\Cf m f' g'/\n=m/\∀i,i<n->PIn m f' g' (f i) (g i)
variable{f:Nat->Int}
theorem JD.inj(h:JD n f)(hi:i<n)(b:k<n)(e:f i=f k):i=k:=by
 rcases Nat.lt_trichotomy i k with a | a | a
 ·exact absurd e (h k b i a)
 ·exact a
 ·exact absurd e.symm (h i hi k a)
theorem TN:∀(n m:Nat) (h:Nat->Nat),(∀i,i<n->h i<m)->(∀i k,i<n->k<n->h i=h k->i=k)->n<=m
 | 0,_,_,_,_=>Nat.zero_le _
 | n+1,m,h,h1,h2=>by
  have f:=h1 n (Nat.lt_succ_self n);have:=TN n (m - 1) (fun i=>if h i<h n then h i else h i - 1) (fun i hi=>by
   have:=h1 i (by omega);have:h i≠h n:=fun e=>by have:=h2 i n (by omega) (by omega) e;omega
   show(if h i<h n then h i else h i - 1)<m - 1;split<;>omega) (fun i k hi d e=>by
   have b:h i≠h n:=fun e=>by have:=h2 i n (by omega) (by omega) e;omega
   have c:h k≠h n:=fun e=>by have:=h2 k n (by omega) (by omega) e;omega
   have a:(if h i<h n then h i else h i - 1)=(if h k<h n then h k else h k - 1):=e;refine h2 i k (by omega) (by omega) ?_;split at a<;>split at a<;>omega)
  omega
variable{g f' g':Nat->Int}
theorem zE4(o:Cf n f g)(p:Cf n f' g')(h:∀i,i<n->PIn n f' g' (f i) (g i)):∀j,j<n->PIn n f g (f' j) (g' j):=by
 intro j q;by_cases c:PIn n f g (f' j) (g' j)
 ·exact c
 ·exfalso;have:=TN n (n - 1) (fun i=>if hi:i<n then(if (h i hi).choose<j then(h i hi).choose else(h i hi).choose - 1)else 0) (fun i hi=>by
   have hs:=(h i hi).choose_spec;have d:(h i hi).choose≠j:=fun e=>c ⟨i,hi,by rw[<-hs.2.1,e],by rw[<-hs.2.2,e]⟩
   simp only[hi,dif_pos];split<;>omega) (fun i k hi b e=>by
   have hs:=(h i hi).choose_spec;have a:=(h k b).choose_spec;have d:(h i hi).choose≠j:=fun e=>c ⟨i,hi,by rw[<-hs.2.1,e],by rw[<-hs.2.2,e]⟩
   have l:(h k b).choose≠j:=fun e=>c ⟨k,b,by rw[<-a.2.1,e],by rw[<-a.2.2,e]⟩
   simp only[hi,b,dif_pos]at e;have m:(h i hi).choose=(h k b).choose:=(by split at e<;>split at e<;>omega);refine o.2.2.inj hi b ?_;rw[<-hs.2.1,<-a.2.1,m])
  omega
theorem F6.symm(h:F6 n f g m f' g'):F6 m f' g' n f g:=by
 obtain⟨a,b,rfl,c⟩:=h;exact⟨b,a,rfl,zE4 a b c⟩
def Cr(x:Int):Lit:=.int .i64 x
variable{x y:Int}
theorem NG(h:x≠y):Cr x≠Cr y:=fun e=>h (by unfold Cr at e;injection e)
theorem QJ(x:Int):WideAt.IsKeyLit (Cr x):=trivial
def Dt(x:Int):DataW Unit:=.lit (.int .i64 x)
theorem Ny(h:Dt x=Dt y):x=y:=by unfold Dt at h;injection h with h;injection h
def seenD(f g:Nat->Int):Nat->DataW Unit
 | 0=>.map []
 | k+1=>(seenD f g k).put (Cr (f k)) (Dt (g k))
theorem MC(f g:Nat->Int):∀k,Tidy (seenD f g k)
 | 0=>tidy_empty
 | k+1=>(MC f g k).put (QJ _) _
theorem Ls(f g:Nat->Int)(x:Int):∀k,Maps.has (seenD f g k) (Cr x)=true↔∃i,i<k/\f i=x
 | 0=>by
  constructor
  ·intro h;exact absurd h (by simp[seenD,Maps.has])
  ·rintro⟨i,hi,_⟩;omega
 | k+1=>by
  by_cases a:f k=x
  ·subst a;exact⟨fun _=>⟨k,by omega,rfl⟩,fun _=>has_put_same (MC f g k).isMap (QJ _) _⟩
  ·rw[show Maps.has (seenD f g (k+1)) (Cr x)=Maps.has (seenD f g k) (Cr x)from has_put_other (NG (Ne.symm a)) _,Ls f g x k];constructor
   ·rintro⟨i,hi,e⟩;exact⟨i,by omega,e⟩
   ·rintro⟨i,hi,e⟩;by_cases h:i=k
    ·subst h;exact absurd e a
    ·exact⟨i,by omega,e⟩
theorem XL:JD (k+1) f↔JD k f/\∀i,i<k->f i≠f k:=by
 constructor
 ·exact fun h=>⟨fun i hi=>h i (by omega),fun i hi=>h k (by omega) i hi⟩
 ·rintro⟨b,c⟩ i hi j a;by_cases e:i=k
  ·subst e;exact c j a
  ·exact b i (by omega) j a
theorem Qg(f g:Nat->Int):∀k,Maps.size (seenD f g k)<=k/\(Maps.size (seenD f g k)=k↔JD k f)
 | 0=>⟨Nat.le_refl _,fun _ i hi=>by omega,fun _=>rfl⟩
 | k+1=>by
  obtain⟨d,c⟩:=Qg f g k;have e:Maps.size (seenD f g (k+1))=if Maps.has (seenD f g k) (Cr (f k))then Maps.size (seenD f g k)else Maps.size (seenD f g k)+1:=size_put (MC f g k) _
  by_cases a:Maps.has (seenD f g k) (Cr (f k))=true
  ·rw[if_pos a]at e;rw[e,XL];refine⟨by omega,fun h=>by omega,fun h=>?_⟩;obtain⟨i,hi,b⟩:=(Ls f g (f k) k).1 a;exact absurd b (h.2 i hi)
  ·rw[if_neg a]at e;rw[e,XL,<-c];refine⟨by omega,fun h=>⟨by omega,fun i hi b=>a ((Ls f g (f k) k).2 ⟨i,hi,b⟩)⟩,fun h=>by omega⟩
theorem Sa{n:Nat}{f:Nat->Int}(g:Nat->Int)(a:JD n f)(z:DataW Unit):∀k,k<=n->∀i,i<k->(seenD f g k).atKey (Cr (f i)) z=Dt (g i)
 | 0,_,i,hi=>absurd hi (Nat.not_lt_zero _)
 | k+1,hk,i,hi=>by
  by_cases e:i=k
  ·subst e;exact atKey_put_same (MC f g i).isMap (QJ _) _ _
  ·exact(atKey_put_other (NG (fun h=>e (a.inj (by omega) (by omega) h))) _ _).trans (Sa g a z k (by omega) i (by omega))
structure F4 (n:Nat) (f g f':Nat->Int) (k:Nat) (D:DataW Unit):Prop where
 tidy:Tidy D
 size:Maps.size D+k=n
 at':∀x,(∀j,j<k->f' j≠x)->(∀i,i<n->f i=x->D.atKey (Cr x) (Dt 0)=Dt (g i))/\((∀i,i<n->f i≠x)->D.atKey (Cr x) (Dt 0)=Dt 0)
 has:∀x,Maps.has D (Cr x)=true↔(∃i,i<n/\f i=x)/\∀j,j<k->f' j≠x
theorem F4.start(h:Cf n f g)(f':Nat->Int):F4 n f g f' 0 (seenD f g n) where
 tidy:=MC f g n
 size:=by rw[(Qg f g n).2.2 h.2.2];rfl
 at':=fun x _=>⟨fun i hi e=>by subst e;exact Sa g h.2.2 _ n (Nat.le_refl _) i hi,fun a=>by
  refine atKey_of_not_has ?_ _;rw[Bool.eq_false_iff];intro b;obtain⟨i,hi,e⟩:=(Ls f g x n).1 b;exact a i hi e⟩
 has:=fun x=>by
  rw[Ls];exact⟨fun h=>⟨h,fun j c=>absurd c (Nat.not_lt_zero _)⟩,fun h=>h.1⟩
variable{D:DataW Unit}
theorem F4.next(h:F4 n f g f' k D)(o:Cf m f' g')(p:k<m)(e:D.atKey (Cr (f' k)) (Dt 0)=Dt (g' k)):F4 n f g f' (k+1) (D.del (Cr (f' k))):=by
 have b:Maps.has D (Cr (f' k))=true:=by
  by_cases c:Maps.has D (Cr (f' k))=true
  ·exact c
  ·rw[atKey_of_not_has (by simpa using c)]at e;have:=Ny e;have:=(o.2.1 k p).2.2.1;omega
 have hs:=size_del (k:=Cr (f' k)) h.tidy;rw[b]at hs;refine⟨h.tidy.del _,?_,fun x i=>?_,fun x=>?_⟩
 ·have:=h.size;have q:Maps.size (D.del (Cr (f' k)))+1=Maps.size D:=hs;omega
 ·have a:f' k≠x:=i k (by omega);rw[atKey_del_other (NG (Ne.symm a))];exact h.at' x (fun j d=>i j (by omega))
 ·by_cases a:f' k=x
  ·subst a;rw[has_del_same];exact⟨fun h=>absurd h (by simp),fun h=>absurd rfl (h.2 k (by omega))⟩
  ·rw[has_del_other (NG (Ne.symm a)),h.has x];refine and_congr_right fun _=>⟨fun h j d=>?_,fun h j d=>h j (by omega)⟩
   by_cases l:j=k
   ·subst l;exact a
   ·exact h j (by omega)
theorem F4.no(h:F4 n f g f' k D)(q:Cf n f g)(l:Cf m f' g')(a:k<m){c:Int}(e:D.atKey (Cr (f' k)) (Dt 0)=Dt c)(o:c≠g' k):¬F6 n f g m f' g':=by
 intro hs;obtain⟨i,hi,b,d⟩:=hs.symm.2.2.2 k a;have:=(h.at' (f' k) (fun j p=>l.2.2 k a j p)).1 i hi b;rw[e]at this;exact o ((Ny this).trans d)
theorem F4.end(h:F4 n f g f' m D)(b:Cf n f g)(c:Cf m f' g')(a:∀j,j<m->PIn n f g (f' j) (g' j)):Maps.size D=0↔F6 n f g m f' g':=by
 have hs:=h.size;constructor
 ·intro e;obtain rfl:m=n:=(by omega);exact F6.symm ⟨c,b,rfl,a⟩
 ·intro d;have:=d.2.2.1;omega
theorem F4.in(h:F4 n f g f' k D)(a:Cf m f' g')(c:k<m)(e:D.atKey (Cr (f' k)) (Dt 0)=Dt (g' k)):PIn n f g (f' k) (g' k):=by
 by_cases d:∃i,i<n/\f i=f' k
 ·obtain⟨i,hi,ei⟩:=d;have:=(h.at' (f' k) (fun j b=>a.2.2 k c j b)).1 i hi ei;rw[e]at this;exact⟨i,hi,ei,(Ny this).symm⟩
 ·have:=(h.at' (f' k) (fun j b=>a.2.2 k c j b)).2 (fun i hi e=>d ⟨i,hi,e⟩);rw[e]at this;have:=Ny this;have:=(a.2.1 k c).2.2.1;omega
def Bl(f g:Nat->Int)(t:Int):Nat->List (Int×Int)
 | 0=>[]
 | k+1=>if t<g k then Bl f g t k ++ [(f k,g k)] else Bl f g t k
def C6(f g:Nat->Int)(t:Int):Nat->List (Int×Int)
 | 0=>[]
 | k+1=>if t<g k then C6 f g t k else C6 f g t k ++ [(f k,g k)]
theorem Kq(f g:Nat->Int)(t:Int):∀k,(Bl f g t k).length+(C6 f g t k).length=k
 | 0=>rfl
 | k+1=>by
  have:=Kq f g t k;unfold Bl C6;split<;>simp<;>omega
theorem Ac{P:Prop}(h:P):Hid P:=h
theorem BG.cellsD{c:Nat}(h:BG w lo hi (.slice a n c) n f g)(e:k<n):∃b off,a=some ⟨b,off,none⟩/\w.cell? ⟨b,off+k*2,none⟩=some (A0 (f k))/\w.cell? ⟨b,off+k*2+1,none⟩=some (A0 (g k)):=by
 obtain⟨_,l,m,hv,_,j⟩:=h;simp only[Value.slice.injEq,true_and]at hv;obtain⟨rfl,rfl⟩:=hv;obtain⟨b,off,i,_,_,d⟩:=j (by omega);exact⟨b,off,i,(d k e).1,(d k e).2⟩
theorem zC8(x y:Int)(w:World):Calls Tryz.prog 194 #[.agg #[A0 x,A0 y]] w fun e w'=>AJ (FU x y) e/\Below w.heap.size w w':=by
 have a:=AB w (.cells #[A0 x,A0 y] 38);by_cases f:0<=x
 ·by_cases i:x<200
  ·by_cases b:DS y
   ·have H:=Ac (show FU x y from⟨f,by omega,b.1,b.2⟩);have d:=Ac b;clear b;go_enter Tryz.func194,Tryz.ntmps194;go_wp2_with (first | (go_at_call 136;refine(FJ y _).mono ?_;rintro e g ⟨⟨t,rfl,c⟩,rfl⟩;obtain rfl:t=true:=c.2 d.out;clear c) | fail);go_wp2;go_ret;exact⟨AJ.yes H.out,a⟩
   ·have H:=Ac (show ¬FU x y from fun h=>b ⟨h.2.2.1,h.2.2.2⟩);have d:=Ac b;clear b;go_enter Tryz.func194,Tryz.ntmps194;go_wp2_with (first | (go_at_call 136;refine(FJ y _).mono ?_;rintro e g ⟨⟨t,rfl,c⟩,rfl⟩;obtain rfl:t=false:=BQ c d.out;clear c) | fail);go_wp2;go_ret;exact⟨AJ.no H.out,a⟩
  ·go_enter Tryz.func194,Tryz.ntmps194;go_wp2;go_ret;exact⟨AJ.no fun h=>by have:=h.2.1;omega,a⟩
 ·go_enter Tryz.func194,Tryz.ntmps194;go_wp2;go_ret;exact⟨AJ.no fun h=>by have:=h.1;omega,a⟩
theorem SF:Keyed Tryz.prog 2:=int_keyed (q:=.i64) (by kernel_rfl)
theorem MV:Tryz.prog.underlying 231=some (.map 2 2):=by kernel_rfl
theorem Oz:Tryz.prog.underlying 2=some (.int .i64):=by kernel_rfl
theorem zJI(w:World):(zeroValue 2).run Tryz.prog w = .ok (A0 0) w:=by kernel_rfl
theorem Q8(a:0<=x)(b:x<=1000000):(Lit.int .i64 x).wf=true:=WalkArith.wf_i64 (by omega)
def Rl(w:World)(B n:Nat)(D:DataW Unit):Prop:=w.ownsMap Tryz.prog 2 (plainElem Tryz.prog 2) B n D
theorem Z5(v:Value)(n lo hi:Nat)(f g:Nat->Int)(w:World)(z:BG w lo hi v n f g)(hn:n<=200)(t:∀i,i<n->FU (f i) (g i)) :
 Calls Tryz.prog 193 #[v] w fun e w'=>e = .returned (.map (some w.heap.size))/\Rl w' w.heap.size n (seenD f g n)/\Below w.heap.size w w':=by
 have B:=Ac z;have h:=Ac t;obtain⟨F,a,c,rfl,G,_⟩:=id z;clear z t;have D:=@run_makeMap Tryz.prog;go_enter Tryz.func193,Tryz.ntmps193;go_wp2
 go_loopw [9] (fun i wr=>∃k:Nat,k<=n/\i=A0 k/\Rl wr w.heap.size k (seenD f g k)/\Below w.heap.size w wr) (fun i _=>n - (intOf i).toNat)
 case atStart=>exact⟨0,Nat.zero_le _,rfl,World.ownsMap_made _ _ _ _,(Below.refl _ _).alloc (Nat.le_refl _) _⟩
 case round=>
  obtain⟨k,E,rfl,p,s⟩:=hrel;have m:=Ac p;clear p;by_cases d:k<n
  ·have A:(k:Int)<(n:Int):=(by omega);obtain⟨b,off,rfl,H,q1⟩:=(B.out.A1 s).cellsD d;have o:keyOf Tryz.prog 2 (A0 (f k))=some (Cr (f k)):=keyOf_int_mk Oz (Q8 (h.out k d).1 (by have:=(h.out k d).2.1;omega));have u:=Q8 (x:=g k) (by have:=(h.out k d).2.2.1;omega) (h.out k d).2.2.2;have r:=Ac o;have y:=Ac u;clear o u;go_wp2_with (first
    | (at_mapUpdate;refine wpList_mapUpdate_own _ rfl _ _ _ 231 rfl 2 2 SF MV _ w.heap.size k _ rfl (m.out.alloc _) (by unfold maxLen;omega) _ _ _ rfl rfl r.out _ [] (plainElem_int Oz y.out) ?_;intro I q l)
    | go_in)
   go_roundw
   case rel=>exact⟨k+1,by omega,by go_num,q,(s.alloc s.size _).grown l (by rw[World.size_alloc];have:=s.size;omega) (fun j C=>by cases C;exact Nat.le_refl _)⟩
   case measure=>simp[intOf];omega
  ·obtain rfl:k=n:=(by omega);go_wp2;go_ret;exact⟨rfl,m.out,s⟩
theorem J9(v:Value)(n lo hi:Nat)(f g:Nat->Int)(w:World)(A:BG w lo hi v n f g) :
 Calls Tryz.prog 176 #[v] w fun e w'=>AJ (Cf n f g) e/\Below w.heap.size w w':=by
 have D:=Ac A;obtain⟨L,a,c,rfl,P,_⟩:=id A;clear A;unfold maxLen at L;by_cases hn:n<=200
 ·have B:¬(200:Int)<(n:Int):=(by omega);go_enter Tryz.func176,Tryz.ntmps176;go_wp2
  go_loopw [10] (fun i wr=>∃k:Nat,k<=n/\i=A0 k/\(∀i,i<k->FU (f i) (g i))/\Below w.heap.size w wr) (fun i _=>n - (intOf i).toNat)
  case atStart=>exact⟨0,Nat.zero_le _,rfl,fun j J=>absurd J (Nat.not_lt_zero _),Below.refl _ _⟩
  case round=>
   obtain⟨k,O,rfl,p,u⟩:=hrel;have l:=Ac p;clear p;by_cases q:k<n
   ·have E:(k:Int)<(n:Int):=(by omega);obtain⟨b,off,rfl,M,q1⟩:=(D.out.A1 u).cellsD q;have r:=A9 u (AB wr (.cells #[A0 (f k),A0 (g k)] 38));go_wp2_with fail;refine(zC8 (f k) (g k) _).mono ?_;rintro e N ⟨⟨t,rfl,x⟩,m⟩;have o:=A9 r m;clear m r M q1;by_cases d:FU (f k) (g k)
    ·have y:=Ac d;obtain rfl:t=true:=x.2 d;clear x d;go_wp2;go_roundw
     case rel=>exact⟨k+1,by omega,by go_num,Br q l.out y.out,o⟩
     case measure=>simp[intOf];omega
    ·have y:=Ac d;obtain rfl:t=false:=BQ x d;clear x d;go_wp2;go_ret;exact⟨AJ.no fun h=>y.out (h.2.1 k q),o⟩
   ·obtain rfl:k=n:=(by omega);go_wp2_with fail;refine(Z5 _ k lo hi f g _ (D.out.A1 u) hn l.out).mono ?_;rintro e N ⟨rfl,F,m⟩;have o:=A9 u m;have H:=Ac F;have C:=Qg f g k;clear F m;obtain⟨K,s⟩:=C;have z:=Ac s;clear s;go_wp2_with (first
     | (at_len;refine wpList_len_own _ rfl _ 231 rfl 2 2 MV _ wr.heap.size k _ rfl H.out ?_)
     | go_in)
    go_ret;refine⟨⟨_,rfl,?_⟩,o⟩;have I:=z.out;have G:=l.out;simp only[beq_iff_eq,Int.natCast_inj];exact I.trans ⟨fun h=>⟨hn,G,h⟩,fun h=>h.2.2⟩
 ·have B:(200:Int)<(n:Int):=(by omega);go_enter Tryz.func176,Tryz.ntmps176;go_wp2;go_ret;exact⟨AJ.no fun h=>hn h.1,Below.refl _ _⟩
def Jb(n a b:Int):Prop:=a<=n/\n<=b
structure Cq where
 A8:Int
 time:Int
 rs:Int
 rb:Int
 dn:Nat
 ds:Nat->Int
 db:Nat->Int
def MW(s:Aa):Cq:=⟨s.A8,s.time,s.rs,s.rb,s.dn,s.ds,s.db⟩
def L3(t:Int)(s:Ab):Cq:=⟨s.A8,t,s.rs,s.rb,s.dn,s.ds,s.db⟩
def AA(W:A6)(i:Nat):Cq:=if i<W.pn then MW (W.A3 i)else L3 W.time (W.A2 (i - W.pn))
def memN(W:A6):Nat:=W.pn+W.sn
theorem CH(h:i<W.pn):AA W i=MW (W.A3 i):=if_pos h
theorem C4(W:A6)(i:Nat):AA W (W.pn+i)=L3 W.time (W.A2 i):=by
 unfold AA;rw[if_neg (by omega),show W.pn+i - W.pn=i by omega]
def DL:Aa:=⟨0,ByteArray.empty,ByteArray.empty,0,0,0,0,0,fun _=>0,fun _=>0⟩
open Classical in
def AI(W:A6)(x:Int):Aa:=if h:∃k,BW W x k then W.A3 h.choose else DL
theorem DW(h:BW W x k):AI W x=W.A3 k:=by
 unfold AI;rw[dif_pos ⟨k,h⟩,BW.uniq (Exists.choose_spec (⟨k,h⟩:∃k,BW W x k)) h]
theorem R1(h:∀k,k<W.pn->(W.A3 k).id≠x):AI W x=DL:=by
 unfold AI;rw[dif_neg];rintro⟨k,a⟩;exact h k a.1 a.2.1
theorem Qi{W:A6}{x:Int}:∀{n:Nat},n<=W.pn->(∃k,k<n/\(W.A3 k).id=x)->∃k,BW W x k
 | 0,_,⟨k,hk,_⟩=>absurd hk (Nat.not_lt_zero _)
 | n+1,hn,⟨k,hk,e⟩=>by
  by_cases h:∃j,j<n/\(W.A3 j).id=x
  ·exact Qi (by omega) h
  ·have:k=n:=by
    by_cases a:k<n
    ·exact absurd ⟨k,a,e⟩ h
    ·omega
   subst this;exact⟨k,by omega,e,fun j c b=>h ⟨j,c,b⟩⟩
def treeM(W:A6)(m:Cq):List (Int×Int):=AG W.pool m.rs m.rb
def oldM(W:A6)(m:Cq):List (Int×Int):=AG W.pool (AI W m.A8).rs (AI W m.A8).rb
def BR(l m:List (Int×Int)):List (Int×Int):=l.filter (fun x=>decide (x∉m))
def Ct(l m:List (Int×Int)):List (Int×Int):=l.filter (fun x=>decide (x∈m))
def EA(l:List (Int×Int))(t:Int):List (Int×Int):=l.filter (fun x=>decide (t<x.2))
def CB(W:A6)(m:Cq):List (Int×Int):=BR (treeM W m) (oldM W m)
def Cg(W:A6)(m:Cq):List (Int×Int):=EA (treeM W m) (AI W m.A8).time
def E6(n:Nat)(f g:Nat->Int)(l:List (Int×Int)):Prop:=F6 n f g l.length (AN l) (AP l)
def F3(now old:List (Int×Int))(t tm:Int):Prop:=∀x,x∈now->x.2<=tm/\(x∈old↔x.2<=t)
def K8(W:A6)(m:Cq):Prop:=E6 m.dn m.ds m.db (BR (oldM W m) (treeM W m))/\F3 (treeM W m) (oldM W m) (AI W m.A8).time m.time
def qU(W:A6)(m:Cq):Prop:=m.rb<=m.time/\E6 (Cg W m).length (AN (Cg W m)) (AP (Cg W m)) (CB W m)/\E6 m.dn m.ds m.db (BR (oldM W m) (Ct (treeM W m) (oldM W m)))
theorem zE(l m:List (Int×Int)):BR m (Ct l m)=BR m l:=by
 unfold BR Ct;refine List.filter_congr fun x b=>?_
 rw[decide_eq_decide];simp only[List.mem_filter,decide_eq_true_eq];exact⟨fun h a=>h ⟨a,b⟩,fun h a=>h a.1⟩
variable{l:List (Int×Int)}
theorem D6(h:i<l.length):l.getD i (0,0)=l[i]:=by
 rw[List.getD_eq_getElem?_getD,List.getElem?_eq_getElem h,Option.getD_some]
theorem Hu:PIn l.length (AN l) (AP l) x y↔(x,y)∈l:=by
 constructor
 ·rintro⟨j,a,b,c⟩;unfold AN at b;unfold AP at c;rw[D6 a]at b c;have:l[j]=(x,y):=Prod.ext b c;exact this▸List.getElem_mem a
 ·intro h;obtain⟨j,a,e⟩:=List.getElem_of_mem h;exact⟨j,a,by unfold AN;rw[D6 a,e],by unfold AP;rw[D6 a,e]⟩
structure EV (W:A6):Prop where
 right:AZ W.pool
 ids:∀k,k<W.pn->(W.A3 k).A8<(W.A3 k).id
 tree:∀i,i<memN W->B3 W.pool (AA W i).rs (AA W i).rb
 time:∀i,i<memN W->0<=(AA W i).time
variable{rs rb:Int}
theorem ED(b:AZ p)(e:B3 p rs rb){x:Int×Int}(a:x∈AG p rs rb):B8 p x.1 x.2/\x.2<=rb/\¬Has p.hn p.h x.1:=by
 rcases(Nj b).2 e with f | ⟨d,_,c⟩
 ·rw[AG,if_pos f]at a;simp at a
 ·have:=MN b d x a;exact⟨this.1,this.2,c.2 x a⟩
theorem L0(b:AZ p)(c:B3 p rs rb):(AG p rs rb).Nodup:=by
 rcases(Nj b).2 c with d | ⟨e,_,a⟩
 ·rw[AG,if_pos d];exact List.nodup_nil
 ·exact a.1
theorem zDs(e:AZ p)(h:B8 p x y):FU x y:=by
 have f:=Ey e h;have g:=e.1;obtain⟨a,b,c,d⟩:=h;have:=f.1.2;exact⟨b,by omega,a,by omega⟩
theorem Ky(a:AZ p)(h:∀x,x∈l->B8 p x.1 x.2)(hn:l.Nodup)(c:l.length<=200):Cf l.length (AN l) (AP l):=by
 have hs:=(QY h).2 hn;refine⟨c,fun i hi=>?_,fun i hi k b=>?_⟩
 ·unfold AN AP;rw[D6 hi];exact zDs a (h _ (List.getElem_mem hi))
 ·unfold AN;rw[D6 hi,D6 (show k<l.length by omega)];unfold Bk List.Nodup at hs;rw[List.pairwise_map]at hs;exact List.pairwise_iff_getElem.1 hs k i (by omega) hi b
theorem zC7(n:AZ p){T:List (Int×Int)}(o:∀x,x∈T->B8 p x.1 x.2)(hn:T.Nodup)(q:T.length<=200)(P Q:Int×Int->Bool) :
 E6 (T.filter P).length (AN (T.filter P)) (AP (T.filter P)) (T.filter Q)↔∀x,x∈T->P x=Q x:=by
 constructor
 ·rintro⟨_,_,b,f⟩;have g:∀x,x∈T->P x=true->Q x=true:=fun x a d=>by
   have r:x∈T.filter P:=List.mem_filter.2 ⟨a,d⟩;obtain⟨j,l,e⟩:=List.getElem_of_mem r;have:=f j l;rw[Hu]at this;unfold AN AP at this;rw[D6 l,e]at this;exact(List.mem_filter.1 this).2
  have m:(T.filter Q).filter P=T.filter P:=by
   rw[List.filter_filter];refine List.filter_congr fun x a=>?_
   cases d:P x
   ·rfl
   ·rw[g x a d];rfl
  have k:((T.filter Q).filter P).length=(T.filter Q).length:=(by rw[m,b]);rw[List.length_filter_eq_length_iff]at k;intro x a;cases hq:Q x
  ·cases d:P x
   ·rfl
   ·rw[g x a d]at hq;exact absurd hq (by simp)
  ·exact k x (List.mem_filter.2 ⟨a,hq⟩)
 ·intro h;have e:T.filter P=T.filter Q:=List.filter_congr h;rw[e];have c:Cf (T.filter Q).length (AN (T.filter Q)) (AP (T.filter Q)):=Ky n (fun x a=>o x (List.mem_filter.1 a).1) (hn.filter _) (Nat.le_trans (List.length_filter_le _ _) q);exact⟨c,c,rfl,fun i hi=>⟨i,hi,rfl,rfl⟩⟩
theorem Xv(h:EV W)(hi:i<memN W):qU W (AA W i)↔K8 W (AA W i):=by
 generalize q:AA W i=m;have j:=h.tree i hi;have f:=h.time i hi;rw[q]at j f;have d:(treeM W m).length<=200:=by have:=Dh W.pool m.rs m.rb;unfold treeM;omega
 have l:∀x,x∈treeM W m->B8 W.pool x.1 x.2:=fun x b=>(ED h.right j b).1
 unfold qU K8;rw[zE];have key:E6 (Cg W m).length (AN (Cg W m)) (AP (Cg W m)) (CB W m)↔∀x,x∈treeM W m->(x∈oldM W m↔x.2<=(AI W m.A8).time):=by
  unfold Cg CB EA BR;rw[zC7 h.right l (L0 h.right j) d];refine⟨fun k x b=>?_,fun k x b=>?_⟩
  ·have:=k x b;rw[decide_eq_decide]at this;constructor
   ·intro a;by_cases e:(AI W m.A8).time<x.2
    ·exact absurd a (this.1 e)
    ·omega
   ·intro c;by_cases a:x∈oldM W m
    ·exact a
    ·have:=this.2 a;omega
  ·rw[decide_eq_decide];have:=k x b;constructor
   ·intro e a;have:=this.1 a;omega
   ·intro a;by_cases c:x.2<=(AI W m.A8).time
    ·exact absurd (this.2 c) a
    ·omega
 rw[key];constructor
 ·rintro⟨n,g,p⟩;exact⟨p,fun x b=>⟨by have:=(ED h.right j b).2.1;omega,g x b⟩⟩
 ·rintro⟨n,g⟩;refine⟨?_,fun x b=>(g x b).2,n⟩;by_cases o:Nil m.rs m.rb
  ·rw[o.2];exact f
  ·have r:(m.rs,m.rb)∈treeM W m:=(by unfold treeM AG;rw[if_neg o];simp);exact(g _ r).1
theorem zDW{m:Cq}(c:K8 W m):Cg W m=CB W m:=by
 unfold Cg CB EA BR;refine List.filter_congr fun x d=>?_
 rw[decide_eq_decide];have:=(c.2 x d).2;constructor
 ·intro b a;have:=this.1 a;omega
 ·intro b;by_cases a:x.2<=(AI W m.A8).time
  ·exact absurd (this.2 a) b
  ·omega
open Classical in
def cnt(P:Nat->Prop):Nat->Nat
 | 0=>0
 | k+1=>cnt P k+(if P k then 1 else 0)
theorem Ki{P Q:Nat->Prop}:∀{n:Nat},(∀i,i<n->(P i↔Q i))->cnt P n=cnt Q n
 | 0,_=>rfl
 | n+1,h=>by
  unfold cnt;rw[Ki (fun i hi=>h i (by omega))];by_cases a:P n
  ·rw[if_pos a,if_pos ((h n (by omega)).1 a)]
  ·rw[if_neg a,if_neg (fun b=>a ((h n (by omega)).2 b))]
theorem Zd{P Q:Nat->Prop}:∀{n:Nat},(∀i,i<n->P i->Q i)->cnt P n<=cnt Q n
 | 0,_=>Nat.le_refl _
 | n+1,h=>by
  unfold cnt;have:=Zd (n:=n) (fun i hi=>h i (by omega));by_cases a:P n
  ·rw[if_pos a,if_pos (h n (by omega) a)];omega
  ·rw[if_neg a];omega
theorem Xz{P Q:Nat->Prop}:∀{n:Nat},(∀i,i<n->P i->Q i)->(cnt P n=cnt Q n↔∀i,i<n->(P i↔Q i))
 | 0,_=>⟨fun _ i hi=>absurd hi (Nat.not_lt_zero _),fun _=>rfl⟩
 | n+1,h=>by
  refine⟨fun e=>?_,fun e=>Ki e⟩;have f:=Zd (n:=n) (fun i hi=>h i (by omega));have g:=Xz (n:=n) (fun i hi=>h i (by omega));unfold cnt at e;have hn:P n↔Q n:=by
   refine⟨h n (by omega),fun b=>?_⟩;by_cases a:P n
   ·exact a
   ·rw[if_neg a,if_pos b]at e;omega
  have c:cnt P n=cnt Q n:=by
   by_cases a:P n
   ·rw[if_pos a,if_pos (hn.1 a)]at e;omega
   ·rw[if_neg a,if_neg (fun b=>a (hn.2 b))]at e;omega
  intro i hi;by_cases d:i=n
  ·subst d;exact hn
  ·exact g.1 c i (by omega)
theorem P9{P Q:Nat->Prop}:∀{n:Nat},(∀i,i<n->P i->¬Q i)->cnt (fun i=>P i\/Q i) n=cnt P n+cnt Q n
 | 0,_=>rfl
 | n+1,h=>by
  unfold cnt;rw[P9 (fun i hi=>h i (by omega))];by_cases a:P n
  ·rw[if_pos (Or.inl a),if_pos a,if_neg (h n (by omega) a)];omega
  ·by_cases b:Q n
   ·rw[if_pos (Or.inr b),if_neg a,if_pos b];omega
   ·rw[if_neg (fun h=>h.elim a b),if_neg a,if_neg b];omega
theorem Tl(P:Nat->Prop):∀n,cnt P n+cnt (fun i=>¬P i) n=n
 | 0=>rfl
 | n+1=>by
  have:=Tl P n;unfold cnt;by_cases a:P n
  ·rw[if_pos a,if_neg (fun h=>h a)];omega
  ·rw[if_neg a,if_pos a];omega
theorem QD{P:Nat->Prop}:∀{n:Nat},(∀i,i<n->¬P i)->cnt P n=0
 | 0,_=>rfl
 | n+1,h=>by
  unfold cnt;rw[QD (fun i hi=>h i (by omega)),if_neg (h n (by omega))]
theorem Tm:∀{n a:Nat},a<n->cnt (fun i=>i=a) n=1
 | 0,a,h=>absurd h (Nat.not_lt_zero _)
 | n+1,a,h=>by
  unfold cnt;by_cases e:n=a
  ·subst e;rw[if_pos rfl,QD (fun i hi=>by omega)]
  ·rw[if_neg e,Tm (by omega)]
theorem Nw{n:Nat}:∀{l:List Nat},l.Nodup->(∀x,x∈l->x<n)->cnt (fun i=>i∈l) n=l.length
 | [],_,_=>QD (fun i hi=>by simp)
 | a :: l,hn,hl=>by
  obtain⟨d,f⟩:=List.nodup_cons.1 hn;have b:cnt (fun i=>i∈a :: l) n=cnt (fun i=>i=a\/i∈l) n:=Ki (fun i _=>List.mem_cons);have c:cnt (fun i=>i=a\/i∈l) n=cnt (fun i=>i=a) n+cnt (fun i=>i∈l) n:=P9 (fun i _ (e:i=a) hi=>d (e▸hi));rw[b,c,Tm (hl a (by simp)),Nw f (fun x g=>hl x (by simp[g])),List.length_cons];omega
theorem VH(f:Nat->AH):∀n,roomN f n=cnt (fun i=>Ah (f i)) n
 | 0=>rfl
 | n+1=>by unfold roomN cnt;rw[VH f n]
theorem zEb(l:AZ p):cnt (fun i=>Has p.hn p.h i) p.n=p.hn:=by
 have h:=l.2.2;have q:∀x,x∈(List.range p.hn).map (fun j=>(p.h j).toNat)->x<p.n:=by
  intro x g;obtain⟨j,c,rfl⟩:=List.mem_map.1 g;have:=h j (List.mem_range.1 c);have k:=this.1;have d:=this.2.1;omega
 have hn:((List.range p.hn).map (fun j=>(p.h j).toNat)).Nodup:=by
  unfold List.Nodup;rw[List.pairwise_map];refine List.Pairwise.imp_of_mem ?_ (List.pairwise_lt_range);intro a b m o f e;have k:=h a (List.mem_range.1 m);have d:=h b (List.mem_range.1 o);have:=k.1;have:=d.1;exact d.2.2.2 ⟨a,f,by omega⟩
 have:=Nw hn q;rw[List.length_map,List.length_range]at this;refine Eq.trans (Ki (fun i hi=>?_)) this;constructor
 ·rintro⟨j,c,e⟩;exact List.mem_map.2 ⟨j,List.mem_range.2 c,by rw[e];simp⟩
 ·intro g;obtain⟨j,c,e⟩:=List.mem_map.1 g;have:=(h j (List.mem_range.1 c)).1;exact⟨j,List.mem_range.1 c,by omega⟩
theorem VG(a:AZ p):cnt (fun i=>¬Ah (p.s i)/\¬Has p.hn p.h i) p.n+roomN p.s p.n+p.hn=p.n:=by
 have f:=Tl (fun i=>Ah (p.s i)\/Has p.hn p.h i) p.n;have b:cnt (fun i=>Ah (p.s i)\/Has p.hn p.h i) p.n=cnt (fun i=>Ah (p.s i)) p.n+cnt (fun i=>Has p.hn p.h i) p.n:=P9 (fun i hi c=>by
  rintro⟨j,d,e⟩;have:=(a.2.2 j d).2.2.1;rw[e]at this;simp only[Int.toNat_natCast]at this;exact this c)
 rw[zEb a,<-VH]at b;have g:cnt (fun i=>¬(Ah (p.s i)\/Has p.hn p.h i)) p.n=cnt (fun i=>¬Ah (p.s i)/\¬Has p.hn p.h i) p.n:=Ki (fun i _=>not_or);omega
def Q1(W:A6):Prop:=∀i,i<W.pool.n->((∃m,m<memN W/\∃b,((i:Int),b)∈treeM W (AA W m))↔(¬Ah (W.pool.s i)/\¬Has W.pool.hn W.pool.h i))
def Ic(W:A6):Prop:=∀i,i<memN W->∀j,j<i->∀x,x∈CB W (AA W i)->∀y,y∈CB W (AA W j)->x.1≠y.1
def B7(W:A6):Nat->List (Int×Int)
 | 0=>[]
 | k+1=>B7 W k ++ Cg W (AA W k)
def Lg(W:A6):Prop:=(B7 W (memN W)).Nodup/\(B7 W (memN W)).length+roomN W.pool.s W.pool.n+W.pool.hn=W.pool.n
theorem M7{W:A6}{x:Int×Int}:∀{k:Nat},x∈B7 W k↔∃i,i<k/\x∈Cg W (AA W i)
 | 0=>by simp[B7]
 | k+1=>by
  unfold B7;rw[List.mem_append,M7];constructor
  ·rintro(⟨i,hi,h⟩ | h)
   ·exact⟨i,by omega,h⟩
   ·exact⟨k,by omega,h⟩
  ·rintro⟨i,hi,h⟩;by_cases e:i=k
   ·subst e;exact Or.inr h
   ·exact Or.inl ⟨i,by omega,h⟩
theorem Yj{W:A6}:∀{k:Nat},(∀i,i<k->(Cg W (AA W i)).Nodup)->((B7 W k).Nodup↔∀i,i<k->∀j,j<i->∀x,x∈Cg W (AA W i)->x∉Cg W (AA W j))
 | 0,_=>⟨fun _ i hi=>absurd hi (Nat.not_lt_zero _),fun _=>List.nodup_nil⟩
 | k+1,hy=>by
  unfold B7;rw[List.nodup_append,Yj (fun i hi=>hy i (by omega))];constructor
  ·rintro⟨f,l,g⟩ i hi j d x a b;by_cases e:i=k
   ·subst e;exact g x (M7.2 ⟨j,d,b⟩) x a rfl
   ·exact f i (by omega) j d x a b
  ·intro h;refine⟨fun i hi=>h i (by omega),hy k (by omega),fun x a y c e=>?_⟩;subst e;obtain⟨i,hi,a⟩:=M7.1 a;exact h k (by omega) i hi x c a
theorem UW{W:A6}(h:EV W){x:Int×Int}:∀(N:Nat) (k:Nat),k<W.pn->(W.A3 k).id<N->0<=(W.A3 k).id->(∀j,j<W.pn->0<=(W.A3 j).id)->x∈treeM W (AA W k)->∃i,i<memN W/\x∈CB W (AA W i)
 | 0,k,hk,h1,h2,_,_=>by omega
 | N+1,k,hk,h1,h2,h0,hx=>by
  by_cases a:x∈oldM W (AA W k)
  ·have c:∃j,BW W (AA W k).A8 j:=by
    refine Classical.byContradiction fun d=>?_
    have:AI W (AA W k).A8=DL:=(by unfold AI;rw[dif_neg d]);unfold oldM at a;rw[this,AG,if_pos ⟨rfl,rfl⟩]at a;simp at a
   obtain⟨j,b⟩:=c;unfold oldM at a;rw[DW b]at a;have e:(AA W k).A8=(W.A3 k).A8:=(by rw[CH hk];rfl);have:=h.ids k hk;have:=b.2.1;exact UW h N j b.1 (by omega) (h0 j b.1) h0 (by rw[CH b.1];exact a)
  ·exact⟨k,by unfold memN;omega,List.mem_filter.2 ⟨hx,by simpa using a⟩⟩
theorem zEq(h:EV W)(c:∀j,j<W.pn->0<=(W.A3 j).id){x:Int×Int}(f:m<memN W)(g:x∈treeM W (AA W m)):∃i,i<memN W/\x∈CB W (AA W i):=by
 by_cases a:x∈oldM W (AA W m)
 ·have d:∃j,BW W (AA W m).A8 j:=by
   refine Classical.byContradiction fun e=>?_
   have:AI W (AA W m).A8=DL:=(by unfold AI;rw[dif_neg e]);unfold oldM at a;rw[this,AG,if_pos ⟨rfl,rfl⟩]at a;simp at a
  obtain⟨j,b⟩:=d;unfold oldM at a;rw[DW b]at a;have:=c j b.1;exact UW h ((W.A3 j).id.toNat+1) j b.1 (by omega) (c j b.1) c (by rw[CH b.1];exact a)
 ·exact⟨m,f,List.mem_filter.2 ⟨g,by simpa using a⟩⟩
theorem XW(h:EV W)(T:∀j,j<W.pn->0<=(W.A3 j).id)(U:∀i,i<memN W->K8 W (AA W i)):Lg W↔Q1 W/\Ic W:=by
 have w:∀i,i<memN W->Cg W (AA W i)=CB W (AA W i):=fun i hi=>zDW (U i hi)
 have K:∀i,i<memN W->(Cg W (AA W i)).Nodup:=fun i hi=>(L0 h.right (h.tree i hi)).filter _
 have t:∀i,i<memN W->∀x,x∈CB W (AA W i)->x∈treeM W (AA W i):=fun i _ x c=>(List.mem_filter.1 c).1
 have p:∀i,i<memN W->∀x,x∈treeM W (AA W i)->B8 W.pool x.1 x.2/\¬Has W.pool.hn W.pool.h x.1:=fun i hi x c=>⟨(ED h.right (h.tree i hi) c).1,(ED h.right (h.tree i hi) c).2.2⟩
 have o:∀x y:Int×Int,B8 W.pool x.1 x.2->B8 W.pool y.1 y.2->x.1=y.1->x=y:=fun x y c g e=>by
  have O:=c.2.2.2;have S:=g.2.2.2;rw[e]at O;exact Prod.ext e (O.symm.trans S)
 have G:(B7 W (memN W)).Nodup↔Ic W:=by
  rw[Yj K];unfold Ic;constructor
  ·intro H i hi j I x c y g e;have N:=o x y (p i hi x (t i hi x c)).1 (p j (by omega) y (t j (by omega) y g)).1 e;subst N;exact H i hi j I x (by rw[w i hi];exact c) (by rw[w j (by omega)];exact g)
  ·intro H i hi j I x c M;exact H i hi j I x (by rw[<-w i hi];exact c) x (by rw[<-w j (by omega)];exact M) rfl
 have d:∀x,x∈B7 W (memN W)↔∃m,m<memN W/\x∈treeM W (AA W m):=fun x=>by
  rw[M7];constructor
  ·rintro⟨i,hi,c⟩;rw[w i hi]at c;exact⟨i,hi,t i hi x c⟩
  ·rintro⟨m,k,c⟩;obtain⟨i,hi,c⟩:=zEq h T k c;exact⟨i,hi,by rw[w i hi];exact c⟩
 unfold Lg;rw[G];constructor
 ·rintro⟨A,R⟩;refine⟨?_,A⟩;have f:=G.2 A;have hpL:∀x,x∈B7 W (memN W)->B8 W.pool x.1 x.2:=fun x c=>by
   obtain⟨m,k,c⟩:=(d x).1 c;exact(p m k x c).1
  have J:∀x,x∈(B7 W (memN W)).map (fun x=>x.1.toNat)->x<W.pool.n:=by
   intro x c;obtain⟨y,g,rfl⟩:=List.mem_map.1 c;have:=hpL y g;have F:=this.2.1;have z:=this.2.2.1;omega
  have v:((B7 W (memN W)).map (fun x=>x.1.toNat)).Nodup:=by
   unfold List.Nodup;rw[List.pairwise_map];refine List.Pairwise.imp_of_mem ?_ f;intro a b q r u e;have C:=hpL a q;have D:=hpL b r;have:=C.2.1;have:=D.2.1;exact u (o a b C D (by omega))
  have E:=Nw v J;rw[List.length_map]at E;have X:=VG h.right;have l:∀i,i<W.pool.n->(i∈(B7 W (memN W)).map (fun x=>x.1.toNat)↔∃m,m<memN W/\∃b,((i:Int),b)∈treeM W (AA W m)):=by
   intro i hi;rw[List.mem_map];constructor
   ·rintro⟨x,c,e⟩;have:=(hpL x c).2.1;obtain⟨m,k,c⟩:=(d x).1 c;exact⟨m,k,x.2,by rw[show(i:Int)=x.1 by omega];exact c⟩
   ·rintro⟨m,k,b,c⟩;exact⟨(i,b),(d _).2 ⟨m,k,c⟩,by simp⟩
  have B:∀i,i<W.pool.n->i∈(B7 W (memN W)).map (fun x=>x.1.toNat)->¬Ah (W.pool.s i)/\¬Has W.pool.hn W.pool.h i:=by
   intro i hi c;obtain⟨m,k,b,c⟩:=(l i hi).1 c;have:=p m k _ c;refine⟨fun V=>?_,this.2⟩;have F:=this.1.1;have z:=this.1.2.2.2;simp only[Int.toNat_natCast]at z;rw[V.1]at z;simp only at F z;omega
  have:=(Xz B).1 (by rw[E];omega);intro i hi;rw[<-l i hi];exact this i hi
 ·rintro⟨L,A⟩;refine⟨A,?_⟩;have f:=G.2 A;have hpL:∀x,x∈B7 W (memN W)->B8 W.pool x.1 x.2:=fun x c=>by
   obtain⟨m,k,c⟩:=(d x).1 c;exact(p m k x c).1
  have J:∀x,x∈(B7 W (memN W)).map (fun x=>x.1.toNat)->x<W.pool.n:=by
   intro x c;obtain⟨y,g,rfl⟩:=List.mem_map.1 c;have:=hpL y g;have F:=this.2.1;have z:=this.2.2.1;omega
  have v:((B7 W (memN W)).map (fun x=>x.1.toNat)).Nodup:=by
   unfold List.Nodup;rw[List.pairwise_map];refine List.Pairwise.imp_of_mem ?_ f;intro a b q r u e;have C:=hpL a q;have D:=hpL b r;have:=C.2.1;have:=D.2.1;exact u (o a b C D (by omega))
  have E:=Nw v J;rw[List.length_map]at E;have X:=VG h.right;have l:∀i,i<W.pool.n->(i∈(B7 W (memN W)).map (fun x=>x.1.toNat)↔∃m,m<memN W/\∃b,((i:Int),b)∈treeM W (AA W m)):=by
   intro i hi;rw[List.mem_map];constructor
   ·rintro⟨x,c,e⟩;have:=(hpL x c).2.1;obtain⟨m,k,c⟩:=(d x).1 c;exact⟨m,k,x.2,by rw[show(i:Int)=x.1 by omega];exact c⟩
   ·rintro⟨m,k,b,c⟩;exact⟨(i,b),(d _).2 ⟨m,k,c⟩,by simp⟩
  have:=Ki (P:=fun i=>i∈(B7 W (memN W)).map (fun x=>x.1.toNat)) (Q:=fun i=>¬Ah (W.pool.s i)/\¬Has W.pool.hn W.pool.h i) (n:=W.pool.n) (fun i hi=>(l i hi).trans (L i hi));omega
theorem Ax.atW{base:Nat}(h:Ax w base v l)(e:l.length<=1000):BG w 0 w.heap.size v l.length (AN l) (AP l):=by
 obtain⟨b,c,d⟩:=h.own (by unfold maxLen;omega);exact c.at (fun a=>⟨Nat.zero_le _,(d a).2.2⟩)
def qT(now old:List (Int×Int))(t tm:Int)(n:Nat):Prop:=∀i,i<n->AP now i<=tm/\((AN now i,AP now i)∈old↔AP now i<=t)
theorem Tf(a b:List (Int×Int))(t tm:Int):qT a b t tm a.length↔F3 a b t tm:=by
 constructor
 ·intro h x d;obtain⟨j,c,e⟩:=List.getElem_of_mem d;have:=h j c;unfold AN AP at this;rw[D6 c,e]at this;exact this
 ·intro h i hi;have:=h _ (List.getElem_mem hi);unfold AN AP;rw[D6 hi];exact this
def N9(W:A6):Prop:=∀k,k<W.pn->1<=(W.A3 k).id
def Dq(i:Nat)(c:Int):Prop:=(97<=c/\c<=122)\/(i≠0/\((48<=c/\c<=57)\/c=95))
def BX(s:ByteArray):Prop:=1<=s.size/\s.size<=20/\∀j,(h:j<s.size)->Dq j (s[j].toNat:Int)
variable{s:ByteArray}
theorem zIt(d:k<s.size)(a:∀j,(h:j<k)->(b:j<s.size)->Dq j (s[j].toNat:Int))(c:Dq k (s[k].toNat:Int)) :
 ∃m:Nat,m<=s.size/\Value.int .i64 ((k:Int)+1)=A0 (m:Int)/\∀j,(h:j<m)->(b:j<s.size)->Dq j (s[j].toNat:Int):=by
 refine⟨k+1,by omega,by simp,fun j h b=>?_⟩;by_cases e:j=k
 ·subst e;exact c
 ·exact a j (by omega) b
theorem zIs(c:0<s.size)(a:Dq 0 (s[0].toNat:Int)) :
 ∃m:Nat,m<=s.size/\Value.int .i64 1=A0 (m:Int)/\∀j,(h:j<m)->(b:j<s.size)->Dq j (s[j].toNat:Int):=by
 refine⟨1,by omega,by simp,fun j h b=>?_⟩;obtain rfl:j=0:=by omega
 exact a
theorem RQ(s:ByteArray)(w:World)(hs:s.size<=maxLen) :
 Calls Tryz.prog 114 #[.string s] w fun e w'=>AJ (BX s) e/\w'=w:=by
 unfold maxLen at hs;by_cases r:s.size<1
 ·have f:(s.size:Int)<1:=(by omega);go_enter Tryz.func114,Tryz.ntmps114;go_wp2;go_ret;exact⟨⟨false,rfl,by simp[BX];omega⟩,rfl⟩
 by_cases t:20<s.size
 ·have m:(20:Int)<(s.size:Int):=(by omega);have f:¬(s.size:Int)<1:=(by omega);go_enter Tryz.func114,Tryz.ntmps114;go_wp2;go_ret;exact⟨⟨false,rfl,by simp[BX];omega⟩,rfl⟩
 have f:¬(s.size:Int)<1:=by omega
 have m:¬(20:Int)<(s.size:Int):=by omega
 have p:0<s.size:=by omega
 by_cases a:97<=(s[0].toNat:Int)/\(s[0].toNat:Int)<=122
 ·obtain⟨l,n⟩:=a;go_enter Tryz.func114,Tryz.ntmps114;go_wp2
  go_loop [20] (fun i=>∃k:Nat,k<=s.size/\i=A0 k/\∀j,(h:j<k)->(q:j<s.size)->Dq j (s[j].toNat:Int)) (fun i=>s.size - (intOf i).toNat)
  case atStart=>exact⟨0,Nat.zero_le _,rfl,fun j h=>absurd h (Nat.not_lt_zero _)⟩
  case round=>
   obtain⟨k,u,rfl,c⟩:=hrel;have b:Hid (∀j,(h:j<k)->(q:j<s.size)->Dq j (s[j].toNat:Int)):=c;clear c;by_cases d:k<s.size
   ·by_cases o:k=0
    all_goals try subst o
    all_goals go_wp2
    all_goals try (go_ret;refine⟨⟨false,rfl,?_⟩,rfl⟩;simp only[Bool.false_eq_true,false_iff];intro h;have g:=h.2.2 _ d;unfold Dq at g;first | omega | grind)
    all_goals
     go_round
     case measure=>simp[intOf];omega
     case rel=>first | exact zIs d (by unfold Dq;first | omega | grind) | exact zIt d b.out (by unfold Dq;first | omega | grind)
   ·go_wp2;go_ret;refine⟨⟨true,rfl,?_⟩,rfl⟩;simp only[true_iff];exact⟨by omega,by omega,fun j h=>b.out j (by omega) h⟩
 ·by_cases l:97<=(s[0].toNat:Int)
  ·have n:¬(s[0].toNat:Int)<=122:=fun h=>a ⟨l,h⟩
   clear a;go_enter Tryz.func114,Tryz.ntmps114;go_wp2;go_ret;refine⟨⟨false,rfl,?_⟩,rfl⟩;simp only[Bool.false_eq_true,false_iff];intro h;have g:=h.2.2 _ p;unfold Dq at g;omega
  ·clear a;go_enter Tryz.func114,Tryz.ntmps114;go_wp2;go_ret;refine⟨⟨false,rfl,?_⟩,rfl⟩;simp only[Bool.false_eq_true,false_iff];intro h;have g:=h.2.2 _ p;unfold Dq at g;omega
def Cd(a b:ByteArray):Prop:=Op.bytesLess a.toList b.toList=true
theorem V9:∀x y:List UInt8,Op.bytesLess x y=true\/x=y\/Op.bytesLess y x=true
 | [],[]=>Or.inr (Or.inl rfl)
 | [],b :: y=>Or.inl (by simp[Op.bytesLess])
 | a :: x,[]=>Or.inr (Or.inr (by simp[Op.bytesLess]))
 | a :: x,b :: y=>by
  simp only[Op.bytesLess,Bool.or_eq_true,decide_eq_true_eq,Bool.and_eq_true,beq_iff_eq,List.cons.injEq];by_cases h:a=b
  ·subst h;rcases V9 x y with h | h | h
   ·exact Or.inl (Or.inr ⟨rfl,h⟩)
   ·exact Or.inr (Or.inl ⟨rfl,h⟩)
   ·exact Or.inr (Or.inr (Or.inr ⟨rfl,h⟩))
  ·have:a<b\/b<a:=by
    have c:a.toNat≠b.toNat:=fun e=>h (UInt8.toNat_inj.1 e)
    rw[UInt8.lt_iff_toNat_lt,UInt8.lt_iff_toNat_lt];omega
   rcases this with h | h
   ·exact Or.inl (Or.inl h)
   ·exact Or.inr (Or.inr (Or.inl h))
theorem Qw:∀x:List UInt8,Op.bytesLess x x=false
 | []=>rfl
 | a :: x=>by simp[Op.bytesLess,Qw x]
theorem V7:∀x y:List UInt8,Op.bytesLess x y=true->Op.bytesLess y x=false
 | [],[],h=>by simp[Op.bytesLess]at h
 | [],b :: y,_=>by simp[Op.bytesLess]
 | a :: x,[],h=>by simp[Op.bytesLess]at h
 | a :: x,b :: y,h=>by
  simp only[Op.bytesLess,Bool.or_eq_true,decide_eq_true_eq,Bool.and_eq_true,beq_iff_eq]at h;rw[<-Bool.not_eq_true];simp only[Op.bytesLess,Bool.or_eq_true,decide_eq_true_eq,Bool.and_eq_true,beq_iff_eq,UInt8.lt_iff_toNat_lt]at h ⊢;rintro(c | ⟨c,d⟩)
  ·rcases h with h | ⟨h,_⟩
   ·omega
   ·subst h;omega
  ·subst c;rcases h with h | ⟨_,h⟩
   ·omega
   ·rw[V7 x y h]at d;exact absurd d (by simp)
variable{a b:ByteArray}
theorem G7(h:a.toList=b.toList):a=b:=by
 rw[Go.ByteArray.toList_eq,Go.ByteArray.toList_eq]at h;cases a;cases b;simp only[ByteArray.mk.injEq]at *;exact Array.toList_inj.1 h
theorem Sg(a b:ByteArray):(Op.bytesLess a.toList b.toList || a.toList == b.toList)=false↔Cd b a:=by
 unfold Cd;rw[Bool.or_eq_false_iff,beq_eq_false_iff_ne];constructor
 ·rintro⟨c,d⟩;rcases V9 a.toList b.toList with h | h | h
  ·rw[c]at h;exact absurd h (by simp)
  ·exact absurd h d
  ·exact h
 ·intro h;refine⟨V7 _ _ h,fun e=>?_⟩;rw[e,Qw]at h;exact absurd h (by simp)
theorem Q5(h:Cd a b):a≠b:=fun e=>by
 subst e;unfold Cd at h;rw[Qw]at h;exact absurd h (by simp)
theorem VA:∀x y z:List UInt8,Op.bytesLess x y=true->Op.bytesLess y z=true->Op.bytesLess x z=true
 | _,[],_,h,_=>by cases ‹List UInt8›<;>simp[Op.bytesLess]at h
 | [],_ :: _,[],_,h=>by simp[Op.bytesLess]at h
 | [],_ :: _,_ :: _,_,_=>by simp[Op.bytesLess]
 | _ :: _,_ :: _,[],_,h=>by simp[Op.bytesLess]at h
 | a :: x,b :: y,c :: z,h,d=>by
  simp only[Op.bytesLess,Bool.or_eq_true,decide_eq_true_eq,Bool.and_eq_true,beq_iff_eq,UInt8.lt_iff_toNat_lt]at h d ⊢;rcases h with h | ⟨h,f⟩
  ·rcases d with d | ⟨d,e⟩
   ·left;omega
   ·subst d;left;exact h
  ·subst h;rcases d with d | ⟨d,e⟩
   ·left;exact d
   ·subst d;right;exact⟨rfl,VA x y z f e⟩
theorem zBR{c:ByteArray}(h:Cd a b)(d:Cd b c):Cd a c:=VA _ _ _ h d
def CK(W:A6)(x:Int):Prop:=∃k,k<W.pn/\(W.A3 k).id=x
def BL(W:A6)(x:ByteArray):Prop:=∃k,k<W.sn/\(W.A2 k).name=x
def GJ(W:A6)(i:Nat):Prop:=BX (W.A2 i).name/\(0<i->Cd (W.A2 (i - 1)).name (W.A2 i).name)/\((W.A2 i).A8≠0->CK W (W.A2 i).A8)/\((W.A2 i).origin≠0->CK W (W.A2 i).origin)
def Mp(W:A6)(i:Nat):Prop:=1<=(W.A3 i).id/\(W.A3 i).id<W.next/\1<=(W.A3 i).time/\(W.A3 i).time<W.time/\BX (W.A3 i).name/\BL W (W.A3 i).set
def LH(W:A6)(i:Nat):Prop:=(0<i->(W.A3 (i - 1)).id<(W.A3 i).id/\(W.A3 (i - 1)).time<(W.A3 i).time)/\((W.A3 i).A8≠0->(W.A3 i).A8<(W.A3 i).id/\CK W (W.A3 i).A8)
def LI(W:A6)(i j:Nat):Prop:=∀k,k<j->¬((W.A3 k).set=(W.A3 i).set/\(W.A3 k).name=(W.A3 i).name)
def KK(W:A6)(i:Nat):Prop:=Mp W i/\LH W i/\LI W i i
def DD(W:A6):Prop:=Jb W.time 1 900000/\Jb W.next 1 900000/\W.sn<=8/\W.pn<=20/\(∀i,i<W.sn->GJ W i)/\∀i,i<W.pn->KK W i
theorem Y6{r:Int}(h:Py W.pn (fun k=>(W.A3 k).id=x) r):(CK W x/\0<=r/\r<W.pn/\(W.A3 r.toNat).id=x)\/(¬CK W x/\r = -1):=by
 rcases h with⟨k,a,e,_,rfl⟩ | ⟨hn,rfl⟩
 ·exact Or.inl ⟨⟨k,a,e⟩,by omega,by omega,by simpa using e⟩
 ·exact Or.inr ⟨fun ⟨k,a,e⟩=>hn k a e,rfl⟩
theorem zf{x:ByteArray}{r:Int}(h:Py W.sn (fun k=>(W.A2 k).name=x) r):(BL W x/\0<=r)\/(¬BL W x/\r = -1):=by
 rcases h with⟨k,a,e,_,rfl⟩ | ⟨hn,rfl⟩
 ·exact Or.inl ⟨⟨k,a,e⟩,by omega⟩
 ·exact Or.inr ⟨fun ⟨k,a,e⟩=>hn k a e,rfl⟩
def DX(w:World)(b:Nat)(v0 v1 v2 v3 v4 v5 v6 v7:Value):Prop:=(AO w b 0 v0/\AO w b 1 v1/\AO w b 2 v2/\AO w b 3 v3)/\(AO w b 4 v4/\AO w b 5 v5/\AO w b 6 v6/\AO w b 7 v7)
theorem DX.A1{b:Nat}{v4 v5 v6 v7:Value}(h:DX w b v0 v1 v2 v3 v4 v5 v6 v7)(t:Below w.heap.size w w'):DX w' b v0 v1 v2 v3 v4 v5 v6 v7:=
 ⟨⟨h.1.1.A1 t,h.1.2.1.A1 t,h.1.2.2.1.A1 t,h.1.2.2.2.A1 t⟩,h.2.1.A1 t,h.2.2.1.A1 t,h.2.2.2.1.A1 t,h.2.2.2.2.A1 t⟩
theorem DX.new(w:World)(b v1 c d e f g h:Value)(t:TypeId):DX (w.alloc (.cells #[b,v1,c,d,e,f,g,h] t)) w.heap.size b v1 c d e f g h:=by
 have a:(w.alloc (.cells #[b,v1,c,d,e,f,g,h] t)).heap[w.heap.size]?=some (.cells #[b,v1,c,d,e,f,g,h] t):=heap_alloc_new _ _;exact⟨⟨Az a rfl,Az a rfl,Az a rfl,Az a rfl⟩,Az a rfl,Az a rfl,Az a rfl,Az a rfl⟩
open Classical in
def ownN(W:A6)(name:ByteArray):Nat->Nat
 | 0=>0
 | k+1=>ownN W name k+(if (W.A3 k).set=name then 1 else 0)
variable{name:ByteArray}
theorem Nc(h:(W.A3 k).set=name):ownN W name (k+1)=ownN W name k+1:=by simp[ownN,h]
theorem NM(h:¬(W.A3 k).set=name):ownN W name (k+1)=ownN W name k:=by simp[ownN,h]
theorem NL(W:A6)(name:ByteArray):∀k,ownN W name k<=k
 | 0=>Nat.le_refl _
 | k+1=>by
  have:=NL W name k;by_cases h:(W.A3 k).set=name
  ·rw[Nc h];omega
  ·rw[NM h];omega
inductive Steps (W:A6) (name:ByteArray) (start:Int):Nat->Int->Prop
 | zero:Steps W name start 0 start
 | next {n:Nat} {x:Int} {k:Nat}:Steps W name start n x->BW W x k->(W.A3 k).set=name->Steps W name start (n+1) (W.A3 k).A8
def F5(W:A6)(name:ByteArray)(x:Int):Prop:=∃k,BW W x k/\(W.A3 k).set=name
def FA(W:A6)(name:ByteArray)(start origin:Int):Prop:=∃n e,Steps W name start n e/\¬F5 W name e/\n=ownN W name W.pn/\e=origin
theorem Steps.det{W:A6}{name:ByteArray}{start:Int}:∀{n:Nat} {x y:Int},Steps W name start n x->Steps W name start n y->x=y
 | 0,_,_,.zero,.zero=>rfl
 | n+1,_,_,.next h hk _,.next h' hk' _=>by
  have e:=Steps.det h h';subst e;rw[BW.uniq hk hk']
theorem Steps.less{W:A6}{name:ByteArray}{start:Int}:∀{n m:Nat} {x:Int},Steps W name start m x->n<m->∃y,Steps W name start n y/\F5 W name y
 | n,0,_,_,h=>absurd h (Nat.not_lt_zero _)
 | n,m+1,_,.next (x:=x) h hk hs,hl=>by
  by_cases e:n=m
  ·subst e;exact⟨x,h,_,hk,hs⟩
  ·exact Steps.less h (by omega)
theorem Steps.end{start:Int}(h:Steps W name start n x)(f:¬F5 W name x)(b:Steps W name start m y)(g:¬F5 W name y):n=m/\x=y:=by
 have e:n=m:=by
  rcases Nat.lt_trichotomy n m with a | a | a
  ·obtain⟨z,d,c⟩:=b.less a;rw[h.det d]at f;exact absurd c f
  ·exact a
  ·obtain⟨z,d,c⟩:=h.less a;rw[b.det d]at g;exact absurd c g
 subst e;exact⟨rfl,h.det b⟩
theorem Uj{start origin:Int}(h:Steps W name start n x)(c:¬F5 W name x):FA W name start origin↔n=ownN W name W.pn/\x=origin:=by
 constructor
 ·rintro⟨m,y,hs,d,a,b⟩;obtain⟨rfl,rfl⟩:=h.end c hs d;exact⟨a,b⟩
 ·rintro⟨a,b⟩;exact⟨n,x,h,c,a,b⟩
theorem CK.no(h:CK W x):∃k,BW W x k:=Qi (Nat.le_refl _) h
structure G0 (W:A6):Prop where
 ids:∀k,k<W.pn->1<=(W.A3 k).id/\(W.A3 k).id<900000
 A8:∀k,k<W.pn->(W.A3 k).A8=0\/CK W (W.A3 k).A8
 less:∀k,k<W.pn->(W.A3 k).A8<(W.A3 k).id
 A2:∀k,k<W.sn->(W.A2 k).A8=0\/CK W (W.A2 k).A8
 Aq:∀k,k<W.sn->(W.A2 k).name.toList.isEmpty=false
theorem G0.pos(h:G0 W):N9 W:=fun k a=>(h.ids k a).1
theorem CK.range(h:G0 W)(b:CK W x):1<=x/\x<900000:=by
 obtain⟨k,a,rfl⟩:=b;exact h.ids k a
theorem RZ(h:BX s):s.toList.isEmpty=false:=by
 have:=h.1;rw[Go.ByteArray.toList_eq];cases s with
 | mk d=>
  cases hd:d.toList with
  | nil=>
   have b:d.size=0:=(by rw[<-Array.length_toList,hd];rfl);have c:1<=d.size:=this;omega
  | cons a l=>simp
theorem DD.ER(h:DD W):G0 W where
 ids:=fun k a=>⟨(h.2.2.2.2.2 k a).1.1,by have:=(h.2.2.2.2.2 k a).1.2.1;have:=h.2.1.2;omega⟩
 A8:=fun k a=>by
  by_cases e:(W.A3 k).A8=0
  ·exact Or.inl e
  ·exact Or.inr ((h.2.2.2.2.2 k a).2.1.2 e).2
 less:=fun k a=>by
  by_cases e:(W.A3 k).A8=0
  ·have:=(h.2.2.2.2.2 k a).1.1;omega
  ·exact((h.2.2.2.2.2 k a).2.1.2 e).1
 A2:=fun k a=>by
  by_cases e:(W.A2 k).A8=0
  ·exact Or.inl e
  ·exact Or.inr ((h.2.2.2.2.1 k a).2.2.1 e)
 Aq:=fun k a=>RZ (h.2.2.2.2.1 k a).1
structure EZ (W:A6) (name:ByteArray) (start:Int) (n:Nat) (x:Int):Prop where
 steps:Steps W name start n x
 there:x=0\/CK W x
 least:0<=x
 sum:(n:Int)+x<=900000
theorem EZ.start(h:G0 W)(name:ByteArray)(a:x=0\/CK W x):EZ W name x 0 x where
 steps:=.zero
 there:=a
 least:=by rcases a with rfl | a;exact Int.le_refl _;have:=a.range h;omega
 sum:=by rcases a with rfl | a;decide;have:=a.range h;omega
theorem EZ.next(h:G0 W){start:Int}(b:EZ W name start n x)(a:BW W x k)(hs:(W.A3 k).set=name):EZ W name start (n+1) (W.A3 k).A8 where
 steps:=b.steps.next a hs
 there:=h.A8 k a.1
 least:=by rcases h.A8 k a.1 with e | e;omega;have:=e.range h;omega
 sum:=by have c:=h.less k a.1;have d:=b.sum;have f:=a.2.1;omega
theorem Yu(h:G0 W)(name:ByteArray):¬F5 W name 0:=fun ⟨k,hk,_⟩=>by
 have:=(h.ids k hk.1).1;have:=hk.2.1;omega
theorem Xy(a:BW W x k)(hs:¬(W.A3 k).set=name):¬F5 W name x:=fun ⟨j,hj,e⟩=>hs (by rw[BW.uniq a hj];exact e)
variable{m:List (Int×Int)}
theorem Pd(a:k<l.length)(h:(AN l k,AP l k)∈m):BR (l.take (k+1)) m=BR (l.take k) m:=by
 unfold AN AP at h;rw[D6 a]at h;unfold BR;rw[List.take_succ_eq_append_getElem a,List.filter_append,List.filter_cons];simp only[List.filter_nil];rw[if_neg (by simp;exact h),List.append_nil]
theorem QK(a:k<l.length)(h:(AN l k,AP l k)∉m):BR (l.take (k+1)) m=BR (l.take k) m ++ [(AN l k,AP l k)]:=by
 unfold AN AP at h ⊢;rw[D6 a]at h ⊢;unfold BR;rw[List.take_succ_eq_append_getElem a,List.filter_append,List.filter_cons];simp only[List.filter_nil];rw[if_pos (by simp;exact h)]
theorem Uh(l m:List (Int×Int))(k:Nat):(BR (l.take k) m).length<=k:=by
 unfold BR;exact Nat.le_trans (List.length_filter_le _ _) (by rw[List.length_take];omega)
def EX(W:A6)(i:Nat):Prop:=F3 (treeM W (AA W i)) (oldM W (AA W i)) (AI W (AA W i).A8).time (AA W i).time
theorem EV.snap(h:EV W)(a:k<W.pn):B3 W.pool (W.A3 k).rs (W.A3 k).rb:=by
 have:=h.tree k (by unfold memN;omega);rw[CH a]at this;exact this
theorem EV.set(h:EV W)(a:k<W.sn):B3 W.pool (W.A2 k).rs (W.A2 k).rb:=by
 have:=h.tree (W.pn+k) (by unfold memN;omega);rw[C4]at this;exact this
def KJ(W:A6)(s:Nat):Prop:=∃m,m<memN W/\∃b,((s:Int),b)∈treeM W (AA W m)
def DG(W:A6)(i:Nat):Int×Int:=if i<W.sn then((W.A2 i).rs,(W.A2 i).rb)else((W.A3 (i - W.sn)).rs,(W.A3 (i - W.sn)).rb)
def F8(W:A6)(n:Nat):List (Int×Int):=(List.range n).map (DG W)
theorem ON(W:A6)(n:Nat):(F8 W n).length=n:=by simp[F8]
theorem YY(W:A6)(n:Nat):F8 W (n+1)=F8 W n ++ [DG W n]:=by simp[F8,List.range_succ]
theorem OA(h:i<W.sn):DG W i=((W.A2 i).rs,(W.A2 i).rb):=if_pos h
theorem OM(W:A6)(i:Nat):DG W (W.sn+i)=((W.A3 i).rs,(W.A3 i).rb):=by
 unfold DG;rw[if_neg (by omega),show W.sn+i - W.sn=i by omega]
theorem Vc(h:i<n):AN (F8 W n) i=(DG W i).1/\AP (F8 W n) i=(DG W i).2:=by
 unfold AN AP;rw[D6 (by rw[ON];exact h)];simp[F8]
theorem zFy(a:EV W)(hi:i<W.sn+W.pn):B3 W.pool (DG W i).1 (DG W i).2:=by
 by_cases h:i<W.sn
 ·rw[OA h];exact a.set h
 ·have:=OM W (i - W.sn);rw[show W.sn+(i - W.sn)=i by omega]at this;rw[this];exact a.snap (by omega)
variable{s:Nat}
theorem zAn:KJ W s↔∃i,i<W.sn+W.pn/\∃b,((s:Int),b)∈AG W.pool (DG W i).1 (DG W i).2:=by
 unfold KJ memN treeM;constructor
 ·rintro⟨m,c,b,h⟩;by_cases a:m<W.pn
  ·rw[CH a]at h;exact⟨W.sn+m,by omega,b,by rw[OM];exact h⟩
  ·have e:=C4 W (m - W.pn);rw[show W.pn+(m - W.pn)=m by omega]at e;rw[e]at h;exact⟨m - W.pn,by omega,b,by rw[OA (by omega)];exact h⟩
 ·rintro⟨i,hi,b,h⟩;by_cases hs:i<W.sn
  ·rw[OA hs]at h;exact⟨W.pn+i,by omega,b,by rw[C4];exact h⟩
  ·have e:=OM W (i - W.sn);rw[show W.sn+(i - W.sn)=i by omega]at e;rw[e]at h;exact⟨i - W.sn,by omega,b,by rw[CH (by omega)];exact h⟩
def qV(W:A6)(k:Nat)(l:List (Int×Int))(j s:Nat):Prop:=(∃i,i<k/\∃b,((s:Int),b)∈AG W.pool (DG W i).1 (DG W i).2)\/∃q,q<j/\AN l q=(s:Int)
def LV(W:A6)(k:Nat)(l:List (Int×Int))(j:Nat)(f:Nat->Bool):Prop:=∀s,f s=true↔qV W k l j s
variable{f:Nat->Bool}
theorem zAM(h:LV W k l j f)(hs:AN l j=(s:Int)):LV W k l (j+1) (fun i=>if i=s then true else f i):=by
 intro i;show(if i=s then true else f i)=true↔_;by_cases e:i=s
 ·subst e;rw[if_pos rfl];exact⟨fun _=>Or.inr ⟨j,by omega,hs⟩,fun _=>rfl⟩
 ·rw[if_neg e,h i];constructor
  ·rintro(h | ⟨q,a,h⟩)
   ·exact Or.inl h
   ·exact Or.inr ⟨q,by omega,h⟩
  ·rintro(h | ⟨q,a,h⟩)
   ·exact Or.inl h
   ·by_cases eq:q=j
    ·subst eq;exact absurd (by omega) e
    ·exact Or.inr ⟨q,by omega,h⟩
theorem zAN(h:LV W k l l.length f)(d:l=AG W.pool (DG W k).1 (DG W k).2):LV W (k+1) [] 0 f:=by
 intro s;rw[h s];constructor
 ·rintro(⟨i,hi,h⟩ | ⟨q,a,e⟩)
  ·exact Or.inl ⟨i,by omega,h⟩
  ·refine Or.inl ⟨k,by omega,(l[q]).2,?_⟩;unfold AN at e;rw[D6 a]at e;rw[<-d,<-e];exact List.getElem_mem a
 ·rintro(⟨i,hi,b,c⟩ | ⟨q,a,e⟩)
  ·by_cases e:i=k
   ·subst e;rw[<-d]at c;obtain⟨q,a,e⟩:=List.getElem_of_mem c;exact Or.inr ⟨q,a,by unfold AN;rw[D6 a,e]⟩
   ·exact Or.inl ⟨i,by omega,b,c⟩
  ·omega
theorem Tx(b:AZ p)(c:B3 p rs rb)(a:j<(AG p rs rb).length):∃s:Nat,AN (AG p rs rb) j=(s:Int)/\s<p.n:=by
 unfold AN;rw[D6 a];have:=(ED b c (List.getElem_mem a)).1;obtain⟨_,d,e,_⟩:=this;exact⟨((AG p rs rb)[j]).1.toNat,by omega,by omega⟩
theorem At.grown{w1:World}{b:Nat}{v4 v5:Value}{row:Option Nat}(h:At w b v0 v1 v2 v3 v4 v5)(a:w.grownBy w1 row)(c:∀q,row=some q->b≠q):At w1 b v0 v1 v2 v3 v4 v5:=by
 have f:b<w.heap.size:=h.1.lt;refine h.AD (S:=fun k=>row=some k) ⟨a.os,a.tape,a.output,a.size,fun k d hs=>a.block k d (fun e=>hs e.symm)⟩ (fun e=>c b e rfl)
def Px(W:A6)(k:Nat):Prop:=∀i,i<k->∀j,j<i->∀x,x∈CB W (AA W i)->∀y,y∈CB W (AA W j)->x.1≠y.1
def KV(W:A6)(k:Nat)(now old:List (Int×Int))(j:Nat):Prop:=∀q,q<j->(AN now q,AP now q)∉old->∀i,i<k->∀y,y∈CB W (AA W i)->AN now q≠y.1
def qW(W:A6)(k:Nat)(now old:List (Int×Int))(j s:Nat):Prop:=(∃i,i<k/\∃b,((s:Int),b)∈CB W (AA W i))\/∃q,q<j/\AN now q=(s:Int)/\(AN now q,AP now q)∉old
def FX(W:A6)(k:Nat)(now old:List (Int×Int))(j:Nat)(f:Nat->Bool):Prop:=∀s,f s=true↔qW W k now old j s
variable{a b:List (Int×Int)}
theorem zBD(h:Px W k)(hn:a=treeM W (AA W k))(n:b=oldM W (AA W k))(o:KV W k a b a.length):Px W (k+1):=by
 intro i hi j f x l y m;by_cases e:i=k
 ·subst e;obtain⟨c,d⟩:=List.mem_filter.1 l;rw[<-hn]at c;rw[<-n]at d;obtain⟨q,g,e⟩:=List.getElem_of_mem c;have:=o q g;unfold AN AP at this;rw[D6 g,e]at this;exact this (by simpa using d) j f y m
 ·exact h i (by omega) j f x l y m
theorem zE9(h:FX W k a b j f)(c:(AN a j,AP a j)∈b):FX W k a b (j+1) f:=by
 intro s;rw[h s];constructor
 ·rintro(h | ⟨q,i,h⟩)
  ·exact Or.inl h
  ·exact Or.inr ⟨q,by omega,h⟩
 ·rintro(h | ⟨q,i,g,d⟩)
  ·exact Or.inl h
  ·by_cases e:q=j
   ·subst e;exact absurd c d
   ·exact Or.inr ⟨q,by omega,g,d⟩
theorem zE8(h:FX W k a b j f)(hs:AN a j=(s:Int))(c:(AN a j,AP a j)∉b):FX W k a b (j+1) (fun i=>if i=s then true else f i):=by
 intro i;show(if i=s then true else f i)=true↔_;by_cases e:i=s
 ·subst e;rw[if_pos rfl];exact⟨fun _=>Or.inr ⟨j,by omega,hs,c⟩,fun _=>rfl⟩
 ·rw[if_neg e,h i];constructor
  ·rintro(h | ⟨q,g,h⟩)
   ·exact Or.inl h
   ·exact Or.inr ⟨q,by omega,h⟩
  ·rintro(h | ⟨q,g,h,d⟩)
   ·exact Or.inl h
   ·by_cases eq:q=j
    ·subst eq;exact absurd (by omega) e
    ·exact Or.inr ⟨q,by omega,h,d⟩
theorem zG4(h:KV W k a b j)(c:(AN a j,AP a j)∈b):KV W k a b (j+1):=by
 intro q d;by_cases e:q=j
 ·subst e;exact fun h=>absurd c h
 ·exact h q (by omega)
theorem zG1(h:KV W k a b j)(d:FX W k a b j f)(hs:AN a j=(s:Int))(g:f s=false):KV W k a b (j+1):=by
 intro q m;by_cases e:q=j
 ·subst e;intro _ i hi y l c;have:f s=true:=(d s).2 (Or.inl ⟨i,hi,y.2,by rw[<-hs,c];exact l⟩);rw[g]at this;exact absurd this (by simp)
 ·exact h q (by omega)
theorem zEB{g:List (Int×Int)}(h:FX W k a g a.length f)(hn:a=treeM W (AA W k))(m:g=oldM W (AA W k)):FX W (k+1) [] [] 0 f:=by
 intro s;rw[h s];constructor
 ·rintro(⟨i,hi,h⟩ | ⟨q,d,e,c⟩)
  ·exact Or.inl ⟨i,by omega,h⟩
  ·refine Or.inl ⟨k,by omega,(a[q]).2,?_⟩;unfold AN AP at c;unfold AN at e;rw[D6 d]at e c;refine List.mem_filter.2 ⟨?_,?_⟩
   ·rw[<-hn,<-e];exact List.getElem_mem d
   ·rw[<-m,<-e];simpa using c
 ·rintro(⟨i,hi,b,c⟩ | ⟨q,d,_⟩)
  ·by_cases e:i=k
   ·subst e;obtain⟨j,l⟩:=List.mem_filter.1 c;rw[<-hn]at j;rw[<-m]at l;obtain⟨q,d,e⟩:=List.getElem_of_mem j;refine Or.inr ⟨q,d,?_⟩;unfold AN AP;rw[D6 d,e];exact⟨rfl,by simpa using l⟩
   ·exact Or.inl ⟨i,by omega,b,c⟩
  ·omega
theorem zA4(h:FX W k [] [] 0 f)(a b:List (Int×Int)):FX W k a b 0 f:=by
 intro s;rw[h s];constructor
 ·rintro(h | ⟨q,c,_⟩)
  ·exact Or.inl h
  ·omega
 ·rintro(h | ⟨q,c,_⟩)
  ·exact Or.inl h
  ·omega
theorem zA5{c:List (Int×Int)}(d:EV W)(n:k<memN W)(hn:a=treeM W (AA W k))(v:c=oldM W (AA W k))(t:FX W k a c j f)(m:j<a.length)(hs:AN a j=(s:Int))(g:(AN a j,AP a j)∉c)(u:f s=true):¬Ic W:=by
 intro r;rcases(t s).1 u with⟨i,hi,b,h⟩ | ⟨q,w,e,y⟩
 ·refine r k n i hi (AN a j,AP a j) ?_ _ h hs;refine List.mem_filter.2 ⟨?_,by rw[<-v];simpa using g⟩;rw[<-hn];unfold AN AP;rw[D6 m];exact List.getElem_mem m
 ·have o:=Ky d.right (l:=a) (fun x p=>by rw[hn]at p;exact(ED d.right (d.tree k n) p).1) (by rw[hn];exact L0 d.right (d.tree k n)) (by rw[hn];have:=Dh W.pool (AA W k).rs (AA W k).rb;unfold treeM;omega);exact o.2.2 j m q w (by rw[e,hs])
def DU(W:A6)(i:Nat):Prop:=E6 (AA W i).dn (AA W i).ds (AA W i).db (BR (oldM W (AA W i)) (treeM W (AA W i)))
structure B4 (W:A6):Prop where
 right:AZ W.pool
 Aq:DD W
 lines:∀i,i<W.sn->FA W (W.A2 i).name (W.A2 i).A8 (W.A2 i).origin
 A3:∀i,i<W.pn->B3 W.pool (W.A3 i).rs (W.A3 i).rb
 A2:∀i,i<W.sn->B3 W.pool (W.A2 i).rs (W.A2 i).rb/\DU W (W.pn+i)
 dead:∀i,i<W.pn->DU W i
 reach:Q1 W
 born:∀i,i<memN W->EX W i
 Bn:Ic W
theorem LM(h:∀k,k<W.pn->B3 W.pool (W.A3 k).rs (W.A3 k).rb)(x:Int):B3 W.pool (AI W x).rs (AI W x).rb:=by
 by_cases b:∃k,BW W x k
 ·obtain⟨k,a⟩:=b;rw[DW a];exact h k a.1
 ·have:AI W x=DL:=by
   unfold AI;rw[dif_neg b]
  rw[this];exact Or.inl ⟨rfl,rfl⟩
theorem Nl(f:AZ W.pool)(b:DD W)(c:∀i,i<W.pn->B3 W.pool (W.A3 i).rs (W.A3 i).rb)(d:∀i,i<W.sn->B3 W.pool (W.A2 i).rs (W.A2 i).rb):EV W where
 right:=f
 ids:=b.ER.less
 tree:=fun i hi=>by
  by_cases a:i<W.pn
  ·rw[CH a];exact c i a
  ·have e:=C4 W (i - W.pn);rw[show W.pn+(i - W.pn)=i by omega]at e;rw[e];unfold memN at hi;exact d _ (by omega)
 time:=fun i hi=>by
  by_cases a:i<W.pn
  ·rw[CH a];have:1<=(W.A3 i).time:=(b.2.2.2.2.2 i a).1.2.2.1;show 0<=(W.A3 i).time;omega
  ·have e:=C4 W (i - W.pn);rw[show W.pn+(i - W.pn)=i by omega]at e;rw[e];have:1<=W.time:=b.1.1;show 0<=W.time;omega
end
end Go.Proofs.YtddigaohmfpepaaGreatDoor
