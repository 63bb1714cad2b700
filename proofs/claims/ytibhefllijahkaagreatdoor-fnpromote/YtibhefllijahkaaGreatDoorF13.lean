/- A part of the proof. -/
import Derived.Test.YtibhefllijahkaaGreatDoorF12
import Derived.ProofKit
set_option linter.unusedVariables false
set_option maxRecDepth 20000
set_option maxHeartbeats 4000000
namespace Go.Proofs.YtibhefllijahkaaGreatDoor
noncomputable section
open Go.RowKit
structure Cs where
 A6:Int
 time:Int
 rs:Int
 rb:Int
 dn:Nat
 ds:Nat->Int
 db:Nat->Int
def PI(s:AL):Cs:=⟨s.A6,s.time,s.rs,s.rb,s.dn,s.ds,s.db⟩
def JE(t:Int)(s:AM):Cs:=⟨s.A6,t,s.rs,s.rb,s.dn,s.ds,s.db⟩
def AB(W:A5)(i:Nat):Cs:=if i<W.pn then PI (W.A1 i)else JE W.time (W.A3 (i - W.pn))
def memN(W:A5):Nat:=W.pn+W.sn
variable{W:A5}{i:Nat}
theorem CU(h:i<W.pn):AB W i=PI (W.A1 i):=if_pos h
theorem DN(W:A5)(i:Nat):AB W (W.pn+i)=JE W.time (W.A3 i):=by
 unfold AB;rw[if_neg (by omega),show W.pn+i - W.pn=i by omega]
def Ap:AL:=⟨0,ByteArray.empty,ByteArray.empty,0,0,0,0,0,fun _=>0,fun _=>0⟩
open Classical in
def AC(W:A5)(x:Int):AL:=if h:∃k,B5 W x k then W.A1 h.choose else Ap
variable{x:Int}{k:Nat}
theorem CM(h:B5 W x k):AC W x=W.A1 k:=by
 unfold AC;rw[dif_pos ⟨k,h⟩,B5.uniq (Exists.choose_spec (⟨k,h⟩:∃k,B5 W x k)) h]
theorem Oi(h:∀k,k<W.pn->(W.A1 k).id≠x):AC W x=Ap:=by
 unfold AC;rw[dif_neg];rintro⟨k,a⟩;exact h k a.1 a.2.1
theorem Qw{W:A5}{x:Int}:∀{n:Nat},n<=W.pn->(∃k,k<n/\(W.A1 k).id=x)->∃k,B5 W x k
 | 0,_,⟨k,hk,_⟩=>absurd hk (Nat.not_lt_zero _)
 | n+1,hn,⟨k,hk,e⟩=>by
  by_cases h:∃j,j<n/\(W.A1 j).id=x
  ·exact Qw (by omega) h
  ·have:k=n:=by
    by_cases a:k<n
    ·exact absurd ⟨k,a,e⟩ h
    ·omega
   subst this;exact⟨k,by omega,e,fun j c b=>h ⟨j,c,b⟩⟩
def treeM(W:A5)(m:Cs):List (Int×Int):=AF W.pool m.rs m.rb
def oldM(W:A5)(m:Cs):List (Int×Int):=AF W.pool (AC W m.A6).rs (AC W m.A6).rb
def BU(l m:List (Int×Int)):List (Int×Int):=l.filter (fun x=>decide (x∉m))
def Cd(l m:List (Int×Int)):List (Int×Int):=l.filter (fun x=>decide (x∈m))
def EG(l:List (Int×Int))(t:Int):List (Int×Int):=l.filter (fun x=>decide (t<x.2))
def D5(W:A5)(m:Cs):List (Int×Int):=BU (treeM W m) (oldM W m)
def CO(W:A5)(m:Cs):List (Int×Int):=EG (treeM W m) (AC W m.A6).time
def FH(n:Nat)(f g:Nat->Int)(l:List (Int×Int)):Prop:=Ew n f g l.length (AO l) (AS l)
def Gy(now old:List (Int×Int))(t tm:Int):Prop:=∀x,x∈now->x.2<=tm/\(x∈old↔x.2<=t)
def KU(W:A5)(m:Cs):Prop:=FH m.dn m.ds m.db (BU (oldM W m) (treeM W m))/\Gy (treeM W m) (oldM W m) (AC W m.A6).time m.time
def qp(W:A5)(m:Cs):Prop:=m.rb<=m.time/\FH (CO W m).length (AO (CO W m)) (AS (CO W m)) (D5 W m)/\FH m.dn m.ds m.db (BU (oldM W m) (Cd (treeM W m) (oldM W m)))
theorem zDx(l m:List (Int×Int)):BU m (Cd l m)=BU m l:=by
 unfold BU Cd;refine List.filter_congr fun x b=>?_
 rw[decide_eq_decide];simp only[List.mem_filter,decide_eq_true_eq];exact⟨fun h a=>h ⟨a,b⟩,fun h a=>h a.1⟩
variable{l:List (Int×Int)}
theorem DF(h:i<l.length):l.getD i (0,0)=l[i]:=by
 rw[List.getD_eq_getElem?_getD,List.getElem?_eq_getElem h,Option.getD_some]
variable{y:Int}
theorem Jp:PIn l.length (AO l) (AS l) x y↔(x,y)∈l:=by
 constructor
 ·rintro⟨j,a,b,c⟩;unfold AO at b;unfold AS at c;rw[DF a]at b c;have:l[j]=(x,y):=Prod.ext b c;exact this▸List.getElem_mem a
 ·intro h;obtain⟨j,a,e⟩:=List.getElem_of_mem h;exact⟨j,a,by unfold AO;rw[DF a,e],by unfold AS;rw[DF a,e]⟩
structure Eg (W:A5):Prop where
 right:Ag W.pool
 ids:∀k,k<W.pn->(W.A1 k).A6<(W.A1 k).id
 tree:∀i,i<memN W->As W.pool (AB W i).rs (AB W i).rb
 time:∀i,i<memN W->0<=(AB W i).time
variable{p:A8}{rs rb:Int}
theorem Fs(b:Ag p)(e:As p rs rb){x:Int×Int}(a:x∈AF p rs rb):BM p x.1 x.2/\x.2<=rb/\¬Has p.hn p.h x.1:=by
 rcases(QC b).2 e with g | ⟨d,_,c⟩
 ·rw[AF,if_pos g]at a;simp at a
 ·have:=Ou b d x a;exact⟨this.1,this.2,c.2 x a⟩
theorem Mo(b:Ag p)(c:As p rs rb):(AF p rs rb).Nodup:=by
 rcases(QC b).2 c with d | ⟨e,_,a⟩
 ·rw[AF,if_pos d];exact List.nodup_nil
 ·exact a.1
theorem zEO(e:Ag p)(h:BM p x y):G4 x y:=by
 have g:=F5 e h;have i:=e.1;obtain⟨a,b,c,d⟩:=h;have:=g.1.2;exact⟨b,by omega,a,by omega⟩
theorem Oo(a:Ag p)(h:∀x,x∈l->BM p x.1 x.2)(hn:l.Nodup)(c:l.length<=200):Bq l.length (AO l) (AS l):=by
 have hs:=(Qo h).2 hn;refine⟨c,fun i hi=>?_,fun i hi k b=>?_⟩
 ·unfold AO AS;rw[DF hi];exact zEO a (h _ (List.getElem_mem hi))
 ·unfold AO;rw[DF hi,DF (show k<l.length by omega)];unfold E6 List.Nodup at hs;rw[List.pairwise_map]at hs;exact List.pairwise_iff_getElem.1 hs k i (by omega) hi b
theorem zBn(o:Ag p){T:List (Int×Int)}(q:∀x,x∈T->BM p x.1 x.2)(hn:T.Nodup)(r:T.length<=200)(P Q:Int×Int->Bool) :
 FH (T.filter P).length (AO (T.filter P)) (AS (T.filter P)) (T.filter Q)↔∀x,x∈T->P x=Q x:=by
 constructor
 ·rintro⟨_,_,b,g⟩;have k:∀x,x∈T->P x=true->Q x=true:=fun x a d=>by
   have s:x∈T.filter P:=List.mem_filter.2 ⟨a,d⟩;obtain⟨j,m,e⟩:=List.getElem_of_mem s;have:=g j m;rw[Jp]at this;unfold AO AS at this;rw[DF m,e]at this;exact(List.mem_filter.1 this).2
  have n:(T.filter Q).filter P=T.filter P:=by
   rw[List.filter_filter];refine List.filter_congr fun x a=>?_
   cases d:P x
   ·rfl
   ·rw[k x a d];rfl
  have l:((T.filter Q).filter P).length=(T.filter Q).length:=(by rw[n,b]);rw[List.length_filter_eq_length_iff]at l;intro x a;cases hq:Q x
  ·cases d:P x
   ·rfl
   ·rw[k x a d]at hq;exact absurd hq (by simp)
  ·exact l x (List.mem_filter.2 ⟨a,hq⟩)
 ·intro h;have e:T.filter P=T.filter Q:=List.filter_congr h;rw[e];have c:Bq (T.filter Q).length (AO (T.filter Q)) (AS (T.filter Q)):=Oo o (fun x a=>q x (List.mem_filter.1 a).1) (hn.filter _) (Nat.le_trans (List.length_filter_le _ _) r);exact⟨c,c,rfl,fun i hi=>⟨i,hi,rfl,rfl⟩⟩
theorem Xr(h:Eg W)(hi:i<memN W):qp W (AB W i)↔KU W (AB W i):=by
 generalize r:AB W i=m;have k:=h.tree i hi;have g:=h.time i hi;rw[r]at k g;have d:(treeM W m).length<=200:=by have:=De W.pool m.rs m.rb;unfold treeM;omega
 have n:∀x,x∈treeM W m->BM W.pool x.1 x.2:=fun x b=>(Fs h.right k b).1
 unfold qp KU;rw[zDx];have key:FH (CO W m).length (AO (CO W m)) (AS (CO W m)) (D5 W m)↔∀x,x∈treeM W m->(x∈oldM W m↔x.2<=(AC W m.A6).time):=by
  unfold CO D5 EG BU;rw[zBn h.right n (Mo h.right k) d];refine⟨fun l x b=>?_,fun l x b=>?_⟩
  ·have:=l x b;rw[decide_eq_decide]at this;constructor
   ·intro a;by_cases e:(AC W m.A6).time<x.2
    ·exact absurd a (this.1 e)
    ·omega
   ·intro c;by_cases a:x∈oldM W m
    ·exact a
    ·have:=this.2 a;omega
  ·rw[decide_eq_decide];have:=l x b;constructor
   ·intro e a;have:=this.1 a;omega
   ·intro a;by_cases c:x.2<=(AC W m.A6).time
    ·exact absurd (this.2 c) a
    ·omega
 rw[key];constructor
 ·rintro⟨o,j,q⟩;exact⟨q,fun x b=>⟨by have:=(Fs h.right k b).2.1;omega,j x b⟩⟩
 ·rintro⟨o,j⟩;refine⟨?_,fun x b=>(j x b).2,o⟩;by_cases p:Nil m.rs m.rb
  ·rw[p.2];exact g
  ·have s:(m.rs,m.rb)∈treeM W m:=(by unfold treeM AF;rw[if_neg p];simp);exact(j _ s).1
theorem zEx{m:Cs}(c:KU W m):CO W m=D5 W m:=by
 unfold CO D5 EG BU;refine List.filter_congr fun x d=>?_
 rw[decide_eq_decide];have:=(c.2 x d).2;constructor
 ·intro b a;have:=this.1 a;omega
 ·intro b;by_cases a:x.2<=(AC W m.A6).time
  ·exact absurd (this.2 a) b
  ·omega
open Classical in
def cnt(P:Nat->Prop):Nat->Nat
 | 0=>0
 | k+1=>cnt P k+(if P k then 1 else 0)
theorem J5{P Q:Nat->Prop}:∀{n:Nat},(∀i,i<n->(P i↔Q i))->cnt P n=cnt Q n
 | 0,_=>rfl
 | n+1,h=>by
  unfold cnt;rw[J5 (fun i hi=>h i (by omega))];by_cases a:P n
  ·rw[if_pos a,if_pos ((h n (by omega)).1 a)]
  ·rw[if_neg a,if_neg (fun b=>a ((h n (by omega)).2 b))]
theorem Zq{P Q:Nat->Prop}:∀{n:Nat},(∀i,i<n->P i->Q i)->cnt P n<=cnt Q n
 | 0,_=>Nat.le_refl _
 | n+1,h=>by
  unfold cnt;have:=Zq (n:=n) (fun i hi=>h i (by omega));by_cases a:P n
  ·rw[if_pos a,if_pos (h n (by omega) a)];omega
  ·rw[if_neg a];omega
theorem RO{P Q:Nat->Prop}:∀{n:Nat},(∀i,i<n->P i->Q i)->(cnt P n=cnt Q n↔∀i,i<n->(P i↔Q i))
 | 0,_=>⟨fun _ i hi=>absurd hi (Nat.not_lt_zero _),fun _=>rfl⟩
 | n+1,h=>by
  refine⟨fun e=>?_,fun e=>J5 e⟩;have g:=Zq (n:=n) (fun i hi=>h i (by omega));have j:=RO (n:=n) (fun i hi=>h i (by omega));unfold cnt at e;have hn:P n↔Q n:=by
   refine⟨h n (by omega),fun b=>?_⟩;by_cases a:P n
   ·exact a
   ·rw[if_neg a,if_pos b]at e;omega
  have c:cnt P n=cnt Q n:=by
   by_cases a:P n
   ·rw[if_pos a,if_pos (hn.1 a)]at e;omega
   ·rw[if_neg a,if_neg (fun b=>a (hn.2 b))]at e;omega
  intro i hi;by_cases d:i=n
  ·subst d;exact hn
  ·exact j.1 c i (by omega)
theorem NR{P Q:Nat->Prop}:∀{n:Nat},(∀i,i<n->P i->¬Q i)->cnt (fun i=>P i\/Q i) n=cnt P n+cnt Q n
 | 0,_=>rfl
 | n+1,h=>by
  unfold cnt;rw[NR (fun i hi=>h i (by omega))];by_cases a:P n
  ·rw[if_pos (Or.inl a),if_pos a,if_neg (h n (by omega) a)];omega
  ·by_cases b:Q n
   ·rw[if_pos (Or.inr b),if_neg a,if_pos b];omega
   ·rw[if_neg (fun h=>h.elim a b),if_neg a,if_neg b];omega
theorem UB(P:Nat->Prop):∀n,cnt P n+cnt (fun i=>¬P i) n=n
 | 0=>rfl
 | n+1=>by
  have:=UB P n;unfold cnt;by_cases a:P n
  ·rw[if_pos a,if_neg (fun h=>h a)];omega
  ·rw[if_neg a,if_pos a];omega
theorem O7{P:Nat->Prop}:∀{n:Nat},(∀i,i<n->¬P i)->cnt P n=0
 | 0,_=>rfl
 | n+1,h=>by
  unfold cnt;rw[O7 (fun i hi=>h i (by omega)),if_neg (h n (by omega))]
theorem Q0:∀{n a:Nat},a<n->cnt (fun i=>i=a) n=1
 | 0,a,h=>absurd h (Nat.not_lt_zero _)
 | n+1,a,h=>by
  unfold cnt;by_cases e:n=a
  ·subst e;rw[if_pos rfl,O7 (fun i hi=>by omega)]
  ·rw[if_neg e,Q0 (by omega)]
theorem O6{n:Nat}:∀{l:List Nat},l.Nodup->(∀x,x∈l->x<n)->cnt (fun i=>i∈l) n=l.length
 | [],_,_=>O7 (fun i hi=>by simp)
 | a :: l,hn,hl=>by
  obtain⟨d,g⟩:=List.nodup_cons.1 hn;have b:cnt (fun i=>i∈a :: l) n=cnt (fun i=>i=a\/i∈l) n:=J5 (fun i _=>List.mem_cons);have c:cnt (fun i=>i=a\/i∈l) n=cnt (fun i=>i=a) n+cnt (fun i=>i∈l) n:=NR (fun i _ (e:i=a) hi=>d (e▸hi));rw[b,c,Q0 (hl a (by simp)),O6 g (fun x h=>hl x (by simp[h])),List.length_cons];omega
theorem Uw(f:Nat->AD):∀n,roomN f n=cnt (fun i=>An (f i)) n
 | 0=>rfl
 | n+1=>by unfold roomN cnt;rw[Uw f n]
theorem zFB(m:Ag p):cnt (fun i=>Has p.hn p.h i) p.n=p.hn:=by
 have h:=m.2.2;have r:∀x,x∈(List.range p.hn).map (fun j=>(p.h j).toNat)->x<p.n:=by
  intro x k;obtain⟨j,c,rfl⟩:=List.mem_map.1 k;have:=h j (List.mem_range.1 c);have l:=this.1;have d:=this.2.1;omega
 have hn:((List.range p.hn).map (fun j=>(p.h j).toNat)).Nodup:=by
  unfold List.Nodup;rw[List.pairwise_map];refine List.Pairwise.imp_of_mem ?_ (List.pairwise_lt_range);intro a b o q g e;have l:=h a (List.mem_range.1 o);have d:=h b (List.mem_range.1 q);have:=l.1;have:=d.1;exact d.2.2.2 ⟨a,g,by omega⟩
 have:=O6 hn r;rw[List.length_map,List.length_range]at this;refine Eq.trans (J5 (fun i hi=>?_)) this;constructor
 ·rintro⟨j,c,e⟩;exact List.mem_map.2 ⟨j,List.mem_range.2 c,by rw[e];simp⟩
 ·intro k;obtain⟨j,c,e⟩:=List.mem_map.1 k;have:=(h j (List.mem_range.1 c)).1;exact⟨j,List.mem_range.1 c,by omega⟩
theorem Uv(a:Ag p):cnt (fun i=>¬An (p.s i)/\¬Has p.hn p.h i) p.n+roomN p.s p.n+p.hn=p.n:=by
 have g:=UB (fun i=>An (p.s i)\/Has p.hn p.h i) p.n;have b:cnt (fun i=>An (p.s i)\/Has p.hn p.h i) p.n=cnt (fun i=>An (p.s i)) p.n+cnt (fun i=>Has p.hn p.h i) p.n:=NR (fun i hi c=>by
  rintro⟨j,d,e⟩;have:=(a.2.2 j d).2.2.1;rw[e]at this;simp only[Int.toNat_natCast]at this;exact this c)
 rw[zFB a,<-Uw]at b;have k:cnt (fun i=>¬(An (p.s i)\/Has p.hn p.h i)) p.n=cnt (fun i=>¬An (p.s i)/\¬Has p.hn p.h i) p.n:=J5 (fun i _=>not_or);omega
def UE(W:A5):Prop:=∀i,i<W.pool.n->((∃m,m<memN W/\∃b,((i:Int),b)∈treeM W (AB W m))↔(¬An (W.pool.s i)/\¬Has W.pool.hn W.pool.h i))
def Im(W:A5):Prop:=∀i,i<memN W->∀j,j<i->∀x,x∈D5 W (AB W i)->∀y,y∈D5 W (AB W j)->x.1≠y.1
def Au(W:A5):Nat->List (Int×Int)
 | 0=>[]
 | k+1=>Au W k ++ CO W (AB W k)
def M2(W:A5):Prop:=(Au W (memN W)).Nodup/\(Au W (memN W)).length+roomN W.pool.s W.pool.n+W.pool.hn=W.pool.n
theorem MR{W:A5}{x:Int×Int}:∀{k:Nat},x∈Au W k↔∃i,i<k/\x∈CO W (AB W i)
 | 0=>by simp[Au]
 | k+1=>by
  unfold Au;rw[List.mem_append,MR];constructor
  ·rintro(⟨i,hi,h⟩ | h)
   ·exact⟨i,by omega,h⟩
   ·exact⟨k,by omega,h⟩
  ·rintro⟨i,hi,h⟩;by_cases e:i=k
   ·subst e;exact Or.inr h
   ·exact Or.inl ⟨i,by omega,h⟩
theorem Yz{W:A5}:∀{k:Nat},(∀i,i<k->(CO W (AB W i)).Nodup)->((Au W k).Nodup↔∀i,i<k->∀j,j<i->∀x,x∈CO W (AB W i)->x∉CO W (AB W j))
 | 0,_=>⟨fun _ i hi=>absurd hi (Nat.not_lt_zero _),fun _=>List.nodup_nil⟩
 | k+1,hy=>by
  unfold Au;rw[List.nodup_append,Yz (fun i hi=>hy i (by omega))];constructor
  ·rintro⟨g,m,l⟩ i hi j d x a b;by_cases e:i=k
   ·subst e;exact l x (MR.2 ⟨j,d,b⟩) x a rfl
   ·exact g i (by omega) j d x a b
  ·intro h;refine⟨fun i hi=>h i (by omega),hy k (by omega),fun x a y c e=>?_⟩;subst e;obtain⟨i,hi,a⟩:=MR.1 a;exact h k (by omega) i hi x c a
theorem V3{W:A5}(h:Eg W){x:Int×Int}:∀(N:Nat) (k:Nat),k<W.pn->(W.A1 k).id<N->0<=(W.A1 k).id->(∀j,j<W.pn->0<=(W.A1 j).id)->x∈treeM W (AB W k)->∃i,i<memN W/\x∈D5 W (AB W i)
 | 0,k,hk,h1,h2,_,_=>by omega
 | N+1,k,hk,h1,h2,h0,hx=>by
  by_cases a:x∈oldM W (AB W k)
  ·have c:∃j,B5 W (AB W k).A6 j:=by
    refine Classical.byContradiction fun d=>?_
    have:AC W (AB W k).A6=Ap:=(by unfold AC;rw[dif_neg d]);unfold oldM at a;rw[this,AF,if_pos ⟨rfl,rfl⟩]at a;simp at a
   obtain⟨j,b⟩:=c;unfold oldM at a;rw[CM b]at a;have e:(AB W k).A6=(W.A1 k).A6:=(by rw[CU hk];rfl);have:=h.ids k hk;have:=b.2.1;exact V3 h N j b.1 (by omega) (h0 j b.1) h0 (by rw[CU b.1];exact a)
  ·exact⟨k,by unfold memN;omega,List.mem_filter.2 ⟨hx,by simpa using a⟩⟩
theorem zFR(h:Eg W)(c:∀j,j<W.pn->0<=(W.A1 j).id){x:Int×Int}{m:Nat}(g:m<memN W)(k:x∈treeM W (AB W m)):∃i,i<memN W/\x∈D5 W (AB W i):=by
 by_cases a:x∈oldM W (AB W m)
 ·have d:∃j,B5 W (AB W m).A6 j:=by
   refine Classical.byContradiction fun e=>?_
   have:AC W (AB W m).A6=Ap:=(by unfold AC;rw[dif_neg e]);unfold oldM at a;rw[this,AF,if_pos ⟨rfl,rfl⟩]at a;simp at a
  obtain⟨j,b⟩:=d;unfold oldM at a;rw[CM b]at a;have:=c j b.1;exact V3 h ((W.A1 j).id.toNat+1) j b.1 (by omega) (c j b.1) c (by rw[CU b.1];exact a)
 ·exact⟨m,g,List.mem_filter.2 ⟨k,by simpa using a⟩⟩
theorem Vs(h:Eg W)(U:∀j,j<W.pn->0<=(W.A1 j).id)(V:∀i,i<memN W->KU W (AB W i)):M2 W↔UE W/\Im W:=by
 have z:∀i,i<memN W->CO W (AB W i)=D5 W (AB W i):=fun i hi=>zEx (V i hi)
 have L:∀i,i<memN W->(CO W (AB W i)).Nodup:=fun i hi=>(Mo h.right (h.tree i hi)).filter _
 have u:∀i,i<memN W->∀x,x∈D5 W (AB W i)->x∈treeM W (AB W i):=fun i _ x c=>(List.mem_filter.1 c).1
 have q:∀i,i<memN W->∀x,x∈treeM W (AB W i)->BM W.pool x.1 x.2/\¬Has W.pool.hn W.pool.h x.1:=fun i hi x c=>⟨(Fs h.right (h.tree i hi) c).1,(Fs h.right (h.tree i hi) c).2.2⟩
 have p:∀x y:Int×Int,BM W.pool x.1 x.2->BM W.pool y.1 y.2->x.1=y.1->x=y:=fun x y c k e=>by
  have R:=c.2.2.2;have T:=k.2.2.2;rw[e]at R;exact Prod.ext e (R.symm.trans T)
 have H:(Au W (memN W)).Nodup↔Im W:=by
  rw[Yz L];unfold Im;constructor
  ·intro I i hi j J x c y k e;have O:=p x y (q i hi x (u i hi x c)).1 (q j (by omega) y (u j (by omega) y k)).1 e;subst O;exact I i hi j J x (by rw[z i hi];exact c) (by rw[z j (by omega)];exact k)
  ·intro I i hi j J x c N;exact I i hi j J x (by rw[<-z i hi];exact c) x (by rw[<-z j (by omega)];exact N) rfl
 have d:∀x,x∈Au W (memN W)↔∃m,m<memN W/\x∈treeM W (AB W m):=fun x=>by
  rw[MR];constructor
  ·rintro⟨i,hi,c⟩;rw[z i hi]at c;exact⟨i,hi,u i hi x c⟩
  ·rintro⟨m,l,c⟩;obtain⟨i,hi,c⟩:=zFR h U l c;exact⟨i,hi,by rw[z i hi];exact c⟩
 unfold M2;rw[H];constructor
 ·rintro⟨B,S⟩;refine⟨?_,B⟩;have g:=H.2 B;have hpL:∀x,x∈Au W (memN W)->BM W.pool x.1 x.2:=fun x c=>by
   obtain⟨m,l,c⟩:=(d x).1 c;exact(q m l x c).1
  have K:∀x,x∈(Au W (memN W)).map (fun x=>x.1.toNat)->x<W.pool.n:=by
   intro x c;obtain⟨y,k,rfl⟩:=List.mem_map.1 c;have:=hpL y k;have G:=this.2.1;have A:=this.2.2.1;omega
  have w:((Au W (memN W)).map (fun x=>x.1.toNat)).Nodup:=by
   unfold List.Nodup;rw[List.pairwise_map];refine List.Pairwise.imp_of_mem ?_ g;intro a b r t v e;have D:=hpL a r;have E:=hpL b t;have:=D.2.1;have:=E.2.1;exact v (p a b D E (by omega))
  have F:=O6 w K;rw[List.length_map]at F;have Y:=Uv h.right;have o:∀i,i<W.pool.n->(i∈(Au W (memN W)).map (fun x=>x.1.toNat)↔∃m,m<memN W/\∃b,((i:Int),b)∈treeM W (AB W m)):=by
   intro i hi;rw[List.mem_map];constructor
   ·rintro⟨x,c,e⟩;have:=(hpL x c).2.1;obtain⟨m,l,c⟩:=(d x).1 c;exact⟨m,l,x.2,by rw[show(i:Int)=x.1 by omega];exact c⟩
   ·rintro⟨m,l,b,c⟩;exact⟨(i,b),(d _).2 ⟨m,l,c⟩,by simp⟩
  have C:∀i,i<W.pool.n->i∈(Au W (memN W)).map (fun x=>x.1.toNat)->¬An (W.pool.s i)/\¬Has W.pool.hn W.pool.h i:=by
   intro i hi c;obtain⟨m,l,b,c⟩:=(o i hi).1 c;have:=q m l _ c;refine⟨fun X=>?_,this.2⟩;have G:=this.1.1;have A:=this.1.2.2.2;simp only[Int.toNat_natCast]at A;rw[X.1]at A;simp only at G A;omega
  have:=(RO C).1 (by rw[F];omega);intro i hi;rw[<-o i hi];exact this i hi
 ·rintro⟨M,B⟩;refine⟨B,?_⟩;have g:=H.2 B;have hpL:∀x,x∈Au W (memN W)->BM W.pool x.1 x.2:=fun x c=>by
   obtain⟨m,l,c⟩:=(d x).1 c;exact(q m l x c).1
  have K:∀x,x∈(Au W (memN W)).map (fun x=>x.1.toNat)->x<W.pool.n:=by
   intro x c;obtain⟨y,k,rfl⟩:=List.mem_map.1 c;have:=hpL y k;have G:=this.2.1;have A:=this.2.2.1;omega
  have w:((Au W (memN W)).map (fun x=>x.1.toNat)).Nodup:=by
   unfold List.Nodup;rw[List.pairwise_map];refine List.Pairwise.imp_of_mem ?_ g;intro a b r t v e;have D:=hpL a r;have E:=hpL b t;have:=D.2.1;have:=E.2.1;exact v (p a b D E (by omega))
  have F:=O6 w K;rw[List.length_map]at F;have Y:=Uv h.right;have o:∀i,i<W.pool.n->(i∈(Au W (memN W)).map (fun x=>x.1.toNat)↔∃m,m<memN W/\∃b,((i:Int),b)∈treeM W (AB W m)):=by
   intro i hi;rw[List.mem_map];constructor
   ·rintro⟨x,c,e⟩;have:=(hpL x c).2.1;obtain⟨m,l,c⟩:=(d x).1 c;exact⟨m,l,x.2,by rw[show(i:Int)=x.1 by omega];exact c⟩
   ·rintro⟨m,l,b,c⟩;exact⟨(i,b),(d _).2 ⟨m,l,c⟩,by simp⟩
  have:=J5 (P:=fun i=>i∈(Au W (memN W)).map (fun x=>x.1.toNat)) (Q:=fun i=>¬An (W.pool.s i)/\¬Has W.pool.hn W.pool.h i) (n:=W.pool.n) (fun i hi=>(o i hi).trans (M i hi));omega
open Go.Maps
variable{w:World}{v:Value}
theorem BQ.atW{base:Nat}(h:BQ w base v l)(e:l.length<=1000):B4 w 0 w.heap.size v l.length (AO l) (AS l):=by
 obtain⟨b,c,d⟩:=h.own (by unfold maxLen;omega);exact c.at (fun a=>⟨Nat.zero_le _,(d a).2.2⟩)
def qo(now old:List (Int×Int))(t tm:Int)(n:Nat):Prop:=∀i,i<n->AS now i<=tm/\((AO now i,AS now i)∈old↔AS now i<=t)
theorem U8(a b:List (Int×Int))(t tm:Int):qo a b t tm a.length↔Gy a b t tm:=by
 constructor
 ·intro h x d;obtain⟨j,c,e⟩:=List.getElem_of_mem d;have:=h j c;unfold AO AS at this;rw[DF c,e]at this;exact this
 ·intro h i hi;have:=h _ (List.getElem_mem hi);unfold AO AS;rw[DF hi];exact this
def NL(W:A5):Prop:=∀k,k<W.pn->1<=(W.A1 k).id
def Dk(i:Nat)(c:Int):Prop:=(97<=c/\c<=122)\/(i≠0/\((48<=c/\c<=57)\/c=95))
def BK(s:ByteArray):Prop:=1<=s.size/\s.size<=20/\∀j,(h:j<s.size)->Dk j (s[j].toNat:Int)
variable{s:ByteArray}
theorem zIl(d:k<s.size)(a:∀j,(h:j<k)->(b:j<s.size)->Dk j (s[j].toNat:Int))(c:Dk k (s[k].toNat:Int)) :
 ∃m:Nat,m<=s.size/\Value.int .i64 ((k:Int)+1) = .int .i64 (m:Int)/\∀j,(h:j<m)->(b:j<s.size)->Dk j (s[j].toNat:Int):=by
 refine⟨k+1,by omega,by simp,fun j h b=>?_⟩;by_cases e:j=k
 ·subst e;exact c
 ·exact a j (by omega) b
theorem zIk(c:0<s.size)(a:Dk 0 (s[0].toNat:Int)) :
 ∃m:Nat,m<=s.size/\Value.int .i64 1 = .int .i64 (m:Int)/\∀j,(h:j<m)->(b:j<s.size)->Dk j (s[j].toNat:Int):=by
 refine⟨1,by omega,by simp,fun j h b=>?_⟩;obtain rfl:j=0:=by omega
 exact a
theorem Rh(s:ByteArray)(w:World)(hs:s.size<=maxLen) :
 Calls Tryz.prog 102 #[.string s] w fun e w'=>AG (BK s) e/\w'=w:=by
 unfold maxLen at hs;by_cases t:s.size<1
 ·have g:(s.size:Int)<1:=(by omega);go_enter Tryz.func102,Tryz.ntmps102;go_wp2;go_ret;exact⟨⟨false,rfl,by simp[BK];omega⟩,rfl⟩
 by_cases u:20<s.size
 ·have n:(20:Int)<(s.size:Int):=(by omega);have g:¬(s.size:Int)<1:=(by omega);go_enter Tryz.func102,Tryz.ntmps102;go_wp2;go_ret;exact⟨⟨false,rfl,by simp[BK];omega⟩,rfl⟩
 have g:¬(s.size:Int)<1:=by omega
 have n:¬(20:Int)<(s.size:Int):=by omega
 have q:0<s.size:=by omega
 by_cases a:97<=(s[0].toNat:Int)/\(s[0].toNat:Int)<=122
 ·obtain⟨m,o⟩:=a;go_enter Tryz.func102,Tryz.ntmps102;go_wp2
  go_loop [20] (fun i=>∃k:Nat,k<=s.size/\i = .int .i64 k/\∀j,(h:j<k)->(r:j<s.size)->Dk j (s[j].toNat:Int)) (fun i=>s.size - (intOf i).toNat)
  case atStart=>exact⟨0,Nat.zero_le _,rfl,fun j h=>absurd h (Nat.not_lt_zero _)⟩
  case round=>
   obtain⟨k,v,rfl,c⟩:=hrel;have b:Hid (∀j,(h:j<k)->(r:j<s.size)->Dk j (s[j].toNat:Int)):=c;clear c;by_cases d:k<s.size
   ·by_cases p:k=0
    all_goals try subst p
    all_goals go_wp2
    all_goals try (go_ret;refine⟨⟨false,rfl,?_⟩,rfl⟩;simp only[Bool.false_eq_true,false_iff];intro h;have l:=h.2.2 _ d;unfold Dk at l;first | omega | grind)
    all_goals
     go_round
     case measure=>simp[intOf];omega
     case rel=>first | exact zIk d (by unfold Dk;first | omega | grind) | exact zIl d b.out (by unfold Dk;first | omega | grind)
   ·go_wp2;go_ret;refine⟨⟨true,rfl,?_⟩,rfl⟩;simp only[true_iff];exact⟨by omega,by omega,fun j h=>b.out j (by omega) h⟩
 ·by_cases m:97<=(s[0].toNat:Int)
  ·have o:¬(s[0].toNat:Int)<=122:=fun h=>a ⟨m,h⟩
   clear a;go_enter Tryz.func102,Tryz.ntmps102;go_wp2;go_ret;refine⟨⟨false,rfl,?_⟩,rfl⟩;simp only[Bool.false_eq_true,false_iff];intro h;have l:=h.2.2 _ q;unfold Dk at l;omega
  ·clear a;go_enter Tryz.func102,Tryz.ntmps102;go_wp2;go_ret;refine⟨⟨false,rfl,?_⟩,rfl⟩;simp only[Bool.false_eq_true,false_iff];intro h;have l:=h.2.2 _ q;unfold Dk at l;omega
def BF(a b:ByteArray):Prop:=Op.bytesLess a.toList b.toList=true
theorem QY:∀x y:List UInt8,Op.bytesLess x y=true\/x=y\/Op.bytesLess y x=true
 | [],[]=>Or.inr (Or.inl rfl)
 | [],b :: y=>Or.inl (by simp[Op.bytesLess])
 | a :: x,[]=>Or.inr (Or.inr (by simp[Op.bytesLess]))
 | a :: x,b :: y=>by
  simp only[Op.bytesLess,Bool.or_eq_true,decide_eq_true_eq,Bool.and_eq_true,beq_iff_eq,List.cons.injEq];by_cases h:a=b
  ·subst h;rcases QY x y with h | h | h
   ·exact Or.inl (Or.inr ⟨rfl,h⟩)
   ·exact Or.inr (Or.inl ⟨rfl,h⟩)
   ·exact Or.inr (Or.inr (Or.inr ⟨rfl,h⟩))
  ·have:a<b\/b<a:=by
    have c:a.toNat≠b.toNat:=fun e=>h (UInt8.toNat_inj.1 e)
    rw[UInt8.lt_iff_toNat_lt,UInt8.lt_iff_toNat_lt];omega
   rcases this with h | h
   ·exact Or.inl (Or.inl h)
   ·exact Or.inr (Or.inr (Or.inl h))
theorem OB:∀x:List UInt8,Op.bytesLess x x=false
 | []=>rfl
 | a :: x=>by simp[Op.bytesLess,OB x]
theorem VZ:∀x y:List UInt8,Op.bytesLess x y=true->Op.bytesLess y x=false
 | [],[],h=>by simp[Op.bytesLess]at h
 | [],b :: y,_=>by simp[Op.bytesLess]
 | a :: x,[],h=>by simp[Op.bytesLess]at h
 | a :: x,b :: y,h=>by
  simp only[Op.bytesLess,Bool.or_eq_true,decide_eq_true_eq,Bool.and_eq_true,beq_iff_eq]at h;rw[<-Bool.not_eq_true];simp only[Op.bytesLess,Bool.or_eq_true,decide_eq_true_eq,Bool.and_eq_true,beq_iff_eq,UInt8.lt_iff_toNat_lt]at h ⊢;rintro(c | ⟨c,d⟩)
  ·rcases h with h | ⟨h,_⟩
   ·omega
   ·subst h;omega
  ·subst c;rcases h with h | ⟨_,h⟩
   ·omega
   ·rw[VZ x y h]at d;exact absurd d (by simp)
variable{a b:ByteArray}
theorem G9(h:a.toList=b.toList):a=b:=by
 rw[Go.ByteArray.toList_eq,Go.ByteArray.toList_eq]at h;cases a;cases b;simp only[ByteArray.mk.injEq]at *;exact Array.toList_inj.1 h
theorem Td(a b:ByteArray):(Op.bytesLess a.toList b.toList || a.toList == b.toList)=false↔BF b a:=by
 unfold BF;rw[Bool.or_eq_false_iff,beq_eq_false_iff_ne];constructor
 ·rintro⟨c,d⟩;rcases QY a.toList b.toList with h | h | h
  ·rw[c]at h;exact absurd h (by simp)
  ·exact absurd h d
  ·exact h
 ·intro h;refine⟨VZ _ _ h,fun e=>?_⟩;rw[e,OB]at h;exact absurd h (by simp)
theorem Fr(h:BF a b):a≠b:=fun e=>by
 subst e;unfold BF at h;rw[OB]at h;exact absurd h (by simp)
theorem QZ:∀x y z:List UInt8,Op.bytesLess x y=true->Op.bytesLess y z=true->Op.bytesLess x z=true
 | _,[],_,h,_=>by cases ‹List UInt8›<;>simp[Op.bytesLess]at h
 | [],_ :: _,[],_,h=>by simp[Op.bytesLess]at h
 | [],_ :: _,_ :: _,_,_=>by simp[Op.bytesLess]
 | _ :: _,_ :: _,[],_,h=>by simp[Op.bytesLess]at h
 | a :: x,b :: y,c :: z,h,d=>by
  simp only[Op.bytesLess,Bool.or_eq_true,decide_eq_true_eq,Bool.and_eq_true,beq_iff_eq,UInt8.lt_iff_toNat_lt]at h d ⊢;rcases h with h | ⟨h,g⟩
  ·rcases d with d | ⟨d,e⟩
   ·left;omega
   ·subst d;left;exact h
  ·subst h;rcases d with d | ⟨d,e⟩
   ·left;exact d
   ·subst d;right;exact⟨rfl,QZ x y z g e⟩
theorem K8{c:ByteArray}(h:BF a b)(d:BF b c):BF a c:=QZ _ _ _ h d
def Ba(W:A5)(x:Int):Prop:=∃k,k<W.pn/\(W.A1 k).id=x
def B3(W:A5)(x:ByteArray):Prop:=∃k,k<W.sn/\(W.A3 k).name=x
def HU(W:A5)(i:Nat):Prop:=BK (W.A3 i).name/\(0<i->BF (W.A3 (i - 1)).name (W.A3 i).name)/\((W.A3 i).A6≠0->Ba W (W.A3 i).A6)/\((W.A3 i).origin≠0->Ba W (W.A3 i).origin)
def SF(W:A5)(i:Nat):Prop:=1<=(W.A1 i).id/\(W.A1 i).id<W.next/\1<=(W.A1 i).time/\(W.A1 i).time<W.time/\BK (W.A1 i).name/\B3 W (W.A1 i).set
def NE(W:A5)(i:Nat):Prop:=(0<i->(W.A1 (i - 1)).id<(W.A1 i).id/\(W.A1 (i - 1)).time<(W.A1 i).time)/\((W.A1 i).A6≠0->(W.A1 i).A6<(W.A1 i).id/\Ba W (W.A1 i).A6)
def NF(W:A5)(i j:Nat):Prop:=∀k,k<j->¬((W.A1 k).set=(W.A1 i).set/\(W.A1 k).name=(W.A1 i).name)
def Ll(W:A5)(i:Nat):Prop:=SF W i/\NE W i/\NF W i i
def Cm(W:A5):Prop:=Kc W.time 1 900000/\Kc W.next 1 900000/\W.sn<=8/\W.pn<=20/\(∀i,i<W.sn->HU W i)/\∀i,i<W.pn->Ll W i
theorem YO{r:Int}(h:Pv W.pn (fun k=>(W.A1 k).id=x) r):(Ba W x/\0<=r/\r<W.pn/\(W.A1 r.toNat).id=x)\/(¬Ba W x/\r = -1):=by
 rcases h with⟨k,a,e,_,rfl⟩ | ⟨hn,rfl⟩
 ·exact Or.inl ⟨⟨k,a,e⟩,by omega,by omega,by simpa using e⟩
 ·exact Or.inr ⟨fun ⟨k,a,e⟩=>hn k a e,rfl⟩
theorem zDd{x:ByteArray}{r:Int}(h:Pv W.sn (fun k=>(W.A3 k).name=x) r):(B3 W x/\0<=r)\/(¬B3 W x/\r = -1):=by
 rcases h with⟨k,a,e,_,rfl⟩ | ⟨hn,rfl⟩
 ·exact Or.inl ⟨⟨k,a,e⟩,by omega⟩
 ·exact Or.inr ⟨fun ⟨k,a,e⟩=>hn k a e,rfl⟩
def Bu(w:World)(b:Nat)(v0 v1 v2 v3 v4 v5 v6 v7:Value):Prop:=(AJ w b 0 v0/\AJ w b 1 v1/\AJ w b 2 v2/\AJ w b 3 v3)/\(AJ w b 4 v4/\AJ w b 5 v5/\AJ w b 6 v6/\AJ w b 7 v7)
variable{w':World}
theorem Bu.A0{b:Nat}{v0 v1 v2 v3 v4 v5 v6 v7:Value}(h:Bu w b v0 v1 v2 v3 v4 v5 v6 v7)(t:Below w.heap.size w w'):Bu w' b v0 v1 v2 v3 v4 v5 v6 v7:=
 ⟨⟨h.1.1.A0 t,h.1.2.1.A0 t,h.1.2.2.1.A0 t,h.1.2.2.2.A0 t⟩,h.2.1.A0 t,h.2.2.1.A0 t,h.2.2.2.1.A0 t,h.2.2.2.2.A0 t⟩
theorem Bu.new(w:World)(b v1 c d e g h i:Value)(t:TypeId):Bu (w.alloc (.cells #[b,v1,c,d,e,g,h,i] t)) w.heap.size b v1 c d e g h i:=by
 have a:(w.alloc (.cells #[b,v1,c,d,e,g,h,i] t)).heap[w.heap.size]?=some (.cells #[b,v1,c,d,e,g,h,i] t):=heap_alloc_new _ _;exact⟨⟨B2 a rfl,B2 a rfl,B2 a rfl,B2 a rfl⟩,B2 a rfl,B2 a rfl,B2 a rfl,B2 a rfl⟩
open Classical in
def ownN(W:A5)(name:ByteArray):Nat->Nat
 | 0=>0
 | k+1=>ownN W name k+(if (W.A1 k).set=name then 1 else 0)
variable{name:ByteArray}
theorem Np(h:(W.A1 k).set=name):ownN W name (k+1)=ownN W name k+1:=by simp[ownN,h]
theorem Lt(h:¬(W.A1 k).set=name):ownN W name (k+1)=ownN W name k:=by simp[ownN,h]
theorem Na(W:A5)(name:ByteArray):∀k,ownN W name k<=k
 | 0=>Nat.le_refl _
 | k+1=>by
  have:=Na W name k;by_cases h:(W.A1 k).set=name
  ·rw[Np h];omega
  ·rw[Lt h];omega
inductive Steps (W:A5) (name:ByteArray) (start:Int):Nat->Int->Prop
 | zero:Steps W name start 0 start
 | next {n:Nat} {x:Int} {k:Nat}:Steps W name start n x->B5 W x k->(W.A1 k).set=name->Steps W name start (n+1) (W.A1 k).A6
def Ev(W:A5)(name:ByteArray)(x:Int):Prop:=∃k,B5 W x k/\(W.A1 k).set=name
def Fd(W:A5)(name:ByteArray)(start origin:Int):Prop:=∃n e,Steps W name start n e/\¬Ev W name e/\n=ownN W name W.pn/\e=origin
theorem Steps.det{W:A5}{name:ByteArray}{start:Int}:∀{n:Nat} {x y:Int},Steps W name start n x->Steps W name start n y->x=y
 | 0,_,_,.zero,.zero=>rfl
 | n+1,_,_,.next h hk _,.next h' hk' _=>by
  have e:=Steps.det h h';subst e;rw[B5.uniq hk hk']
theorem Steps.less{W:A5}{name:ByteArray}{start:Int}:∀{n m:Nat} {x:Int},Steps W name start m x->n<m->∃y,Steps W name start n y/\Ev W name y
 | n,0,_,_,h=>absurd h (Nat.not_lt_zero _)
 | n,m+1,_,.next (x:=x) h hk hs,hl=>by
  by_cases e:n=m
  ·subst e;exact⟨x,h,_,hk,hs⟩
  ·exact Steps.less h (by omega)
variable{n:Nat}
theorem Steps.end{start:Int}{m:Nat}(h:Steps W name start n x)(g:¬Ev W name x)(b:Steps W name start m y)(i:¬Ev W name y):n=m/\x=y:=by
 have e:n=m:=by
  rcases Nat.lt_trichotomy n m with a | a | a
  ·obtain⟨z,d,c⟩:=b.less a;rw[h.det d]at g;exact absurd c g
  ·exact a
  ·obtain⟨z,d,c⟩:=h.less a;rw[b.det d]at i;exact absurd c i
 subst e;exact⟨rfl,h.det b⟩
theorem VF{start origin:Int}(h:Steps W name start n x)(c:¬Ev W name x):Fd W name start origin↔n=ownN W name W.pn/\x=origin:=by
 constructor
 ·rintro⟨m,y,hs,d,a,b⟩;obtain⟨rfl,rfl⟩:=h.end c hs d;exact⟨a,b⟩
 ·rintro⟨a,b⟩;exact⟨n,x,h,c,a,b⟩
theorem Ba.no(h:Ba W x):∃k,B5 W x k:=Qw (Nat.le_refl _) h
structure EQ (W:A5):Prop where
 ids:∀k,k<W.pn->1<=(W.A1 k).id/\(W.A1 k).id<900000
 A6:∀k,k<W.pn->(W.A1 k).A6=0\/Ba W (W.A1 k).A6
 less:∀k,k<W.pn->(W.A1 k).A6<(W.A1 k).id
 A3:∀k,k<W.sn->(W.A3 k).A6=0\/Ba W (W.A3 k).A6
 AX:∀k,k<W.sn->(W.A3 k).name.toList.isEmpty=false
theorem EQ.pos(h:EQ W):NL W:=fun k a=>(h.ids k a).1
theorem Ba.range(h:EQ W)(b:Ba W x):1<=x/\x<900000:=by
 obtain⟨k,a,rfl⟩:=b;exact h.ids k a
theorem Ru(h:BK s):s.toList.isEmpty=false:=by
 have:=h.1;rw[Go.ByteArray.toList_eq];cases s with
 | mk d=>
  cases hd:d.toList with
  | nil=>
   have b:d.size=0:=(by rw[<-Array.length_toList,hd];rfl);have c:1<=d.size:=this;omega
  | cons a l=>simp
theorem Cm.DG(h:Cm W):EQ W where
 ids:=fun k a=>⟨(h.2.2.2.2.2 k a).1.1,by have:=(h.2.2.2.2.2 k a).1.2.1;have:=h.2.1.2;omega⟩
 A6:=fun k a=>by
  by_cases e:(W.A1 k).A6=0
  ·exact Or.inl e
  ·exact Or.inr ((h.2.2.2.2.2 k a).2.1.2 e).2
 less:=fun k a=>by
  by_cases e:(W.A1 k).A6=0
  ·have:=(h.2.2.2.2.2 k a).1.1;omega
  ·exact((h.2.2.2.2.2 k a).2.1.2 e).1
 A3:=fun k a=>by
  by_cases e:(W.A3 k).A6=0
  ·exact Or.inl e
  ·exact Or.inr ((h.2.2.2.2.1 k a).2.2.1 e)
 AX:=fun k a=>Ru (h.2.2.2.2.1 k a).1
structure Eh (W:A5) (name:ByteArray) (start:Int) (n:Nat) (x:Int):Prop where
 steps:Steps W name start n x
 there:x=0\/Ba W x
 least:0<=x
 sum:(n:Int)+x<=900000
theorem Eh.start(h:EQ W)(name:ByteArray)(a:x=0\/Ba W x):Eh W name x 0 x where
 steps:=.zero
 there:=a
 least:=by rcases a with rfl | a;exact Int.le_refl _;have:=a.range h;omega
 sum:=by rcases a with rfl | a;decide;have:=a.range h;omega
theorem Eh.next(h:EQ W){start:Int}(b:Eh W name start n x)(a:B5 W x k)(hs:(W.A1 k).set=name):Eh W name start (n+1) (W.A1 k).A6 where
 steps:=b.steps.next a hs
 there:=h.A6 k a.1
 least:=by rcases h.A6 k a.1 with e | e;omega;have:=e.range h;omega
 sum:=by have c:=h.less k a.1;have d:=b.sum;have g:=a.2.1;omega
theorem ZB(h:EQ W)(name:ByteArray):¬Ev W name 0:=fun ⟨k,hk,_⟩=>by
 have:=(h.ids k hk.1).1;have:=hk.2.1;omega
theorem Xw(a:B5 W x k)(hs:¬(W.A1 k).set=name):¬Ev W name x:=fun ⟨j,hj,e⟩=>hs (by rw[B5.uniq a hj];exact e)
variable{m:List (Int×Int)}
theorem Q9(a:k<l.length)(h:(AO l k,AS l k)∈m):BU (l.take (k+1)) m=BU (l.take k) m:=by
 unfold AO AS at h;rw[DF a]at h;unfold BU;rw[List.take_succ_eq_append_getElem a,List.filter_append,List.filter_cons];simp only[List.filter_nil];rw[if_neg (by simp;exact h),List.append_nil]
theorem QV(a:k<l.length)(h:(AO l k,AS l k)∉m):BU (l.take (k+1)) m=BU (l.take k) m ++ [(AO l k,AS l k)]:=by
 unfold AO AS at h ⊢;rw[DF a]at h ⊢;unfold BU;rw[List.take_succ_eq_append_getElem a,List.filter_append,List.filter_cons];simp only[List.filter_nil];rw[if_pos (by simp;exact h)]
theorem VD(l m:List (Int×Int))(k:Nat):(BU (l.take k) m).length<=k:=by
 unfold BU;exact Nat.le_trans (List.length_filter_le _ _) (by rw[List.length_take];omega)
def Fb(W:A5)(i:Nat):Prop:=Gy (treeM W (AB W i)) (oldM W (AB W i)) (AC W (AB W i).A6).time (AB W i).time
theorem Eg.snap(h:Eg W)(a:k<W.pn):As W.pool (W.A1 k).rs (W.A1 k).rb:=by
 have:=h.tree k (by unfold memN;omega);rw[CU a]at this;exact this
theorem Eg.set(h:Eg W)(a:k<W.sn):As W.pool (W.A3 k).rs (W.A3 k).rb:=by
 have:=h.tree (W.pn+k) (by unfold memN;omega);rw[DN]at this;exact this
def Ka(W:A5)(s:Nat):Prop:=∃m,m<memN W/\∃b,((s:Int),b)∈treeM W (AB W m)
def Ct(W:A5)(i:Nat):Int×Int:=if i<W.sn then((W.A3 i).rs,(W.A3 i).rb)else((W.A1 (i - W.sn)).rs,(W.A1 (i - W.sn)).rb)
def FE(W:A5)(n:Nat):List (Int×Int):=(List.range n).map (Ct W)
theorem Od(W:A5)(n:Nat):(FE W n).length=n:=by simp[FE]
theorem Yn(W:A5)(n:Nat):FE W (n+1)=FE W n ++ [Ct W n]:=by simp[FE,List.range_succ]
theorem ON(h:i<W.sn):Ct W i=((W.A3 i).rs,(W.A3 i).rb):=if_pos h
theorem Oc(W:A5)(i:Nat):Ct W (W.sn+i)=((W.A1 i).rs,(W.A1 i).rb):=by
 unfold Ct;rw[if_neg (by omega),show W.sn+i - W.sn=i by omega]
theorem XP(h:i<n):AO (FE W n) i=(Ct W i).1/\AS (FE W n) i=(Ct W i).2:=by
 unfold AO AS;rw[DF (by rw[Od];exact h)];simp[FE]
theorem zGW(a:Eg W)(hi:i<W.sn+W.pn):As W.pool (Ct W i).1 (Ct W i).2:=by
 by_cases h:i<W.sn
 ·rw[ON h];exact a.set h
 ·have:=Oc W (i - W.sn);rw[show W.sn+(i - W.sn)=i by omega]at this;rw[this];exact a.snap (by omega)
variable{s:Nat}
theorem zAx:Ka W s↔∃i,i<W.sn+W.pn/\∃b,((s:Int),b)∈AF W.pool (Ct W i).1 (Ct W i).2:=by
 unfold Ka memN treeM;constructor
 ·rintro⟨m,c,b,h⟩;by_cases a:m<W.pn
  ·rw[CU a]at h;exact⟨W.sn+m,by omega,b,by rw[Oc];exact h⟩
  ·have e:=DN W (m - W.pn);rw[show W.pn+(m - W.pn)=m by omega]at e;rw[e]at h;exact⟨m - W.pn,by omega,b,by rw[ON (by omega)];exact h⟩
 ·rintro⟨i,hi,b,h⟩;by_cases hs:i<W.sn
  ·rw[ON hs]at h;exact⟨W.pn+i,by omega,b,by rw[DN];exact h⟩
  ·have e:=Oc W (i - W.sn);rw[show W.sn+(i - W.sn)=i by omega]at e;rw[e]at h;exact⟨i - W.sn,by omega,b,by rw[CU (by omega)];exact h⟩
def qs(W:A5)(k:Nat)(l:List (Int×Int))(j s:Nat):Prop:=(∃i,i<k/\∃b,((s:Int),b)∈AF W.pool (Ct W i).1 (Ct W i).2)\/∃q,q<j/\AO l q=(s:Int)
def Ln(W:A5)(k:Nat)(l:List (Int×Int))(j:Nat)(f:Nat->Bool):Prop:=∀s,f s=true↔qs W k l j s
variable{j:Nat}{f:Nat->Bool}
theorem zq(h:Ln W k l j f)(hs:AO l j=(s:Int)):Ln W k l (j+1) (fun i=>if i=s then true else f i):=by
 intro i;show(if i=s then true else f i)=true↔_;by_cases e:i=s
 ·subst e;rw[if_pos rfl];exact⟨fun _=>Or.inr ⟨j,by omega,hs⟩,fun _=>rfl⟩
 ·rw[if_neg e,h i];constructor
  ·rintro(h | ⟨q,a,h⟩)
   ·exact Or.inl h
   ·exact Or.inr ⟨q,by omega,h⟩
  ·rintro(h | ⟨q,a,h⟩)
   ·exact Or.inl h
   ·by_cases eq:q=j
    ·subst eq;exact absurd (by omega) e
    ·exact Or.inr ⟨q,by omega,h⟩
theorem zr(h:Ln W k l l.length f)(d:l=AF W.pool (Ct W k).1 (Ct W k).2):Ln W (k+1) [] 0 f:=by
 intro s;rw[h s];constructor
 ·rintro(⟨i,hi,h⟩ | ⟨q,a,e⟩)
  ·exact Or.inl ⟨i,by omega,h⟩
  ·refine Or.inl ⟨k,by omega,(l[q]).2,?_⟩;unfold AO at e;rw[DF a]at e;rw[<-d,<-e];exact List.getElem_mem a
 ·rintro(⟨i,hi,b,c⟩ | ⟨q,a,e⟩)
  ·by_cases e:i=k
   ·subst e;rw[<-d]at c;obtain⟨q,a,e⟩:=List.getElem_of_mem c;exact Or.inr ⟨q,a,by unfold AO;rw[DF a,e]⟩
   ·exact Or.inl ⟨i,by omega,b,c⟩
  ·omega
theorem UR(b:Ag p)(c:As p rs rb)(a:j<(AF p rs rb).length):∃s:Nat,AO (AF p rs rb) j=(s:Int)/\s<p.n:=by
 unfold AO;rw[DF a];have:=(Fs b c (List.getElem_mem a)).1;obtain⟨_,d,e,_⟩:=this;exact⟨((AF p rs rb)[j]).1.toNat,by omega,by omega⟩
theorem Aj.grown{w1:World}{b:Nat}{v0 v1 v2 v3 v4 v5:Value}{row:Option Nat}(h:Aj w b v0 v1 v2 v3 v4 v5)(a:w.grownBy w1 row)(c:∀q,row=some q->b≠q):Aj w1 b v0 v1 v2 v3 v4 v5:=by
 have g:b<w.heap.size:=h.1.lt;refine h.AH (S:=fun k=>row=some k) ⟨a.os,a.tape,a.output,a.size,fun k d hs=>a.block k d (fun e=>hs e.symm)⟩ (fun e=>c b e rfl)
def QA(W:A5)(k:Nat):Prop:=∀i,i<k->∀j,j<i->∀x,x∈D5 W (AB W i)->∀y,y∈D5 W (AB W j)->x.1≠y.1
def Kx(W:A5)(k:Nat)(now old:List (Int×Int))(j:Nat):Prop:=∀q,q<j->(AO now q,AS now q)∉old->∀i,i<k->∀y,y∈D5 W (AB W i)->AO now q≠y.1
def qt(W:A5)(k:Nat)(now old:List (Int×Int))(j s:Nat):Prop:=(∃i,i<k/\∃b,((s:Int),b)∈D5 W (AB W i))\/∃q,q<j/\AO now q=(s:Int)/\(AO now q,AS now q)∉old
def Fe(W:A5)(k:Nat)(now old:List (Int×Int))(j:Nat)(f:Nat->Bool):Prop:=∀s,f s=true↔qt W k now old j s
variable{a b:List (Int×Int)}
theorem zAY(h:QA W k)(hn:a=treeM W (AB W k))(o:b=oldM W (AB W k))(p:Kx W k a b a.length):QA W (k+1):=by
 intro i hi j g x m y n;by_cases e:i=k
 ·subst e;obtain⟨c,d⟩:=List.mem_filter.1 m;rw[<-hn]at c;rw[<-o]at d;obtain⟨q,l,e⟩:=List.getElem_of_mem c;have:=p q l;unfold AO AS at this;rw[DF l,e]at this;exact this (by simpa using d) j g y n
 ·exact h i (by omega) j g x m y n
theorem zEb(h:Fe W k a b j f)(c:(AO a j,AS a j)∈b):Fe W k a b (j+1) f:=by
 intro s;rw[h s];constructor
 ·rintro(h | ⟨q,i,h⟩)
  ·exact Or.inl h
  ·exact Or.inr ⟨q,by omega,h⟩
 ·rintro(h | ⟨q,i,g,d⟩)
  ·exact Or.inl h
  ·by_cases e:q=j
   ·subst e;exact absurd c d
   ·exact Or.inr ⟨q,by omega,g,d⟩
theorem zEa(h:Fe W k a b j f)(hs:AO a j=(s:Int))(c:(AO a j,AS a j)∉b):Fe W k a b (j+1) (fun i=>if i=s then true else f i):=by
 intro i;show(if i=s then true else f i)=true↔_;by_cases e:i=s
 ·subst e;rw[if_pos rfl];exact⟨fun _=>Or.inr ⟨j,by omega,hs,c⟩,fun _=>rfl⟩
 ·rw[if_neg e,h i];constructor
  ·rintro(h | ⟨q,g,h⟩)
   ·exact Or.inl h
   ·exact Or.inr ⟨q,by omega,h⟩
  ·rintro(h | ⟨q,g,h,d⟩)
   ·exact Or.inl h
   ·by_cases eq:q=j
    ·subst eq;exact absurd (by omega) e
    ·exact Or.inr ⟨q,by omega,h,d⟩
theorem zGd(h:Kx W k a b j)(c:(AO a j,AS a j)∈b):Kx W k a b (j+1):=by
 intro q d;by_cases e:q=j
 ·subst e;exact fun h=>absurd c h
 ·exact h q (by omega)
theorem zGZ(h:Kx W k a b j)(d:Fe W k a b j f)(hs:AO a j=(s:Int))(g:f s=false):Kx W k a b (j+1):=by
 intro q m;by_cases e:q=j
 ·subst e;intro _ i hi y l c;have:f s=true:=(d s).2 (Or.inl ⟨i,hi,y.2,by rw[<-hs,c];exact l⟩);rw[g]at this;exact absurd this (by simp)
 ·exact h q (by omega)
theorem zEd{g:List (Int×Int)}(h:Fe W k a g a.length f)(hn:a=treeM W (AB W k))(m:g=oldM W (AB W k)):Fe W (k+1) [] [] 0 f:=by
 intro s;rw[h s];constructor
 ·rintro(⟨i,hi,h⟩ | ⟨q,d,e,c⟩)
  ·exact Or.inl ⟨i,by omega,h⟩
  ·refine Or.inl ⟨k,by omega,(a[q]).2,?_⟩;unfold AO AS at c;unfold AO at e;rw[DF d]at e c;refine List.mem_filter.2 ⟨?_,?_⟩
   ·rw[<-hn,<-e];exact List.getElem_mem d
   ·rw[<-m,<-e];simpa using c
 ·rintro(⟨i,hi,b,c⟩ | ⟨q,d,_⟩)
  ·by_cases e:i=k
   ·subst e;obtain⟨j,l⟩:=List.mem_filter.1 c;rw[<-hn]at j;rw[<-m]at l;obtain⟨q,d,e⟩:=List.getElem_of_mem j;refine Or.inr ⟨q,d,?_⟩;unfold AO AS;rw[DF d,e];exact⟨rfl,by simpa using l⟩
   ·exact Or.inl ⟨i,by omega,b,c⟩
  ·omega
theorem zA2(h:Fe W k [] [] 0 f)(a b:List (Int×Int)):Fe W k a b 0 f:=by
 intro s;rw[h s];constructor
 ·rintro(h | ⟨q,c,_⟩)
  ·exact Or.inl h
  ·omega
 ·rintro(h | ⟨q,c,_⟩)
  ·exact Or.inl h
  ·omega
theorem zA3{c:List (Int×Int)}(d:Eg W)(n:k<memN W)(hn:a=treeM W (AB W k))(v:c=oldM W (AB W k))(t:Fe W k a c j f)(m:j<a.length)(hs:AO a j=(s:Int))(g:(AO a j,AS a j)∉c)(u:f s=true):¬Im W:=by
 intro r;rcases(t s).1 u with⟨i,hi,b,h⟩ | ⟨q,w,e,y⟩
 ·refine r k n i hi (AO a j,AS a j) ?_ _ h hs;refine List.mem_filter.2 ⟨?_,by rw[<-v];simpa using g⟩;rw[<-hn];unfold AO AS;rw[DF m];exact List.getElem_mem m
 ·have o:=Oo d.right (l:=a) (fun x p=>by rw[hn]at p;exact(Fs d.right (d.tree k n) p).1) (by rw[hn];exact Mo d.right (d.tree k n)) (by rw[hn];have:=De W.pool (AB W k).rs (AB W k).rb;unfold treeM;omega);exact o.2.2 j m q w (by rw[e,hs])
def EP(W:A5)(i:Nat):Prop:=FH (AB W i).dn (AB W i).ds (AB W i).db (BU (oldM W (AB W i)) (treeM W (AB W i)))
structure Ak (W:A5):Prop where
 right:Ag W.pool
 AX:Cm W
 lines:∀i,i<W.sn->Fd W (W.A3 i).name (W.A3 i).A6 (W.A3 i).origin
 A1:∀i,i<W.pn->As W.pool (W.A1 i).rs (W.A1 i).rb
 A3:∀i,i<W.sn->As W.pool (W.A3 i).rs (W.A3 i).rb/\EP W (W.pn+i)
 dead:∀i,i<W.pn->EP W i
 reach:UE W
 born:∀i,i<memN W->Fb W i
 Bi:Im W
theorem Ld(h:∀k,k<W.pn->As W.pool (W.A1 k).rs (W.A1 k).rb)(x:Int):As W.pool (AC W x).rs (AC W x).rb:=by
 by_cases b:∃k,B5 W x k
 ·obtain⟨k,a⟩:=b;rw[CM a];exact h k a.1
 ·have:AC W x=Ap:=by
   unfold AC;rw[dif_neg b]
  rw[this];exact Or.inl ⟨rfl,rfl⟩
theorem Nu(g:Ag W.pool)(b:Cm W)(c:∀i,i<W.pn->As W.pool (W.A1 i).rs (W.A1 i).rb)(d:∀i,i<W.sn->As W.pool (W.A3 i).rs (W.A3 i).rb):Eg W where
 right:=g
 ids:=b.DG.less
 tree:=fun i hi=>by
  by_cases a:i<W.pn
  ·rw[CU a];exact c i a
  ·have e:=DN W (i - W.pn);rw[show W.pn+(i - W.pn)=i by omega]at e;rw[e];unfold memN at hi;exact d _ (by omega)
 time:=fun i hi=>by
  by_cases a:i<W.pn
  ·rw[CU a];have:1<=(W.A1 i).time:=(b.2.2.2.2.2 i a).1.2.2.1;show 0<=(W.A1 i).time;omega
  ·have e:=DN W (i - W.pn);rw[show W.pn+(i - W.pn)=i by omega]at e;rw[e];have:1<=W.time:=b.1.1;show 0<=W.time;omega
structure Ff (w:World) (bs o kb:Nat) (kv:Value) (s:AM):Prop where
 c0:AJ w bs o (.string s.name)
 c1:AJ w bs (o+1) (.int .i64 s.origin)
 c2:AJ w bs (o+2) (.int .i64 s.A6)
 c3:AJ w bs (o+3) (.int .i64 s.rs)
 c4:AJ w bs (o+4) (.int .i64 s.rb)
 c5:AJ w bs (o+5) kv
 dead:CI w kb kv s.dn s.ds s.db
 Bo:s.name.size<=maxLen
 Bi:0<s.dn->kb≠bs
variable{S:Nat->Prop}{bs o kb:Nat}{kv:Value}{s:AM}
theorem Ff.AH(h:Ff w bs o kb kv s)(t:AI S w w')(a:¬S bs)(b:0<s.dn->¬S kb):Ff w' bs o kb kv s:=
 ⟨h.c0.AH t a,h.c1.AH t a,h.c2.AH t a,h.c3.AH t a,h.c4.AH t a,h.c5.AH t a,h.dead.AH t b,h.Bo,h.Bi⟩
theorem Ff.A0(h:Ff w bs o kb kv s)(t:Below w.heap.size w w'):Ff w' bs o kb kv s:=
 h.AH (AI.Co (S:=fun _=>False) t) (fun h=>h) (fun _ h=>h)
variable{lo hi:Nat}
theorem Ff.cells(h:Ff w bs o kb kv s)(a:0<s.dn->lo<=kb/\kb<hi):I8 w bs o lo hi kv s:=
 ⟨h.c0.1,h.c1.1,h.c2.1,h.c3.1,h.c4.1,h.c5.1,h.dead.at a,h.Bo⟩
def DD(w:World)(bs:Nat)(kb:Nat->Nat)(kv:Nat->Value)(v:Value)(n:Nat)(f:Nat->AM):Prop:=
 n<=maxLen/\∃a cap,v = .slice a n cap/\n<=cap/\(0<n->∃off,a=some ⟨bs,off,none⟩/\∀i,i<n->Ff w bs (off+i*6) (kb i) (kv i) (f i))
def EN(bs:Nat)(kb:Nat->Nat)(n:Nat)(f:Nat->AM)(k:Nat):Prop:=(0<n/\k=bs)\/∃i,i<n/\0<(f i).dn/\k=kb i
def IE(kb:Nat->Nat)(n:Nat)(f:Nat->AM):Prop:=∀i j,i<n->j<n->i≠j->0<(f i).dn->0<(f j).dn->kb i≠kb j
variable{kb:Nat->Nat}{kv:Nat->Value}{f:Nat->AM}
theorem DD.AH(h:DD w bs kb kv v n f)(t:AI S w w')(hs:∀k,EN bs kb n f k->¬S k):DD w' bs kb kv v n f:=by
 obtain⟨c,a,cap,hv,b,g⟩:=h;refine⟨c,a,cap,hv,b,fun hn=>?_⟩;obtain⟨off,e,d⟩:=g hn;exact⟨off,e,fun i hi=>(d i hi).AH t (hs _ (Or.inl ⟨hn,rfl⟩)) (fun h=>hs _ (Or.inr ⟨i,hi,h,rfl⟩))⟩
theorem DD.A0(h:DD w bs kb kv v n f)(t:Below w.heap.size w w'):DD w' bs kb kv v n f:=
 h.AH (AI.Co (S:=fun _=>False) t) (fun _ _ h=>h)
theorem DD.at(h:DD w bs kb kv v n f)(c:∀k,EN bs kb n f k->lo<=k/\k<hi):EF w lo hi v n f:=by
 obtain⟨e,a,cap,hv,b,l⟩:=h;refine⟨e,a,cap,hv,b,fun hn=>?_⟩;obtain⟨off,j,g⟩:=l hn;have d:=c _ (Or.inl ⟨hn,rfl⟩);exact⟨bs,off,j,d.1,d.2,fun i hi=>⟨_,(g i hi).cells (fun h=>c _ (Or.inr ⟨i,hi,h,rfl⟩))⟩⟩
theorem V7:(Tryz.prog.info? 44).map (fun i=>(i.zero,i.size,i.bytes))=some (some (.agg #[.string ⟨#[]⟩,.int .i64 0,.int .i64 0,.int .i64 0,.int .i64 0,.slice none 0 0]),6,72):=by kernel_rfl
structure GY (w:World) (bs o kb:Nat) (kv:Value) (s:AL):Prop where
 c0:AJ w bs o (.int .i64 s.id)
 c1:AJ w bs (o+1) (.string s.name)
 c2:AJ w bs (o+2) (.string s.set)
 c3:AJ w bs (o+3) (.int .i64 s.A6)
 c4:AJ w bs (o+4) (.int .i64 s.time)
 c5:AJ w bs (o+5) (.int .i64 s.rs)
 c6:AJ w bs (o+6) (.int .i64 s.rb)
 c7:AJ w bs (o+7) kv
 dead:CI w kb kv s.dn s.ds s.db
 Bo:s.name.size<=maxLen/\s.set.size<=maxLen
 Bi:0<s.dn->kb≠bs
variable{kb:Nat}{kv:Value}{s:AL}
theorem GY.AH(h:GY w bs o kb kv s)(t:AI S w w')(a:¬S bs)(b:0<s.dn->¬S kb):GY w' bs o kb kv s:=
 ⟨h.c0.AH t a,h.c1.AH t a,h.c2.AH t a,h.c3.AH t a,h.c4.AH t a,h.c5.AH t a,h.c6.AH t a,h.c7.AH t a,h.dead.AH t b,h.Bo,h.Bi⟩
theorem GY.A0(h:GY w bs o kb kv s)(t:Below w.heap.size w w'):GY w' bs o kb kv s:=
 h.AH (AI.Co (S:=fun _=>False) t) (fun h=>h) (fun _ h=>h)
theorem GY.cells(h:GY w bs o kb kv s)(a:0<s.dn->lo<=kb/\kb<hi):IF w bs o lo hi kv s:=
 ⟨h.c0.1,h.c1.1,h.c2.1,h.c3.1,h.c4.1,h.c5.1,h.c6.1,h.c7.1,h.dead.at a,h.Bo⟩
def EI(w:World)(bs:Nat)(kb:Nat->Nat)(kv:Nat->Value)(v:Value)(n:Nat)(f:Nat->AL):Prop:=
 n<=maxLen/\∃a cap,v = .slice a n cap/\n<=cap/\(0<n->∃off,a=some ⟨bs,off,none⟩/\∀i,i<n->GY w bs (off+i*8) (kb i) (kv i) (f i))
def Io(bs:Nat)(kb:Nat->Nat)(n:Nat)(f:Nat->AL)(k:Nat):Prop:=(0<n/\k=bs)\/∃i,i<n/\0<(f i).dn/\k=kb i
def Mj(kb:Nat->Nat)(n:Nat)(f:Nat->AL):Prop:=∀i j,i<n->j<n->i≠j->0<(f i).dn->0<(f j).dn->kb i≠kb j
variable{kb:Nat->Nat}{kv:Nat->Value}{f:Nat->AL}
theorem EI.AH(h:EI w bs kb kv v n f)(t:AI S w w')(hs:∀k,Io bs kb n f k->¬S k):EI w' bs kb kv v n f:=by
 obtain⟨c,a,cap,hv,b,g⟩:=h;refine⟨c,a,cap,hv,b,fun hn=>?_⟩;obtain⟨off,e,d⟩:=g hn;exact⟨off,e,fun i hi=>(d i hi).AH t (hs _ (Or.inl ⟨hn,rfl⟩)) (fun h=>hs _ (Or.inr ⟨i,hi,h,rfl⟩))⟩
theorem EI.A0(h:EI w bs kb kv v n f)(t:Below w.heap.size w w'):EI w' bs kb kv v n f:=
 h.AH (AI.Co (S:=fun _=>False) t) (fun _ _ h=>h)
theorem EI.at(h:EI w bs kb kv v n f)(c:∀k,Io bs kb n f k->lo<=k/\k<hi):DR w lo hi v n f:=by
 obtain⟨e,a,cap,hv,b,l⟩:=h;refine⟨e,a,cap,hv,b,fun hn=>?_⟩;obtain⟨off,j,g⟩:=l hn;have d:=c _ (Or.inl ⟨hn,rfl⟩);exact⟨bs,off,j,d.1,d.2,fun i hi=>⟨_,(g i hi).cells (fun h=>c _ (Or.inr ⟨i,hi,h,rfl⟩))⟩⟩
theorem Vv:(Tryz.prog.info? 41).map (fun i=>(i.zero,i.size,i.bytes))=some (some (.agg #[.int .i64 0,.string ⟨#[]⟩,.string ⟨#[]⟩,.int .i64 0,.int .i64 0,.int .i64 0,.int .i64 0,.slice none 0 0]),8,96):=by kernel_rfl
end
end Go.Proofs.YtibhefllijahkaaGreatDoor
