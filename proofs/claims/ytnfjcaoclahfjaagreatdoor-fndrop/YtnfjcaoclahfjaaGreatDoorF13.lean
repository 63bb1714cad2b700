/- A part of the proof. -/
import Derived.Test.YtnfjcaoclahfjaaGreatDoorF12
import Derived.ProofKit
set_option linter.unusedVariables false
set_option maxRecDepth 20000
set_option maxHeartbeats 4000000
namespace Go.Proofs.YtnfjcaoclahfjaaGreatDoor
noncomputable section
open Go.RowKit
structure DJ where
 A5:Int
 time:Int
 rs:Int
 rb:Int
 dn:Nat
 ds:Nat->Int
 db:Nat->Int
def Js(s:AT):DJ:=⟨s.A5,s.time,s.rs,s.rb,s.dn,s.ds,s.db⟩
def MW(t:Int)(s:Ac):DJ:=⟨s.A5,t,s.rs,s.rb,s.dn,s.ds,s.db⟩
def A6(W:A4)(i:Nat):DJ:=if i<W.pn then Js (W.A0 i)else MW W.time (W.A2 (i - W.pn))
def memN(W:A4):Nat:=W.pn+W.sn
variable{W:A4}{i:Nat}
theorem B9(h:i<W.pn):A6 W i=Js (W.A0 i):=if_pos h
theorem By(W:A4)(i:Nat):A6 W (W.pn+i)=MW W.time (W.A2 i):=by
 unfold A6;rw[if_neg (by omega),show W.pn+i - W.pn=i by omega]
def CQ:AT:=⟨0,ByteArray.empty,ByteArray.empty,0,0,0,0,0,fun _=>0,fun _=>0⟩
open Classical in
def AB(W:A4)(x:Int):AT:=if h:∃k,BB W x k then W.A0 h.choose else CQ
variable{x:Int}{k:Nat}
theorem Cn(h:BB W x k):AB W x=W.A0 k:=by
 unfold AB;rw[dif_pos ⟨k,h⟩,BB.uniq (Exists.choose_spec (⟨k,h⟩:∃k,BB W x k)) h]
theorem Jp(h:∀k,k<W.pn->(W.A0 k).id≠x):AB W x=CQ:=by
 unfold AB;rw[dif_neg];rintro⟨k,a⟩;exact h k a.1 a.2.1
theorem Qd{W:A4}{x:Int}:∀{n:Nat},n<=W.pn->(∃k,k<n/\(W.A0 k).id=x)->∃k,BB W x k
 | 0,_,⟨k,hk,_⟩=>absurd hk (Nat.not_lt_zero _)
 | n+1,hn,⟨k,hk,e⟩=>by
  by_cases h:∃j,j<n/\(W.A0 j).id=x
  ·exact Qd (by omega) h
  ·have:k=n:=by
    by_cases a:k<n
    ·exact absurd ⟨k,a,e⟩ h
    ·omega
   subst this;exact⟨k,by omega,e,fun j c b=>h ⟨j,c,b⟩⟩
def treeM(W:A4)(m:DJ):List (Int×Int):=AE W.pool m.rs m.rb
def oldM(W:A4)(m:DJ):List (Int×Int):=AE W.pool (AB W m.A5).rs (AB W m.A5).rb
def BN(l m:List (Int×Int)):List (Int×Int):=l.filter (fun x=>decide (x∉m))
def Cc(l m:List (Int×Int)):List (Int×Int):=l.filter (fun x=>decide (x∈m))
def Dv(l:List (Int×Int))(t:Int):List (Int×Int):=l.filter (fun x=>decide (t<x.2))
def CZ(W:A4)(m:DJ):List (Int×Int):=BN (treeM W m) (oldM W m)
def CS(W:A4)(m:DJ):List (Int×Int):=Dv (treeM W m) (AB W m.A5).time
def ES(n:Nat)(f g:Nat->Int)(l:List (Int×Int)):Prop:=FZ n f g l.length (AI l) (AK l)
def Gu(now old:List (Int×Int))(t tm:Int):Prop:=∀x,x∈now->x.2<=tm/\(x∈old↔x.2<=t)
def KC(W:A4)(m:DJ):Prop:=ES m.dn m.ds m.db (BN (oldM W m) (treeM W m))/\Gu (treeM W m) (oldM W m) (AB W m.A5).time m.time
def Zi(W:A4)(m:DJ):Prop:=m.rb<=m.time/\ES (CS W m).length (AI (CS W m)) (AK (CS W m)) (CZ W m)/\ES m.dn m.ds m.db (BN (oldM W m) (Cc (treeM W m) (oldM W m)))
theorem zD(l m:List (Int×Int)):BN m (Cc l m)=BN m l:=by
 unfold BN Cc;refine List.filter_congr fun x b=>?_
 rw[decide_eq_decide];simp only[List.mem_filter,decide_eq_true_eq];exact⟨fun h a=>h ⟨a,b⟩,fun h a=>h a.1⟩
variable{l:List (Int×Int)}
theorem Co(h:i<l.length):l.getD i (0,0)=l[i]:=by
 rw[List.getD_eq_getElem?_getD,List.getElem?_eq_getElem h,Option.getD_some]
variable{y:Int}
theorem FG:PIn l.length (AI l) (AK l) x y↔(x,y)∈l:=by
 constructor
 ·rintro⟨j,a,b,c⟩;unfold AI at b;unfold AK at c;rw[Co a]at b c;have:l[j]=(x,y):=Prod.ext b c;exact this▸List.getElem_mem a
 ·intro h;obtain⟨j,a,e⟩:=List.getElem_of_mem h;exact⟨j,a,by unfold AI;rw[Co a,e],by unfold AK;rw[Co a,e]⟩
structure Db (W:A4):Prop where
 right:AX W.pool
 ids:∀k,k<W.pn->(W.A0 k).A5<(W.A0 k).id
 tree:∀i,i<memN W->An W.pool (A6 W i).rs (A6 W i).rb
 time:∀i,i<memN W->0<=(A6 W i).time
variable{p:A7}{rs rb:Int}
theorem EY(b:AX p)(e:An p rs rb){x:Int×Int}(a:x∈AE p rs rb):BA p x.1 x.2/\x.2<=rb/\¬Has p.hn p.h x.1:=by
 rcases(Q8 b).2 e with f | ⟨d,_,c⟩
 ·rw[AE,if_pos f]at a;simp at a
 ·have:=Of b d x a;exact⟨this.1,this.2,c.2 x a⟩
theorem Jr(b:AX p)(c:An p rs rb):(AE p rs rb).Nodup:=by
 rcases(Q8 b).2 c with d | ⟨e,_,a⟩
 ·rw[AE,if_pos d];exact List.nodup_nil
 ·exact a.1
theorem zDQ(e:AX p)(h:BA p x y):Fy x y:=by
 have f:=Ep e h;have g:=e.1;obtain⟨a,b,c,d⟩:=h;have:=f.1.2;exact⟨b,by omega,a,by omega⟩
theorem Kt(a:AX p)(h:∀x,x∈l->BA p x.1 x.2)(hn:l.Nodup)(c:l.length<=200):C1 l.length (AI l) (AK l):=by
 have hs:=(Qx h).2 hn;refine⟨c,fun i hi=>?_,fun i hi k b=>?_⟩
 ·unfold AI AK;rw[Co hi];exact zDQ a (h _ (List.getElem_mem hi))
 ·unfold AI;rw[Co hi,Co (show k<l.length by omega)];unfold Dm List.Nodup at hs;rw[List.pairwise_map]at hs;exact List.pairwise_iff_getElem.1 hs k i (by omega) hi b
theorem zBt(n:AX p){T:List (Int×Int)}(o:∀x,x∈T->BA p x.1 x.2)(hn:T.Nodup)(q:T.length<=200)(P Q:Int×Int->Bool) :
 ES (T.filter P).length (AI (T.filter P)) (AK (T.filter P)) (T.filter Q)↔∀x,x∈T->P x=Q x:=by
 constructor
 ·rintro⟨_,_,b,f⟩;have g:∀x,x∈T->P x=true->Q x=true:=fun x a d=>by
   have r:x∈T.filter P:=List.mem_filter.2 ⟨a,d⟩;obtain⟨j,l,e⟩:=List.getElem_of_mem r;have:=f j l;rw[FG]at this;unfold AI AK at this;rw[Co l,e]at this;exact(List.mem_filter.1 this).2
  have m:(T.filter Q).filter P=T.filter P:=by
   rw[List.filter_filter];refine List.filter_congr fun x a=>?_
   cases d:P x
   ·rfl
   ·rw[g x a d];rfl
  have k:((T.filter Q).filter P).length=(T.filter Q).length:=(by rw[m,b]);rw[List.length_filter_eq_length_iff]at k;intro x a;cases hq:Q x
  ·cases d:P x
   ·rfl
   ·rw[g x a d]at hq;exact absurd hq (by simp)
  ·exact k x (List.mem_filter.2 ⟨a,hq⟩)
 ·intro h;have e:T.filter P=T.filter Q:=List.filter_congr h;rw[e];have c:C1 (T.filter Q).length (AI (T.filter Q)) (AK (T.filter Q)):=Kt n (fun x a=>o x (List.mem_filter.1 a).1) (hn.filter _) (Nat.le_trans (List.length_filter_le _ _) q);exact⟨c,c,rfl,fun i hi=>⟨i,hi,rfl,rfl⟩⟩
theorem XL(h:Db W)(hi:i<memN W):Zi W (A6 W i)↔KC W (A6 W i):=by
 generalize q:A6 W i=m;have j:=h.tree i hi;have f:=h.time i hi;rw[q]at j f;have d:(treeM W m).length<=200:=by have:=D7 W.pool m.rs m.rb;unfold treeM;omega
 have l:∀x,x∈treeM W m->BA W.pool x.1 x.2:=fun x b=>(EY h.right j b).1
 unfold Zi KC;rw[zD];have key:ES (CS W m).length (AI (CS W m)) (AK (CS W m)) (CZ W m)↔∀x,x∈treeM W m->(x∈oldM W m↔x.2<=(AB W m.A5).time):=by
  unfold CS CZ Dv BN;rw[zBt h.right l (Jr h.right j) d];refine⟨fun k x b=>?_,fun k x b=>?_⟩
  ·have:=k x b;rw[decide_eq_decide]at this;constructor
   ·intro a;by_cases e:(AB W m.A5).time<x.2
    ·exact absurd a (this.1 e)
    ·omega
   ·intro c;by_cases a:x∈oldM W m
    ·exact a
    ·have:=this.2 a;omega
  ·rw[decide_eq_decide];have:=k x b;constructor
   ·intro e a;have:=this.1 a;omega
   ·intro a;by_cases c:x.2<=(AB W m.A5).time
    ·exact absurd (this.2 c) a
    ·omega
 rw[key];constructor
 ·rintro⟨n,g,p⟩;exact⟨p,fun x b=>⟨by have:=(EY h.right j b).2.1;omega,g x b⟩⟩
 ·rintro⟨n,g⟩;refine⟨?_,fun x b=>(g x b).2,n⟩;by_cases o:Nil m.rs m.rb
  ·rw[o.2];exact f
  ·have r:(m.rs,m.rb)∈treeM W m:=(by unfold treeM AE;rw[if_neg o];simp);exact(g _ r).1
theorem zDx{m:DJ}(c:KC W m):CS W m=CZ W m:=by
 unfold CS CZ Dv BN;refine List.filter_congr fun x d=>?_
 rw[decide_eq_decide];have:=(c.2 x d).2;constructor
 ·intro b a;have:=this.1 a;omega
 ·intro b;by_cases a:x.2<=(AB W m.A5).time
  ·exact absurd (this.2 a) b
  ·omega
open Classical in
def cnt(P:Nat->Prop):Nat->Nat
 | 0=>0
 | k+1=>cnt P k+(if P k then 1 else 0)
theorem Kj{P Q:Nat->Prop}:∀{n:Nat},(∀i,i<n->(P i↔Q i))->cnt P n=cnt Q n
 | 0,_=>rfl
 | n+1,h=>by
  unfold cnt;rw[Kj (fun i hi=>h i (by omega))];by_cases a:P n
  ·rw[if_pos a,if_pos ((h n (by omega)).1 a)]
  ·rw[if_neg a,if_neg (fun b=>a ((h n (by omega)).2 b))]
theorem Yw{P Q:Nat->Prop}:∀{n:Nat},(∀i,i<n->P i->Q i)->cnt P n<=cnt Q n
 | 0,_=>Nat.le_refl _
 | n+1,h=>by
  unfold cnt;have:=Yw (n:=n) (fun i hi=>h i (by omega));by_cases a:P n
  ·rw[if_pos a,if_pos (h n (by omega) a)];omega
  ·rw[if_neg a];omega
theorem Xi{P Q:Nat->Prop}:∀{n:Nat},(∀i,i<n->P i->Q i)->(cnt P n=cnt Q n↔∀i,i<n->(P i↔Q i))
 | 0,_=>⟨fun _ i hi=>absurd hi (Nat.not_lt_zero _),fun _=>rfl⟩
 | n+1,h=>by
  refine⟨fun e=>?_,fun e=>Kj e⟩;have f:=Yw (n:=n) (fun i hi=>h i (by omega));have g:=Xi (n:=n) (fun i hi=>h i (by omega));unfold cnt at e;have hn:P n↔Q n:=by
   refine⟨h n (by omega),fun b=>?_⟩;by_cases a:P n
   ·exact a
   ·rw[if_neg a,if_pos b]at e;omega
  have c:cnt P n=cnt Q n:=by
   by_cases a:P n
   ·rw[if_pos a,if_pos (hn.1 a)]at e;omega
   ·rw[if_neg a,if_neg (fun b=>a (hn.2 b))]at e;omega
  intro i hi;by_cases d:i=n
  ·subst d;exact hn
  ·exact g.1 c i (by omega)
theorem PN{P Q:Nat->Prop}:∀{n:Nat},(∀i,i<n->P i->¬Q i)->cnt (fun i=>P i\/Q i) n=cnt P n+cnt Q n
 | 0,_=>rfl
 | n+1,h=>by
  unfold cnt;rw[PN (fun i hi=>h i (by omega))];by_cases a:P n
  ·rw[if_pos (Or.inl a),if_pos a,if_neg (h n (by omega) a)];omega
  ·by_cases b:Q n
   ·rw[if_pos (Or.inr b),if_neg a,if_pos b];omega
   ·rw[if_neg (fun h=>h.elim a b),if_neg a,if_neg b];omega
theorem TC(P:Nat->Prop):∀n,cnt P n+cnt (fun i=>¬P i) n=n
 | 0=>rfl
 | n+1=>by
  have:=TC P n;unfold cnt;by_cases a:P n
  ·rw[if_pos a,if_neg (fun h=>h a)];omega
  ·rw[if_neg a,if_pos a];omega
theorem QY{P:Nat->Prop}:∀{n:Nat},(∀i,i<n->¬P i)->cnt P n=0
 | 0,_=>rfl
 | n+1,h=>by
  unfold cnt;rw[QY (fun i hi=>h i (by omega)),if_neg (h n (by omega))]
theorem TD:∀{n a:Nat},a<n->cnt (fun i=>i=a) n=1
 | 0,a,h=>absurd h (Nat.not_lt_zero _)
 | n+1,a,h=>by
  unfold cnt;by_cases e:n=a
  ·subst e;rw[if_pos rfl,QY (fun i hi=>by omega)]
  ·rw[if_neg e,TD (by omega)]
theorem Nz{n:Nat}:∀{l:List Nat},l.Nodup->(∀x,x∈l->x<n)->cnt (fun i=>i∈l) n=l.length
 | [],_,_=>QY (fun i hi=>by simp)
 | a :: l,hn,hl=>by
  obtain⟨d,f⟩:=List.nodup_cons.1 hn;have b:cnt (fun i=>i∈a :: l) n=cnt (fun i=>i=a\/i∈l) n:=Kj (fun i _=>List.mem_cons);have c:cnt (fun i=>i=a\/i∈l) n=cnt (fun i=>i=a) n+cnt (fun i=>i∈l) n:=PN (fun i _ (e:i=a) hi=>d (e▸hi));rw[b,c,TD (hl a (by simp)),Nz f (fun x g=>hl x (by simp[g])),List.length_cons];omega
theorem UZ(f:Nat->AG):∀n,roomN f n=cnt (fun i=>Am (f i)) n
 | 0=>rfl
 | n+1=>by unfold roomN cnt;rw[UZ f n]
theorem zEA(l:AX p):cnt (fun i=>Has p.hn p.h i) p.n=p.hn:=by
 have h:=l.2.2;have q:∀x,x∈(List.range p.hn).map (fun j=>(p.h j).toNat)->x<p.n:=by
  intro x g;obtain⟨j,c,rfl⟩:=List.mem_map.1 g;have:=h j (List.mem_range.1 c);have k:=this.1;have d:=this.2.1;omega
 have hn:((List.range p.hn).map (fun j=>(p.h j).toNat)).Nodup:=by
  unfold List.Nodup;rw[List.pairwise_map];refine List.Pairwise.imp_of_mem ?_ (List.pairwise_lt_range);intro a b m o f e;have k:=h a (List.mem_range.1 m);have d:=h b (List.mem_range.1 o);have:=k.1;have:=d.1;exact d.2.2.2 ⟨a,f,by omega⟩
 have:=Nz hn q;rw[List.length_map,List.length_range]at this;refine Eq.trans (Kj (fun i hi=>?_)) this;constructor
 ·rintro⟨j,c,e⟩;exact List.mem_map.2 ⟨j,List.mem_range.2 c,by rw[e];simp⟩
 ·intro g;obtain⟨j,c,e⟩:=List.mem_map.1 g;have:=(h j (List.mem_range.1 c)).1;exact⟨j,List.mem_range.1 c,by omega⟩
theorem UY(a:AX p):cnt (fun i=>¬Am (p.s i)/\¬Has p.hn p.h i) p.n+roomN p.s p.n+p.hn=p.n:=by
 have f:=TC (fun i=>Am (p.s i)\/Has p.hn p.h i) p.n;have b:cnt (fun i=>Am (p.s i)\/Has p.hn p.h i) p.n=cnt (fun i=>Am (p.s i)) p.n+cnt (fun i=>Has p.hn p.h i) p.n:=PN (fun i hi c=>by
  rintro⟨j,d,e⟩;have:=(a.2.2 j d).2.2.1;rw[e]at this;simp only[Int.toNat_natCast]at this;exact this c)
 rw[zEA a,<-UZ]at b;have g:cnt (fun i=>¬(Am (p.s i)\/Has p.hn p.h i)) p.n=cnt (fun i=>¬Am (p.s i)/\¬Has p.hn p.h i) p.n:=Kj (fun i _=>not_or);omega
def Pq(W:A4):Prop:=∀i,i<W.pool.n->((∃m,m<memN W/\∃b,((i:Int),b)∈treeM W (A6 W m))↔(¬Am (W.pool.s i)/\¬Has W.pool.hn W.pool.h i))
def IZ(W:A4):Prop:=∀i,i<memN W->∀j,j<i->∀x,x∈CZ W (A6 W i)->∀y,y∈CZ W (A6 W j)->x.1≠y.1
def Aw(W:A4):Nat->List (Int×Int)
 | 0=>[]
 | k+1=>Aw W k ++ CS W (A6 W k)
def LZ(W:A4):Prop:=(Aw W (memN W)).Nodup/\(Aw W (memN W)).length+roomN W.pool.s W.pool.n+W.pool.hn=W.pool.n
theorem M8{W:A4}{x:Int×Int}:∀{k:Nat},x∈Aw W k↔∃i,i<k/\x∈CS W (A6 W i)
 | 0=>by simp[Aw]
 | k+1=>by
  unfold Aw;rw[List.mem_append,M8];constructor
  ·rintro(⟨i,hi,h⟩ | h)
   ·exact⟨i,by omega,h⟩
   ·exact⟨k,by omega,h⟩
  ·rintro⟨i,hi,h⟩;by_cases e:i=k
   ·subst e;exact Or.inr h
   ·exact Or.inl ⟨i,by omega,h⟩
theorem Xw{W:A4}:∀{k:Nat},(∀i,i<k->(CS W (A6 W i)).Nodup)->((Aw W k).Nodup↔∀i,i<k->∀j,j<i->∀x,x∈CS W (A6 W i)->x∉CS W (A6 W j))
 | 0,_=>⟨fun _ i hi=>absurd hi (Nat.not_lt_zero _),fun _=>List.nodup_nil⟩
 | k+1,hy=>by
  unfold Aw;rw[List.nodup_append,Xw (fun i hi=>hy i (by omega))];constructor
  ·rintro⟨f,l,g⟩ i hi j d x a b;by_cases e:i=k
   ·subst e;exact g x (M8.2 ⟨j,d,b⟩) x a rfl
   ·exact f i (by omega) j d x a b
  ·intro h;refine⟨fun i hi=>h i (by omega),hy k (by omega),fun x a y c e=>?_⟩;subst e;obtain⟨i,hi,a⟩:=M8.1 a;exact h k (by omega) i hi x c a
theorem Ug{W:A4}(h:Db W){x:Int×Int}:∀(N:Nat) (k:Nat),k<W.pn->(W.A0 k).id<N->0<=(W.A0 k).id->(∀j,j<W.pn->0<=(W.A0 j).id)->x∈treeM W (A6 W k)->∃i,i<memN W/\x∈CZ W (A6 W i)
 | 0,k,hk,h1,h2,_,_=>by omega
 | N+1,k,hk,h1,h2,h0,hx=>by
  by_cases a:x∈oldM W (A6 W k)
  ·have c:∃j,BB W (A6 W k).A5 j:=by
    refine Classical.byContradiction fun d=>?_
    have:AB W (A6 W k).A5=CQ:=(by unfold AB;rw[dif_neg d]);unfold oldM at a;rw[this,AE,if_pos ⟨rfl,rfl⟩]at a;simp at a
   obtain⟨j,b⟩:=c;unfold oldM at a;rw[Cn b]at a;have e:(A6 W k).A5=(W.A0 k).A5:=(by rw[B9 hk];rfl);have:=h.ids k hk;have:=b.2.1;exact Ug h N j b.1 (by omega) (h0 j b.1) h0 (by rw[B9 b.1];exact a)
  ·exact⟨k,by unfold memN;omega,List.mem_filter.2 ⟨hx,by simpa using a⟩⟩
theorem zEN(h:Db W)(c:∀j,j<W.pn->0<=(W.A0 j).id){x:Int×Int}{m:Nat}(f:m<memN W)(g:x∈treeM W (A6 W m)):∃i,i<memN W/\x∈CZ W (A6 W i):=by
 by_cases a:x∈oldM W (A6 W m)
 ·have d:∃j,BB W (A6 W m).A5 j:=by
   refine Classical.byContradiction fun e=>?_
   have:AB W (A6 W m).A5=CQ:=(by unfold AB;rw[dif_neg e]);unfold oldM at a;rw[this,AE,if_pos ⟨rfl,rfl⟩]at a;simp at a
  obtain⟨j,b⟩:=d;unfold oldM at a;rw[Cn b]at a;have:=c j b.1;exact Ug h ((W.A0 j).id.toNat+1) j b.1 (by omega) (c j b.1) c (by rw[B9 b.1];exact a)
 ·exact⟨m,f,List.mem_filter.2 ⟨g,by simpa using a⟩⟩
theorem VF(h:Db W)(T:∀j,j<W.pn->0<=(W.A0 j).id)(U:∀i,i<memN W->KC W (A6 W i)):LZ W↔Pq W/\IZ W:=by
 have w:∀i,i<memN W->CS W (A6 W i)=CZ W (A6 W i):=fun i hi=>zDx (U i hi)
 have K:∀i,i<memN W->(CS W (A6 W i)).Nodup:=fun i hi=>(Jr h.right (h.tree i hi)).filter _
 have t:∀i,i<memN W->∀x,x∈CZ W (A6 W i)->x∈treeM W (A6 W i):=fun i _ x c=>(List.mem_filter.1 c).1
 have p:∀i,i<memN W->∀x,x∈treeM W (A6 W i)->BA W.pool x.1 x.2/\¬Has W.pool.hn W.pool.h x.1:=fun i hi x c=>⟨(EY h.right (h.tree i hi) c).1,(EY h.right (h.tree i hi) c).2.2⟩
 have o:∀x y:Int×Int,BA W.pool x.1 x.2->BA W.pool y.1 y.2->x.1=y.1->x=y:=fun x y c g e=>by
  have O:=c.2.2.2;have S:=g.2.2.2;rw[e]at O;exact Prod.ext e (O.symm.trans S)
 have G:(Aw W (memN W)).Nodup↔IZ W:=by
  rw[Xw K];unfold IZ;constructor
  ·intro H i hi j I x c y g e;have N:=o x y (p i hi x (t i hi x c)).1 (p j (by omega) y (t j (by omega) y g)).1 e;subst N;exact H i hi j I x (by rw[w i hi];exact c) (by rw[w j (by omega)];exact g)
  ·intro H i hi j I x c M;exact H i hi j I x (by rw[<-w i hi];exact c) x (by rw[<-w j (by omega)];exact M) rfl
 have d:∀x,x∈Aw W (memN W)↔∃m,m<memN W/\x∈treeM W (A6 W m):=fun x=>by
  rw[M8];constructor
  ·rintro⟨i,hi,c⟩;rw[w i hi]at c;exact⟨i,hi,t i hi x c⟩
  ·rintro⟨m,k,c⟩;obtain⟨i,hi,c⟩:=zEN h T k c;exact⟨i,hi,by rw[w i hi];exact c⟩
 unfold LZ;rw[G];constructor
 ·rintro⟨A,R⟩;refine⟨?_,A⟩;have f:=G.2 A;have hpL:∀x,x∈Aw W (memN W)->BA W.pool x.1 x.2:=fun x c=>by
   obtain⟨m,k,c⟩:=(d x).1 c;exact(p m k x c).1
  have J:∀x,x∈(Aw W (memN W)).map (fun x=>x.1.toNat)->x<W.pool.n:=by
   intro x c;obtain⟨y,g,rfl⟩:=List.mem_map.1 c;have:=hpL y g;have F:=this.2.1;have z:=this.2.2.1;omega
  have v:((Aw W (memN W)).map (fun x=>x.1.toNat)).Nodup:=by
   unfold List.Nodup;rw[List.pairwise_map];refine List.Pairwise.imp_of_mem ?_ f;intro a b q r u e;have C:=hpL a q;have D:=hpL b r;have:=C.2.1;have:=D.2.1;exact u (o a b C D (by omega))
  have E:=Nz v J;rw[List.length_map]at E;have X:=UY h.right;have l:∀i,i<W.pool.n->(i∈(Aw W (memN W)).map (fun x=>x.1.toNat)↔∃m,m<memN W/\∃b,((i:Int),b)∈treeM W (A6 W m)):=by
   intro i hi;rw[List.mem_map];constructor
   ·rintro⟨x,c,e⟩;have:=(hpL x c).2.1;obtain⟨m,k,c⟩:=(d x).1 c;exact⟨m,k,x.2,by rw[show(i:Int)=x.1 by omega];exact c⟩
   ·rintro⟨m,k,b,c⟩;exact⟨(i,b),(d _).2 ⟨m,k,c⟩,by simp⟩
  have B:∀i,i<W.pool.n->i∈(Aw W (memN W)).map (fun x=>x.1.toNat)->¬Am (W.pool.s i)/\¬Has W.pool.hn W.pool.h i:=by
   intro i hi c;obtain⟨m,k,b,c⟩:=(l i hi).1 c;have:=p m k _ c;refine⟨fun V=>?_,this.2⟩;have F:=this.1.1;have z:=this.1.2.2.2;simp only[Int.toNat_natCast]at z;rw[V.1]at z;simp only at F z;omega
  have:=(Xi B).1 (by rw[E];omega);intro i hi;rw[<-l i hi];exact this i hi
 ·rintro⟨L,A⟩;refine⟨A,?_⟩;have f:=G.2 A;have hpL:∀x,x∈Aw W (memN W)->BA W.pool x.1 x.2:=fun x c=>by
   obtain⟨m,k,c⟩:=(d x).1 c;exact(p m k x c).1
  have J:∀x,x∈(Aw W (memN W)).map (fun x=>x.1.toNat)->x<W.pool.n:=by
   intro x c;obtain⟨y,g,rfl⟩:=List.mem_map.1 c;have:=hpL y g;have F:=this.2.1;have z:=this.2.2.1;omega
  have v:((Aw W (memN W)).map (fun x=>x.1.toNat)).Nodup:=by
   unfold List.Nodup;rw[List.pairwise_map];refine List.Pairwise.imp_of_mem ?_ f;intro a b q r u e;have C:=hpL a q;have D:=hpL b r;have:=C.2.1;have:=D.2.1;exact u (o a b C D (by omega))
  have E:=Nz v J;rw[List.length_map]at E;have X:=UY h.right;have l:∀i,i<W.pool.n->(i∈(Aw W (memN W)).map (fun x=>x.1.toNat)↔∃m,m<memN W/\∃b,((i:Int),b)∈treeM W (A6 W m)):=by
   intro i hi;rw[List.mem_map];constructor
   ·rintro⟨x,c,e⟩;have:=(hpL x c).2.1;obtain⟨m,k,c⟩:=(d x).1 c;exact⟨m,k,x.2,by rw[show(i:Int)=x.1 by omega];exact c⟩
   ·rintro⟨m,k,b,c⟩;exact⟨(i,b),(d _).2 ⟨m,k,c⟩,by simp⟩
  have:=Kj (P:=fun i=>i∈(Aw W (memN W)).map (fun x=>x.1.toNat)) (Q:=fun i=>¬Am (W.pool.s i)/\¬Has W.pool.hn W.pool.h i) (n:=W.pool.n) (fun i hi=>(l i hi).trans (L i hi));omega
open Go.Maps
variable{w:World}{v:Value}
theorem B6.atW{base:Nat}(h:B6 w base v l)(e:l.length<=1000):Ay w 0 w.heap.size v l.length (AI l) (AK l):=by
 obtain⟨b,c,d⟩:=h.own (by unfold maxLen;omega);exact c.at (fun a=>⟨Nat.zero_le _,(d a).2.2⟩)
def Zh(now old:List (Int×Int))(t tm:Int)(n:Nat):Prop:=∀i,i<n->AK now i<=tm/\((AI now i,AK now i)∈old↔AK now i<=t)
theorem T7(a b:List (Int×Int))(t tm:Int):Zh a b t tm a.length↔Gu a b t tm:=by
 constructor
 ·intro h x d;obtain⟨j,c,e⟩:=List.getElem_of_mem d;have:=h j c;unfold AI AK at this;rw[Co c,e]at this;exact this
 ·intro h i hi;have:=h _ (List.getElem_mem hi);unfold AI AK;rw[Co hi];exact this
def NB(W:A4):Prop:=∀k,k<W.pn->1<=(W.A0 k).id
def DP(i:Nat)(c:Int):Prop:=(97<=c/\c<=122)\/(i≠0/\((48<=c/\c<=57)\/c=95))
def Bp(s:ByteArray):Prop:=1<=s.size/\s.size<=20/\∀j,(h:j<s.size)->DP j (s[j].toNat:Int)
variable{s:ByteArray}
theorem zIg(d:k<s.size)(a:∀j,(h:j<k)->(b:j<s.size)->DP j (s[j].toNat:Int))(c:DP k (s[k].toNat:Int)) :
 ∃m:Nat,m<=s.size/\Value.int .i64 ((k:Int)+1) = .int .i64 (m:Int)/\∀j,(h:j<m)->(b:j<s.size)->DP j (s[j].toNat:Int):=by
 refine⟨k+1,by omega,by simp,fun j h b=>?_⟩;by_cases e:j=k
 ·subst e;exact c
 ·exact a j (by omega) b
theorem zIf(c:0<s.size)(a:DP 0 (s[0].toNat:Int)) :
 ∃m:Nat,m<=s.size/\Value.int .i64 1 = .int .i64 (m:Int)/\∀j,(h:j<m)->(b:j<s.size)->DP j (s[j].toNat:Int):=by
 refine⟨1,by omega,by simp,fun j h b=>?_⟩;obtain rfl:j=0:=by omega
 exact a
theorem RS(s:ByteArray)(w:World)(hs:s.size<=maxLen) :
 Calls Tryz.prog 109 #[.string s] w fun e w'=>AJ (Bp s) e/\w'=w:=by
 unfold maxLen at hs;by_cases r:s.size<1
 ·have f:(s.size:Int)<1:=(by omega);go_enter Tryz.func109,Tryz.ntmps109;go_wp2;go_ret;exact⟨⟨false,rfl,by simp[Bp];omega⟩,rfl⟩
 by_cases t:20<s.size
 ·have m:(20:Int)<(s.size:Int):=(by omega);have f:¬(s.size:Int)<1:=(by omega);go_enter Tryz.func109,Tryz.ntmps109;go_wp2;go_ret;exact⟨⟨false,rfl,by simp[Bp];omega⟩,rfl⟩
 have f:¬(s.size:Int)<1:=by omega
 have m:¬(20:Int)<(s.size:Int):=by omega
 have p:0<s.size:=by omega
 by_cases a:97<=(s[0].toNat:Int)/\(s[0].toNat:Int)<=122
 ·obtain⟨l,n⟩:=a;go_enter Tryz.func109,Tryz.ntmps109;go_wp2
  go_loop [20] (fun i=>∃k:Nat,k<=s.size/\i = .int .i64 k/\∀j,(h:j<k)->(q:j<s.size)->DP j (s[j].toNat:Int)) (fun i=>s.size - (intOf i).toNat)
  case atStart=>exact⟨0,Nat.zero_le _,rfl,fun j h=>absurd h (Nat.not_lt_zero _)⟩
  case round=>
   obtain⟨k,u,rfl,c⟩:=hrel;have b:Hid (∀j,(h:j<k)->(q:j<s.size)->DP j (s[j].toNat:Int)):=c;clear c;by_cases d:k<s.size
   ·by_cases o:k=0
    all_goals try subst o
    all_goals go_wp2
    all_goals try (go_ret;refine⟨⟨false,rfl,?_⟩,rfl⟩;simp only[Bool.false_eq_true,false_iff];intro h;have g:=h.2.2 _ d;unfold DP at g;first | omega | grind)
    all_goals
     go_round
     case measure=>simp[intOf];omega
     case rel=>first | exact zIf d (by unfold DP;first | omega | grind) | exact zIg d b.out (by unfold DP;first | omega | grind)
   ·go_wp2;go_ret;refine⟨⟨true,rfl,?_⟩,rfl⟩;simp only[true_iff];exact⟨by omega,by omega,fun j h=>b.out j (by omega) h⟩
 ·by_cases l:97<=(s[0].toNat:Int)
  ·have n:¬(s[0].toNat:Int)<=122:=fun h=>a ⟨l,h⟩
   clear a;go_enter Tryz.func109,Tryz.ntmps109;go_wp2;go_ret;refine⟨⟨false,rfl,?_⟩,rfl⟩;simp only[Bool.false_eq_true,false_iff];intro h;have g:=h.2.2 _ p;unfold DP at g;omega
  ·clear a;go_enter Tryz.func109,Tryz.ntmps109;go_wp2;go_ret;refine⟨⟨false,rfl,?_⟩,rfl⟩;simp only[Bool.false_eq_true,false_iff];intro h;have g:=h.2.2 _ p;unfold DP at g;omega
def CM(a b:ByteArray):Prop:=Op.bytesLess a.toList b.toList=true
theorem UO:∀x y:List UInt8,Op.bytesLess x y=true\/x=y\/Op.bytesLess y x=true
 | [],[]=>Or.inr (Or.inl rfl)
 | [],b :: y=>Or.inl (by simp[Op.bytesLess])
 | a :: x,[]=>Or.inr (Or.inr (by simp[Op.bytesLess]))
 | a :: x,b :: y=>by
  simp only[Op.bytesLess,Bool.or_eq_true,decide_eq_true_eq,Bool.and_eq_true,beq_iff_eq,List.cons.injEq];by_cases h:a=b
  ·subst h;rcases UO x y with h | h | h
   ·exact Or.inl (Or.inr ⟨rfl,h⟩)
   ·exact Or.inr (Or.inl ⟨rfl,h⟩)
   ·exact Or.inr (Or.inr (Or.inr ⟨rfl,h⟩))
  ·have:a<b\/b<a:=by
    have c:a.toNat≠b.toNat:=fun e=>h (UInt8.toNat_inj.1 e)
    rw[UInt8.lt_iff_toNat_lt,UInt8.lt_iff_toNat_lt];omega
   rcases this with h | h
   ·exact Or.inl (Or.inl h)
   ·exact Or.inr (Or.inr (Or.inl h))
theorem Ql:∀x:List UInt8,Op.bytesLess x x=false
 | []=>rfl
 | a :: x=>by simp[Op.bytesLess,Ql x]
theorem UN:∀x y:List UInt8,Op.bytesLess x y=true->Op.bytesLess y x=false
 | [],[],h=>by simp[Op.bytesLess]at h
 | [],b :: y,_=>by simp[Op.bytesLess]
 | a :: x,[],h=>by simp[Op.bytesLess]at h
 | a :: x,b :: y,h=>by
  simp only[Op.bytesLess,Bool.or_eq_true,decide_eq_true_eq,Bool.and_eq_true,beq_iff_eq]at h;rw[<-Bool.not_eq_true];simp only[Op.bytesLess,Bool.or_eq_true,decide_eq_true_eq,Bool.and_eq_true,beq_iff_eq,UInt8.lt_iff_toNat_lt]at h ⊢;rintro(c | ⟨c,d⟩)
  ·rcases h with h | ⟨h,_⟩
   ·omega
   ·subst h;omega
  ·subst c;rcases h with h | ⟨_,h⟩
   ·omega
   ·rw[UN x y h]at d;exact absurd d (by simp)
variable{a b:ByteArray}
theorem GB(h:a.toList=b.toList):a=b:=by
 rw[Go.ByteArray.toList_eq,Go.ByteArray.toList_eq]at h;cases a;cases b;simp only[ByteArray.mk.injEq]at *;exact Array.toList_inj.1 h
theorem TU(a b:ByteArray):(Op.bytesLess a.toList b.toList || a.toList == b.toList)=false↔CM b a:=by
 unfold CM;rw[Bool.or_eq_false_iff,beq_eq_false_iff_ne];constructor
 ·rintro⟨c,d⟩;rcases UO a.toList b.toList with h | h | h
  ·rw[c]at h;exact absurd h (by simp)
  ·exact absurd h d
  ·exact h
 ·intro h;refine⟨UN _ _ h,fun e=>?_⟩;rw[e,Ql]at h;exact absurd h (by simp)
theorem zFH(h:CM a b):a≠b:=fun e=>by
 subst e;unfold CM at h;rw[Ql]at h;exact absurd h (by simp)
theorem UQ:∀x y z:List UInt8,Op.bytesLess x y=true->Op.bytesLess y z=true->Op.bytesLess x z=true
 | _,[],_,h,_=>by cases ‹List UInt8›<;>simp[Op.bytesLess]at h
 | [],_ :: _,[],_,h=>by simp[Op.bytesLess]at h
 | [],_ :: _,_ :: _,_,_=>by simp[Op.bytesLess]
 | _ :: _,_ :: _,[],_,h=>by simp[Op.bytesLess]at h
 | a :: x,b :: y,c :: z,h,d=>by
  simp only[Op.bytesLess,Bool.or_eq_true,decide_eq_true_eq,Bool.and_eq_true,beq_iff_eq,UInt8.lt_iff_toNat_lt]at h d ⊢;rcases h with h | ⟨h,f⟩
  ·rcases d with d | ⟨d,e⟩
   ·left;omega
   ·subst d;left;exact h
  ·subst h;rcases d with d | ⟨d,e⟩
   ·left;exact d
   ·subst d;right;exact⟨rfl,UQ x y z f e⟩
theorem zBI{c:ByteArray}(h:CM a b)(d:CM b c):CM a c:=UQ _ _ _ h d
def BG(W:A4)(x:Int):Prop:=∃k,k<W.pn/\(W.A0 k).id=x
def CJ(W:A4)(x:ByteArray):Prop:=∃k,k<W.sn/\(W.A2 k).name=x
def Gw(W:A4)(i:Nat):Prop:=Bp (W.A2 i).name/\(0<i->CM (W.A2 (i - 1)).name (W.A2 i).name)/\((W.A2 i).A5≠0->BG W (W.A2 i).A5)/\((W.A2 i).origin≠0->BG W (W.A2 i).origin)
def Zn(W:A4)(i:Nat):Prop:=1<=(W.A0 i).id/\(W.A0 i).id<W.next/\1<=(W.A0 i).time/\(W.A0 i).time<W.time/\Bp (W.A0 i).name/\CJ W (W.A0 i).set
def Re(W:A4)(i:Nat):Prop:=(0<i->(W.A0 (i - 1)).id<(W.A0 i).id/\(W.A0 (i - 1)).time<(W.A0 i).time)/\((W.A0 i).A5≠0->(W.A0 i).A5<(W.A0 i).id/\BG W (W.A0 i).A5)
def Rf(W:A4)(i j:Nat):Prop:=∀k,k<j->¬((W.A0 k).set=(W.A0 i).set/\(W.A0 k).name=(W.A0 i).name)
def NE(W:A4)(i:Nat):Prop:=Zn W i/\Re W i/\Rf W i i
def Ct(W:A4):Prop:=JV W.time 1 900000/\JV W.next 1 900000/\W.sn<=8/\W.pn<=20/\(∀i,i<W.sn->Gw W i)/\∀i,i<W.pn->NE W i
theorem Xp{r:Int}(h:Po W.pn (fun k=>(W.A0 k).id=x) r):(BG W x/\0<=r/\r<W.pn/\(W.A0 r.toNat).id=x)\/(¬BG W x/\r = -1):=by
 rcases h with⟨k,a,e,_,rfl⟩ | ⟨hn,rfl⟩
 ·exact Or.inl ⟨⟨k,a,e⟩,by omega,by omega,by simpa using e⟩
 ·exact Or.inr ⟨fun ⟨k,a,e⟩=>hn k a e,rfl⟩
theorem yd{x:ByteArray}{r:Int}(h:Po W.sn (fun k=>(W.A2 k).name=x) r):(CJ W x/\0<=r)\/(¬CJ W x/\r = -1):=by
 rcases h with⟨k,a,e,_,rfl⟩ | ⟨hn,rfl⟩
 ·exact Or.inl ⟨⟨k,a,e⟩,by omega⟩
 ·exact Or.inr ⟨fun ⟨k,a,e⟩=>hn k a e,rfl⟩
def CG(w:World)(b:Nat)(v0 v1 v2 v3 v4 v5 v6 v7:Value):Prop:=(AF w b 0 v0/\AF w b 1 v1/\AF w b 2 v2/\AF w b 3 v3)/\(AF w b 4 v4/\AF w b 5 v5/\AF w b 6 v6/\AF w b 7 v7)
variable{w':World}
theorem CG.A1{b:Nat}{v0 v1 v2 v3 v4 v5 v6 v7:Value}(h:CG w b v0 v1 v2 v3 v4 v5 v6 v7)(t:Below w.heap.size w w'):CG w' b v0 v1 v2 v3 v4 v5 v6 v7:=
 ⟨⟨h.1.1.A1 t,h.1.2.1.A1 t,h.1.2.2.1.A1 t,h.1.2.2.2.A1 t⟩,h.2.1.A1 t,h.2.2.1.A1 t,h.2.2.2.1.A1 t,h.2.2.2.2.A1 t⟩
theorem CG.new(w:World)(b v1 c d e f g h:Value)(t:TypeId):CG (w.alloc (.cells #[b,v1,c,d,e,f,g,h] t)) w.heap.size b v1 c d e f g h:=by
 have a:(w.alloc (.cells #[b,v1,c,d,e,f,g,h] t)).heap[w.heap.size]?=some (.cells #[b,v1,c,d,e,f,g,h] t):=heap_alloc_new _ _;exact⟨⟨At a rfl,At a rfl,At a rfl,At a rfl⟩,At a rfl,At a rfl,At a rfl,At a rfl⟩
open Classical in
def ownN(W:A4)(name:ByteArray):Nat->Nat
 | 0=>0
 | k+1=>ownN W name k+(if (W.A0 k).set=name then 1 else 0)
variable{name:ByteArray}
theorem Lt(h:(W.A0 k).set=name):ownN W name (k+1)=ownN W name k+1:=by simp[ownN,h]
theorem NP(h:¬(W.A0 k).set=name):ownN W name (k+1)=ownN W name k:=by simp[ownN,h]
theorem NO(W:A4)(name:ByteArray):∀k,ownN W name k<=k
 | 0=>Nat.le_refl _
 | k+1=>by
  have:=NO W name k;by_cases h:(W.A0 k).set=name
  ·rw[Lt h];omega
  ·rw[NP h];omega
inductive Steps (W:A4) (name:ByteArray) (start:Int):Nat->Int->Prop
 | zero:Steps W name start 0 start
 | next {n:Nat} {x:Int} {k:Nat}:Steps W name start n x->BB W x k->(W.A0 k).set=name->Steps W name start (n+1) (W.A0 k).A5
def Eh(W:A4)(name:ByteArray)(x:Int):Prop:=∃k,BB W x k/\(W.A0 k).set=name
def Ek(W:A4)(name:ByteArray)(start origin:Int):Prop:=∃n e,Steps W name start n e/\¬Eh W name e/\n=ownN W name W.pn/\e=origin
theorem Steps.det{W:A4}{name:ByteArray}{start:Int}:∀{n:Nat} {x y:Int},Steps W name start n x->Steps W name start n y->x=y
 | 0,_,_,.zero,.zero=>rfl
 | n+1,_,_,.next h hk _,.next h' hk' _=>by
  have e:=Steps.det h h';subst e;rw[BB.uniq hk hk']
theorem Steps.less{W:A4}{name:ByteArray}{start:Int}:∀{n m:Nat} {x:Int},Steps W name start m x->n<m->∃y,Steps W name start n y/\Eh W name y
 | n,0,_,_,h=>absurd h (Nat.not_lt_zero _)
 | n,m+1,_,.next (x:=x) h hk hs,hl=>by
  by_cases e:n=m
  ·subst e;exact⟨x,h,_,hk,hs⟩
  ·exact Steps.less h (by omega)
variable{n:Nat}
theorem Steps.end{start:Int}{m:Nat}(h:Steps W name start n x)(f:¬Eh W name x)(b:Steps W name start m y)(g:¬Eh W name y):n=m/\x=y:=by
 have e:n=m:=by
  rcases Nat.lt_trichotomy n m with a | a | a
  ·obtain⟨z,d,c⟩:=b.less a;rw[h.det d]at f;exact absurd c f
  ·exact a
  ·obtain⟨z,d,c⟩:=h.less a;rw[b.det d]at g;exact absurd c g
 subst e;exact⟨rfl,h.det b⟩
theorem To{start origin:Int}(h:Steps W name start n x)(c:¬Eh W name x):Ek W name start origin↔n=ownN W name W.pn/\x=origin:=by
 constructor
 ·rintro⟨m,y,hs,d,a,b⟩;obtain⟨rfl,rfl⟩:=h.end c hs d;exact⟨a,b⟩
 ·rintro⟨a,b⟩;exact⟨n,x,h,c,a,b⟩
theorem BG.no(h:BG W x):∃k,BB W x k:=Qd (Nat.le_refl _) h
structure G6 (W:A4):Prop where
 ids:∀k,k<W.pn->1<=(W.A0 k).id/\(W.A0 k).id<900000
 A5:∀k,k<W.pn->(W.A0 k).A5=0\/BG W (W.A0 k).A5
 less:∀k,k<W.pn->(W.A0 k).A5<(W.A0 k).id
 A2:∀k,k<W.sn->(W.A2 k).A5=0\/BG W (W.A2 k).A5
 AP:∀k,k<W.sn->(W.A2 k).name.toList.isEmpty=false
theorem G6.pos(h:G6 W):NB W:=fun k a=>(h.ids k a).1
theorem BG.range(h:G6 W)(b:BG W x):1<=x/\x<900000:=by
 obtain⟨k,a,rfl⟩:=b;exact h.ids k a
theorem RY(h:Bp s):s.toList.isEmpty=false:=by
 have:=h.1;rw[Go.ByteArray.toList_eq];cases s with
 | mk d=>
  cases hd:d.toList with
  | nil=>
   have b:d.size=0:=(by rw[<-Array.length_toList,hd];rfl);have c:1<=d.size:=this;omega
  | cons a l=>simp
theorem Ct.Cu(h:Ct W):G6 W where
 ids:=fun k a=>⟨(h.2.2.2.2.2 k a).1.1,by have:=(h.2.2.2.2.2 k a).1.2.1;have:=h.2.1.2;omega⟩
 A5:=fun k a=>by
  by_cases e:(W.A0 k).A5=0
  ·exact Or.inl e
  ·exact Or.inr ((h.2.2.2.2.2 k a).2.1.2 e).2
 less:=fun k a=>by
  by_cases e:(W.A0 k).A5=0
  ·have:=(h.2.2.2.2.2 k a).1.1;omega
  ·exact((h.2.2.2.2.2 k a).2.1.2 e).1
 A2:=fun k a=>by
  by_cases e:(W.A2 k).A5=0
  ·exact Or.inl e
  ·exact Or.inr ((h.2.2.2.2.1 k a).2.2.1 e)
 AP:=fun k a=>RY (h.2.2.2.2.1 k a).1
structure ET (W:A4) (name:ByteArray) (start:Int) (n:Nat) (x:Int):Prop where
 steps:Steps W name start n x
 there:x=0\/BG W x
 least:0<=x
 sum:(n:Int)+x<=900000
theorem ET.start(h:G6 W)(name:ByteArray)(a:x=0\/BG W x):ET W name x 0 x where
 steps:=.zero
 there:=a
 least:=by rcases a with rfl | a;exact Int.le_refl _;have:=a.range h;omega
 sum:=by rcases a with rfl | a;decide;have:=a.range h;omega
theorem ET.next(h:G6 W){start:Int}(b:ET W name start n x)(a:BB W x k)(hs:(W.A0 k).set=name):ET W name start (n+1) (W.A0 k).A5 where
 steps:=b.steps.next a hs
 there:=h.A5 k a.1
 least:=by rcases h.A5 k a.1 with e | e;omega;have:=e.range h;omega
 sum:=by have c:=h.less k a.1;have d:=b.sum;have f:=a.2.1;omega
theorem YI(h:G6 W)(name:ByteArray):¬Eh W name 0:=fun ⟨k,hk,_⟩=>by
 have:=(h.ids k hk.1).1;have:=hk.2.1;omega
theorem XQ(a:BB W x k)(hs:¬(W.A0 k).set=name):¬Eh W name x:=fun ⟨j,hj,e⟩=>hs (by rw[BB.uniq a hj];exact e)
variable{m:List (Int×Int)}
theorem Pe(a:k<l.length)(h:(AI l k,AK l k)∈m):BN (l.take (k+1)) m=BN (l.take k) m:=by
 unfold AI AK at h;rw[Co a]at h;unfold BN;rw[List.take_succ_eq_append_getElem a,List.filter_append,List.filter_cons];simp only[List.filter_nil];rw[if_neg (by simp;exact h),List.append_nil]
theorem QG(a:k<l.length)(h:(AI l k,AK l k)∉m):BN (l.take (k+1)) m=BN (l.take k) m ++ [(AI l k,AK l k)]:=by
 unfold AI AK at h ⊢;rw[Co a]at h ⊢;unfold BN;rw[List.take_succ_eq_append_getElem a,List.filter_append,List.filter_cons];simp only[List.filter_nil];rw[if_pos (by simp;exact h)]
theorem UK(l m:List (Int×Int))(k:Nat):(BN (l.take k) m).length<=k:=by
 unfold BN;exact Nat.le_trans (List.length_filter_le _ _) (by rw[List.length_take];omega)
def ER(W:A4)(i:Nat):Prop:=Gu (treeM W (A6 W i)) (oldM W (A6 W i)) (AB W (A6 W i).A5).time (A6 W i).time
theorem Db.BI(h:Db W)(a:k<W.pn):An W.pool (W.A0 k).rs (W.A0 k).rb:=by
 have:=h.tree k (by unfold memN;omega);rw[B9 a]at this;exact this
theorem Db.set(h:Db W)(a:k<W.sn):An W.pool (W.A2 k).rs (W.A2 k).rb:=by
 have:=h.tree (W.pn+k) (by unfold memN;omega);rw[By]at this;exact this
def JR(W:A4)(s:Nat):Prop:=∃m,m<memN W/\∃b,((s:Int),b)∈treeM W (A6 W m)
def Cq(W:A4)(i:Nat):Int×Int:=if i<W.sn then((W.A2 i).rs,(W.A2 i).rb)else((W.A0 (i - W.sn)).rs,(W.A0 (i - W.sn)).rb)
def F4(W:A4)(n:Nat):List (Int×Int):=(List.range n).map (Cq W)
theorem OU(W:A4)(n:Nat):(F4 W n).length=n:=by simp[F4]
theorem Y7(W:A4)(n:Nat):F4 W (n+1)=F4 W n ++ [Cq W n]:=by simp[F4,List.range_succ]
theorem Ko(h:i<W.sn):Cq W i=((W.A2 i).rs,(W.A2 i).rb):=if_pos h
theorem L0(W:A4)(i:Nat):Cq W (W.sn+i)=((W.A0 i).rs,(W.A0 i).rb):=by
 unfold Cq;rw[if_neg (by omega),show W.sn+i - W.sn=i by omega]
theorem Vl(h:i<n):AI (F4 W n) i=(Cq W i).1/\AK (F4 W n) i=(Cq W i).2:=by
 unfold AI AK;rw[Co (by rw[OU];exact h)];simp[F4]
theorem zFI(a:Db W)(hi:i<W.sn+W.pn):An W.pool (Cq W i).1 (Cq W i).2:=by
 by_cases h:i<W.sn
 ·rw[Ko h];exact a.set h
 ·have:=L0 W (i - W.sn);rw[show W.sn+(i - W.sn)=i by omega]at this;rw[this];exact a.BI (by omega)
variable{s:Nat}
theorem X8:JR W s↔∃i,i<W.sn+W.pn/\∃b,((s:Int),b)∈AE W.pool (Cq W i).1 (Cq W i).2:=by
 unfold JR memN treeM;constructor
 ·rintro⟨m,c,b,h⟩;by_cases a:m<W.pn
  ·rw[B9 a]at h;exact⟨W.sn+m,by omega,b,by rw[L0];exact h⟩
  ·have e:=By W (m - W.pn);rw[show W.pn+(m - W.pn)=m by omega]at e;rw[e]at h;exact⟨m - W.pn,by omega,b,by rw[Ko (by omega)];exact h⟩
 ·rintro⟨i,hi,b,h⟩;by_cases hs:i<W.sn
  ·rw[Ko hs]at h;exact⟨W.pn+i,by omega,b,by rw[By];exact h⟩
  ·have e:=L0 W (i - W.sn);rw[show W.sn+(i - W.sn)=i by omega]at e;rw[e]at h;exact⟨i - W.sn,by omega,b,by rw[B9 (by omega)];exact h⟩
def Zk(W:A4)(k:Nat)(l:List (Int×Int))(j s:Nat):Prop:=(∃i,i<k/\∃b,((s:Int),b)∈AE W.pool (Cq W i).1 (Cq W i).2)\/∃q,q<j/\AI l q=(s:Int)
def LP(W:A4)(k:Nat)(l:List (Int×Int))(j:Nat)(f:Nat->Bool):Prop:=∀s,f s=true↔Zk W k l j s
variable{j:Nat}{f:Nat->Bool}
theorem zAG(h:LP W k l j f)(hs:AI l j=(s:Int)):LP W k l (j+1) (fun i=>if i=s then true else f i):=by
 intro i;show(if i=s then true else f i)=true↔_;by_cases e:i=s
 ·subst e;rw[if_pos rfl];exact⟨fun _=>Or.inr ⟨j,by omega,hs⟩,fun _=>rfl⟩
 ·rw[if_neg e,h i];constructor
  ·rintro(h | ⟨q,a,h⟩)
   ·exact Or.inl h
   ·exact Or.inr ⟨q,by omega,h⟩
  ·rintro(h | ⟨q,a,h⟩)
   ·exact Or.inl h
   ·by_cases eq:q=j
    ·subst eq;exact absurd (by omega) e
    ·exact Or.inr ⟨q,by omega,h⟩
theorem zAH(h:LP W k l l.length f)(d:l=AE W.pool (Cq W k).1 (Cq W k).2):LP W (k+1) [] 0 f:=by
 intro s;rw[h s];constructor
 ·rintro(⟨i,hi,h⟩ | ⟨q,a,e⟩)
  ·exact Or.inl ⟨i,by omega,h⟩
  ·refine Or.inl ⟨k,by omega,(l[q]).2,?_⟩;unfold AI at e;rw[Co a]at e;rw[<-d,<-e];exact List.getElem_mem a
 ·rintro(⟨i,hi,b,c⟩ | ⟨q,a,e⟩)
  ·by_cases e:i=k
   ·subst e;rw[<-d]at c;obtain⟨q,a,e⟩:=List.getElem_of_mem c;exact Or.inr ⟨q,a,by unfold AI;rw[Co a,e]⟩
   ·exact Or.inl ⟨i,by omega,b,c⟩
  ·omega
theorem Q6(b:AX p)(c:An p rs rb)(a:j<(AE p rs rb).length):∃s:Nat,AI (AE p rs rb) j=(s:Int)/\s<p.n:=by
 unfold AI;rw[Co a];have:=(EY b c (List.getElem_mem a)).1;obtain⟨_,d,e,_⟩:=this;exact⟨((AE p rs rb)[j]).1.toNat,by omega,by omega⟩
theorem Af.grown{w1:World}{b:Nat}{v0 v1 v2 v3 v4 v5:Value}{row:Option Nat}(h:Af w b v0 v1 v2 v3 v4 v5)(a:w.grownBy w1 row)(c:∀q,row=some q->b≠q):Af w1 b v0 v1 v2 v3 v4 v5:=by
 have f:b<w.heap.size:=h.1.lt;refine h.AD (S:=fun k=>row=some k) ⟨a.os,a.tape,a.output,a.size,fun k d hs=>a.block k d (fun e=>hs e.symm)⟩ (fun e=>c b e rfl)
def Pn(W:A4)(k:Nat):Prop:=∀i,i<k->∀j,j<i->∀x,x∈CZ W (A6 W i)->∀y,y∈CZ W (A6 W j)->x.1≠y.1
def Kc(W:A4)(k:Nat)(now old:List (Int×Int))(j:Nat):Prop:=∀q,q<j->(AI now q,AK now q)∉old->∀i,i<k->∀y,y∈CZ W (A6 W i)->AI now q≠y.1
def Zl(W:A4)(k:Nat)(now old:List (Int×Int))(j s:Nat):Prop:=(∃i,i<k/\∃b,((s:Int),b)∈CZ W (A6 W i))\/∃q,q<j/\AI now q=(s:Int)/\(AI now q,AK now q)∉old
def Fb(W:A4)(k:Nat)(now old:List (Int×Int))(j:Nat)(f:Nat->Bool):Prop:=∀s,f s=true↔Zl W k now old j s
variable{a b:List (Int×Int)}
theorem zAi(h:Pn W k)(hn:a=treeM W (A6 W k))(n:b=oldM W (A6 W k))(o:Kc W k a b a.length):Pn W (k+1):=by
 intro i hi j f x l y m;by_cases e:i=k
 ·subst e;obtain⟨c,d⟩:=List.mem_filter.1 l;rw[<-hn]at c;rw[<-n]at d;obtain⟨q,g,e⟩:=List.getElem_of_mem c;have:=o q g;unfold AI AK at this;rw[Co g,e]at this;exact this (by simpa using d) j f y m
 ·exact h i (by omega) j f x l y m
theorem zDe(h:Fb W k a b j f)(c:(AI a j,AK a j)∈b):Fb W k a b (j+1) f:=by
 intro s;rw[h s];constructor
 ·rintro(h | ⟨q,i,h⟩)
  ·exact Or.inl h
  ·exact Or.inr ⟨q,by omega,h⟩
 ·rintro(h | ⟨q,i,g,d⟩)
  ·exact Or.inl h
  ·by_cases e:q=j
   ·subst e;exact absurd c d
   ·exact Or.inr ⟨q,by omega,g,d⟩
theorem zDd(h:Fb W k a b j f)(hs:AI a j=(s:Int))(c:(AI a j,AK a j)∉b):Fb W k a b (j+1) (fun i=>if i=s then true else f i):=by
 intro i;show(if i=s then true else f i)=true↔_;by_cases e:i=s
 ·subst e;rw[if_pos rfl];exact⟨fun _=>Or.inr ⟨j,by omega,hs,c⟩,fun _=>rfl⟩
 ·rw[if_neg e,h i];constructor
  ·rintro(h | ⟨q,g,h⟩)
   ·exact Or.inl h
   ·exact Or.inr ⟨q,by omega,h⟩
  ·rintro(h | ⟨q,g,h,d⟩)
   ·exact Or.inl h
   ·by_cases eq:q=j
    ·subst eq;exact absurd (by omega) e
    ·exact Or.inr ⟨q,by omega,h,d⟩
theorem zFO(h:Kc W k a b j)(c:(AI a j,AK a j)∈b):Kc W k a b (j+1):=by
 intro q d;by_cases e:q=j
 ·subst e;exact fun h=>absurd c h
 ·exact h q (by omega)
theorem zFL(h:Kc W k a b j)(d:Fb W k a b j f)(hs:AI a j=(s:Int))(g:f s=false):Kc W k a b (j+1):=by
 intro q m;by_cases e:q=j
 ·subst e;intro _ i hi y l c;have:f s=true:=(d s).2 (Or.inl ⟨i,hi,y.2,by rw[<-hs,c];exact l⟩);rw[g]at this;exact absurd this (by simp)
 ·exact h q (by omega)
theorem zDg{g:List (Int×Int)}(h:Fb W k a g a.length f)(hn:a=treeM W (A6 W k))(m:g=oldM W (A6 W k)):Fb W (k+1) [] [] 0 f:=by
 intro s;rw[h s];constructor
 ·rintro(⟨i,hi,h⟩ | ⟨q,d,e,c⟩)
  ·exact Or.inl ⟨i,by omega,h⟩
  ·refine Or.inl ⟨k,by omega,(a[q]).2,?_⟩;unfold AI AK at c;unfold AI at e;rw[Co d]at e c;refine List.mem_filter.2 ⟨?_,?_⟩
   ·rw[<-hn,<-e];exact List.getElem_mem d
   ·rw[<-m,<-e];simpa using c
 ·rintro(⟨i,hi,b,c⟩ | ⟨q,d,_⟩)
  ·by_cases e:i=k
   ·subst e;obtain⟨j,l⟩:=List.mem_filter.1 c;rw[<-hn]at j;rw[<-m]at l;obtain⟨q,d,e⟩:=List.getElem_of_mem j;refine Or.inr ⟨q,d,?_⟩;unfold AI AK;rw[Co d,e];exact⟨rfl,by simpa using l⟩
   ·exact Or.inl ⟨i,by omega,b,c⟩
  ·omega
theorem zAQ(h:Fb W k [] [] 0 f)(a b:List (Int×Int)):Fb W k a b 0 f:=by
 intro s;rw[h s];constructor
 ·rintro(h | ⟨q,c,_⟩)
  ·exact Or.inl h
  ·omega
 ·rintro(h | ⟨q,c,_⟩)
  ·exact Or.inl h
  ·omega
theorem zAR{c:List (Int×Int)}(d:Db W)(n:k<memN W)(hn:a=treeM W (A6 W k))(v:c=oldM W (A6 W k))(t:Fb W k a c j f)(m:j<a.length)(hs:AI a j=(s:Int))(g:(AI a j,AK a j)∉c)(u:f s=true):¬IZ W:=by
 intro r;rcases(t s).1 u with⟨i,hi,b,h⟩ | ⟨q,w,e,y⟩
 ·refine r k n i hi (AI a j,AK a j) ?_ _ h hs;refine List.mem_filter.2 ⟨?_,by rw[<-v];simpa using g⟩;rw[<-hn];unfold AI AK;rw[Co m];exact List.getElem_mem m
 ·have o:=Kt d.right (l:=a) (fun x p=>by rw[hn]at p;exact(EY d.right (d.tree k n) p).1) (by rw[hn];exact Jr d.right (d.tree k n)) (by rw[hn];have:=D7 W.pool (A6 W k).rs (A6 W k).rb;unfold treeM;omega);exact o.2.2 j m q w (by rw[e,hs])
def DV(W:A4)(i:Nat):Prop:=ES (A6 W i).dn (A6 W i).ds (A6 W i).db (BN (oldM W (A6 W i)) (treeM W (A6 W i)))
structure Ab (W:A4):Prop where
 right:AX W.pool
 AP:Ct W
 lines:∀i,i<W.sn->Ek W (W.A2 i).name (W.A2 i).A5 (W.A2 i).origin
 A0:∀i,i<W.pn->An W.pool (W.A0 i).rs (W.A0 i).rb
 A2:∀i,i<W.sn->An W.pool (W.A2 i).rs (W.A2 i).rb/\DV W (W.pn+i)
 dead:∀i,i<W.pn->DV W i
 reach:Pq W
 born:∀i,i<memN W->ER W i
 BY:IZ W
theorem KK(h:∀k,k<W.pn->An W.pool (W.A0 k).rs (W.A0 k).rb)(x:Int):An W.pool (AB W x).rs (AB W x).rb:=by
 by_cases b:∃k,BB W x k
 ·obtain⟨k,a⟩:=b;rw[Cn a];exact h k a.1
 ·have:AB W x=CQ:=by
   unfold AB;rw[dif_neg b]
  rw[this];exact Or.inl ⟨rfl,rfl⟩
theorem Lj(f:AX W.pool)(b:Ct W)(c:∀i,i<W.pn->An W.pool (W.A0 i).rs (W.A0 i).rb)(d:∀i,i<W.sn->An W.pool (W.A2 i).rs (W.A2 i).rb):Db W where
 right:=f
 ids:=b.Cu.less
 tree:=fun i hi=>by
  by_cases a:i<W.pn
  ·rw[B9 a];exact c i a
  ·have e:=By W (i - W.pn);rw[show W.pn+(i - W.pn)=i by omega]at e;rw[e];unfold memN at hi;exact d _ (by omega)
 time:=fun i hi=>by
  by_cases a:i<W.pn
  ·rw[B9 a];have:1<=(W.A0 i).time:=(b.2.2.2.2.2 i a).1.2.2.1;show 0<=(W.A0 i).time;omega
  ·have e:=By W (i - W.pn);rw[show W.pn+(i - W.pn)=i by omega]at e;rw[e];have:1<=W.time:=b.1.1;show 0<=W.time;omega
structure E9 (w:World) (bs o kb:Nat) (kv:Value) (s:Ac):Prop where
 c0:AF w bs o (.string s.name)
 c1:AF w bs (o+1) (.int .i64 s.origin)
 c2:AF w bs (o+2) (.int .i64 s.A5)
 c3:AF w bs (o+3) (.int .i64 s.rs)
 c4:AF w bs (o+4) (.int .i64 s.rb)
 c5:AF w bs (o+5) kv
 dead:Bm w kb kv s.dn s.ds s.db
 Bo:s.name.size<=maxLen
 BY:0<s.dn->kb≠bs
variable{S:Nat->Prop}{bs o kb:Nat}{kv:Value}{s:Ac}
theorem E9.AD(h:E9 w bs o kb kv s)(t:AC S w w')(a:¬S bs)(b:0<s.dn->¬S kb):E9 w' bs o kb kv s:=
 ⟨h.c0.AD t a,h.c1.AD t a,h.c2.AD t a,h.c3.AD t a,h.c4.AD t a,h.c5.AD t a,h.dead.AD t b,h.Bo,h.BY⟩
theorem E9.A1(h:E9 w bs o kb kv s)(t:Below w.heap.size w w'):E9 w' bs o kb kv s:=
 h.AD (AC.CX (S:=fun _=>False) t) (fun h=>h) (fun _ h=>h)
variable{lo hi:Nat}
theorem E9.cells(h:E9 w bs o kb kv s)(a:0<s.dn->lo<=kb/\kb<hi):I2 w bs o lo hi kv s:=
 ⟨h.c0.1,h.c1.1,h.c2.1,h.c3.1,h.c4.1,h.c5.1,h.dead.at a,h.Bo⟩
theorem E9.deadLt(h:E9 w bs o kb kv s)(a:0<s.dn):kb<w.heap.size:=by
 obtain⟨_,_,_,_,_,b⟩:=h.dead;obtain⟨o,_,c⟩:=b a;exact(c 0 a).1.lt
def Dw(w:World)(bs:Nat)(kb:Nat->Nat)(kv:Nat->Value)(v:Value)(n:Nat)(f:Nat->Ac):Prop:=
 n<=maxLen/\∃a cap,v = .slice a n cap/\n<=cap/\(0<n->∃off,a=some ⟨bs,off,none⟩/\∀i,i<n->E9 w bs (off+i*6) (kb i) (kv i) (f i))
def GM(bs:Nat)(kb:Nat->Nat)(n:Nat)(f:Nat->Ac)(k:Nat):Prop:=(0<n/\k=bs)\/∃i,i<n/\0<(f i).dn/\k=kb i
def MD(kb:Nat->Nat)(n:Nat)(f:Nat->Ac):Prop:=∀i j,i<n->j<n->i≠j->0<(f i).dn->0<(f j).dn->kb i≠kb j
variable{kb:Nat->Nat}{kv:Nat->Value}{f:Nat->Ac}
theorem Dw.AD(h:Dw w bs kb kv v n f)(t:AC S w w')(hs:∀k,GM bs kb n f k->¬S k):Dw w' bs kb kv v n f:=by
 obtain⟨c,a,cap,hv,b,g⟩:=h;refine⟨c,a,cap,hv,b,fun hn=>?_⟩;obtain⟨off,e,d⟩:=g hn;exact⟨off,e,fun i hi=>(d i hi).AD t (hs _ (Or.inl ⟨hn,rfl⟩)) (fun h=>hs _ (Or.inr ⟨i,hi,h,rfl⟩))⟩
theorem Dw.A1(h:Dw w bs kb kv v n f)(t:Below w.heap.size w w'):Dw w' bs kb kv v n f:=
 h.AD (AC.CX (S:=fun _=>False) t) (fun _ _ h=>h)
theorem Dw.at(h:Dw w bs kb kv v n f)(c:∀k,GM bs kb n f k->lo<=k/\k<hi):De w lo hi v n f:=by
 obtain⟨e,a,cap,hv,b,l⟩:=h;refine⟨e,a,cap,hv,b,fun hn=>?_⟩;obtain⟨off,j,g⟩:=l hn;have d:=c _ (Or.inl ⟨hn,rfl⟩);exact⟨bs,off,j,d.1,d.2,fun i hi=>⟨_,(g i hi).cells (fun h=>c _ (Or.inr ⟨i,hi,h,rfl⟩))⟩⟩
theorem zES:(Tryz.prog.info? 70).map (fun i=>(i.zero,i.size,i.bytes))=some (some (.agg #[.string ⟨#[]⟩,.int .i64 0,.int .i64 0,.int .i64 0,.int .i64 0,.slice none 0 0]),6,72):=by kernel_rfl
structure EU (w:World) (bs o kb:Nat) (kv:Value) (s:AT):Prop where
 c0:AF w bs o (.int .i64 s.id)
 c1:AF w bs (o+1) (.string s.name)
 c2:AF w bs (o+2) (.string s.set)
 c3:AF w bs (o+3) (.int .i64 s.A5)
 c4:AF w bs (o+4) (.int .i64 s.time)
 c5:AF w bs (o+5) (.int .i64 s.rs)
 c6:AF w bs (o+6) (.int .i64 s.rb)
 c7:AF w bs (o+7) kv
 dead:Bm w kb kv s.dn s.ds s.db
 Bo:s.name.size<=maxLen/\s.set.size<=maxLen
 BY:0<s.dn->kb≠bs
variable{kb:Nat}{kv:Value}{s:AT}
theorem EU.AD(h:EU w bs o kb kv s)(t:AC S w w')(a:¬S bs)(b:0<s.dn->¬S kb):EU w' bs o kb kv s:=
 ⟨h.c0.AD t a,h.c1.AD t a,h.c2.AD t a,h.c3.AD t a,h.c4.AD t a,h.c5.AD t a,h.c6.AD t a,h.c7.AD t a,h.dead.AD t b,h.Bo,h.BY⟩
theorem EU.A1(h:EU w bs o kb kv s)(t:Below w.heap.size w w'):EU w' bs o kb kv s:=
 h.AD (AC.CX (S:=fun _=>False) t) (fun h=>h) (fun _ h=>h)
theorem EU.cells(h:EU w bs o kb kv s)(a:0<s.dn->lo<=kb/\kb<hi):Fp w bs o lo hi kv s:=
 ⟨h.c0.1,h.c1.1,h.c2.1,h.c3.1,h.c4.1,h.c5.1,h.c6.1,h.c7.1,h.dead.at a,h.Bo⟩
theorem EU.deadLt(h:EU w bs o kb kv s)(a:0<s.dn):kb<w.heap.size:=by
 obtain⟨_,_,_,_,_,b⟩:=h.dead;obtain⟨o,_,c⟩:=b a;exact(c 0 a).1.lt
def Fo(w:World)(bs:Nat)(kb:Nat->Nat)(kv:Nat->Value)(v:Value)(n:Nat)(f:Nat->AT):Prop:=
 n<=maxLen/\∃a cap,v = .slice a n cap/\n<=cap/\(0<n->∃off,a=some ⟨bs,off,none⟩/\∀i,i<n->EU w bs (off+i*8) (kb i) (kv i) (f i))
def Ic(bs:Nat)(kb:Nat->Nat)(n:Nat)(f:Nat->AT)(k:Nat):Prop:=(0<n/\k=bs)\/∃i,i<n/\0<(f i).dn/\k=kb i
def MM(kb:Nat->Nat)(n:Nat)(f:Nat->AT):Prop:=∀i j,i<n->j<n->i≠j->0<(f i).dn->0<(f j).dn->kb i≠kb j
variable{kb:Nat->Nat}{kv:Nat->Value}{f:Nat->AT}
theorem Fo.AD(h:Fo w bs kb kv v n f)(t:AC S w w')(hs:∀k,Ic bs kb n f k->¬S k):Fo w' bs kb kv v n f:=by
 obtain⟨c,a,cap,hv,b,g⟩:=h;refine⟨c,a,cap,hv,b,fun hn=>?_⟩;obtain⟨off,e,d⟩:=g hn;exact⟨off,e,fun i hi=>(d i hi).AD t (hs _ (Or.inl ⟨hn,rfl⟩)) (fun h=>hs _ (Or.inr ⟨i,hi,h,rfl⟩))⟩
theorem Fo.at(h:Fo w bs kb kv v n f)(c:∀k,Ic bs kb n f k->lo<=k/\k<hi):D8 w lo hi v n f:=by
 obtain⟨e,a,cap,hv,b,l⟩:=h;refine⟨e,a,cap,hv,b,fun hn=>?_⟩;obtain⟨off,j,g⟩:=l hn;have d:=c _ (Or.inl ⟨hn,rfl⟩);exact⟨bs,off,j,d.1,d.2,fun i hi=>⟨_,(g i hi).cells (fun h=>c _ (Or.inr ⟨i,hi,h,rfl⟩))⟩⟩
theorem yz:(Tryz.prog.info? 43).map (fun i=>(i.zero,i.size,i.bytes))=some (some (.agg #[.int .i64 0,.string ⟨#[]⟩,.string ⟨#[]⟩,.int .i64 0,.int .i64 0,.int .i64 0,.int .i64 0,.slice none 0 0]),8,96):=by kernel_rfl
end
end Go.Proofs.YtnfjcaoclahfjaaGreatDoor
