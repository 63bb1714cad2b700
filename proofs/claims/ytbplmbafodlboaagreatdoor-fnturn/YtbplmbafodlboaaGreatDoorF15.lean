/- A part of the proof. -/
import Derived.Test.YtbplmbafodlboaaGreatDoorF14
import Derived.ProofKit
set_option linter.unusedVariables false
set_option maxRecDepth 20000
set_option maxHeartbeats 4000000
namespace Go.Proofs.YtbplmbafodlboaaGreatDoor
open Go.RowKit
structure zHp where
 zcD:Int
 time:Int
 rs:Int
 rb:Int
 dn:Nat
 ds:Nat->Int
 db:Nat->Int
def zY7(s:zu):zHp:=⟨s.zcD,s.time,s.rs,s.rb,s.dn,s.ds,s.db⟩
def zY8(t:Int)(s:zAJ):zHp:=⟨s.zcD,t,s.rs,s.rb,s.dn,s.ds,s.db⟩
def zL(W:zC)(i:Nat):zHp:=if i<W.pn then zY7 (W.zb9 i)else zY8 W.time (W.zcC (i - W.pn))
def zt(W:zC):Nat:=W.pn+W.sn
theorem yW{W:zC}{i:Nat}(h:i<W.pn):zL W i=zY7 (W.zb9 i):=if_pos h
theorem zBF(W:zC)(i:Nat):zL W (W.pn+i)=zY8 W.time (W.zcC i):=by
 unfold zL;rw[if_neg (by omega),show W.pn+i - W.pn=i by omega]
def zBE:zu:=⟨0,ByteArray.empty,ByteArray.empty,0,0,0,0,0,fun _=>0,fun _=>0⟩
open Classical in
noncomputable def zI(W:zC)(x:Int):zu:=if h:∃k,zBQ W x k then W.zb9 h.choose else zBE
theorem zBr{W:zC}{x:Int}{k:Nat}(h:zBQ W x k):zI W x=W.zb9 k:=by
 unfold zI;rw[dif_pos ⟨k,h⟩,zBQ.uniq (Exists.choose_spec (⟨k,h⟩:∃k,zBQ W x k)) h]
theorem zIH{W:zC}{x:Int}(h:∀k,k<W.pn->(W.zb9 k).id≠x):zI W x=zBE:=by
 unfold zI;rw[dif_neg];rintro⟨k,hk⟩;exact h k hk.1 hk.2.1
theorem zKG{W:zC}{x:Int}:∀{n:Nat},n<=W.pn->(∃k,k<n/\(W.zb9 k).id=x)->∃k,zBQ W x k
 | 0,_,⟨k,hk,_⟩=>absurd hk (Nat.not_lt_zero _)
 | n+1,hn,⟨k,hk,e⟩=>by
  by_cases h:∃j,j<n/\(W.zb9 j).id=x
  ·exact zKG (by omega) h
  ·have:k=n:=by
    by_cases h':k<n
    ·exact absurd ⟨k,h',e⟩ h
    ·omega
   subst this;exact⟨k,by omega,e,fun j hj he=>h ⟨j,hj,he⟩⟩
def zBu(W:zC)(m:zHp):List (Int×Int):=zN W.pool m.rs m.rb
noncomputable def zFv(W:zC)(m:zHp):List (Int×Int):=zN W.pool (zI W m.zcD).rs (zI W m.zcD).rb
def zB7(l m:List (Int×Int)):List (Int×Int):=l.filter (fun x=>decide (x∉m))
def yv(l m:List (Int×Int)):List (Int×Int):=l.filter (fun x=>decide (x∈m))
def zCV(l:List (Int×Int))(t:Int):List (Int×Int):=l.filter (fun x=>decide (t<x.2))
noncomputable def zIe(W:zC)(m:zHp):List (Int×Int):=zB7 (zBu W m) (zFv W m)
noncomputable def zBK(W:zC)(m:zHp):List (Int×Int):=zCV (zBu W m) (zI W m.zcD).time
def zEN(n:Nat)(f g:Nat->Int)(l:List (Int×Int)):Prop:=zFf n f g l.length (zx l) (qS l)
def zKL(now old:List (Int×Int))(t tm:Int):Prop:=∀x,x∈now->x.2<=tm/\(x∈old↔x.2<=t)
def zNq(W:zC)(m:zHp):Prop:=zEN m.dn m.ds m.db (zB7 (zFv W m) (zBu W m))/\zKL (zBu W m) (zFv W m) (zI W m.zcD).time m.time
def zZf(W:zC)(m:zHp):Prop:=m.rb<=m.time/\zEN (zBK W m).length (zx (zBK W m)) (qS (zBK W m)) (zIe W m)/\zEN m.dn m.ds m.db (zB7 (zFv W m) (yv (zBu W m) (zFv W m)))
theorem zU7(l m:List (Int×Int)):zB7 m (yv l m)=zB7 m l:=by
 unfold zB7 yv;refine List.filter_congr fun x hx=>?_
 rw[decide_eq_decide];simp only[List.mem_filter,decide_eq_true_eq];exact⟨fun h h'=>h ⟨h',hx⟩,fun h h'=>h h'.1⟩
theorem zBL{l:List (Int×Int)}{i:Nat}(h:i<l.length):l.getD i (0,0)=l[i]:=by
 rw[List.getD_eq_getElem?_getD,List.getElem?_eq_getElem h,Option.getD_some]
theorem zE3{l:List (Int×Int)}{x y:Int}:PIn l.length (zx l) (qS l) x y↔(x,y)∈l:=by
 constructor
 ·rintro⟨j,hj,e1,e2⟩;unfold zx at e1;unfold qS at e2;rw[zBL hj]at e1 e2;have:l[j]=(x,y):=Prod.ext e1 e2;exact this▸List.getElem_mem hj
 ·intro h;obtain⟨j,hj,e⟩:=List.getElem_of_mem h;exact⟨j,hj,by unfold zx;rw[zBL hj,e],by unfold qS;rw[zBL hj,e]⟩
structure zFF (W:zC):Prop where
 right:zz W.pool
 ids:∀k,k<W.pn->(W.zb9 k).zcD<(W.zb9 k).id
 tree:∀i,i<zt W->qd W.pool (zL W i).rs (zL W i).rb
 time:∀i,i<zt W->0<=(zL W i).time
theorem zCZ{p:zF}{rs rb:Int}(hR:zz p)(hT:qd p rs rb){x:Int×Int}(hx:x∈zN p rs rb):yT p x.1 x.2/\x.2<=rb/\¬Has p.hn p.h x.1:=by
 rcases(zND hR).2 hT with hz | ⟨hP,_,hA⟩
 ·rw[zN,if_pos hz]at hx;simp at hx
 ·have:=zFT hR hP x hx;exact⟨this.1,this.2,hA.2 x hx⟩
theorem zCw{p:zF}{rs rb:Int}(hR:zz p)(hT:qd p rs rb):(zN p rs rb).Nodup:=by
 rcases(zND hR).2 hT with hz | ⟨hP,_,hA⟩
 ·rw[zN,if_pos hz];exact List.nodup_nil
 ·exact hA.1
theorem zVP{p:zF}{x y:Int}(hR:zz p)(h:yT p x y):zGp x y:=by
 have hf:=zAo hR h;have h1:=hR.1;obtain⟨a,b,c,d⟩:=h;have:=hf.1.2;exact⟨b,by omega,a,by omega⟩
theorem zDO{p:zF}(hR:zz p){l:List (Int×Int)}(h:∀x,x∈l->yT p x.1 x.2)(hn:l.Nodup)(hl:l.length<=200):zAF l.length (zx l) (qS l):=by
 have hs:=(zJ6 h).2 hn;refine⟨hl,fun i hi=>?_,fun i hi k hk=>?_⟩
 ·unfold zx qS;rw[zBL hi];exact zVP hR (h _ (List.getElem_mem hi))
 ·unfold zx;rw[zBL hi,zBL (show k<l.length by omega)];unfold zCf List.Nodup at hs;rw[List.pairwise_map]at hs;exact List.pairwise_iff_getElem.1 hs k i (by omega) hi hk
theorem zPf{p:zF}(hR:zz p){T:List (Int×Int)}(hT:∀x,x∈T->yT p x.1 x.2)(hn:T.Nodup)(hl:T.length<=200)(P Q:Int×Int->Bool) :
  zEN (T.filter P).length (zx (T.filter P)) (qS (T.filter P)) (T.filter Q)↔∀x,x∈T->P x=Q x:=by
 constructor
 ·rintro⟨_,_,aA,cA⟩;have h1:∀x,x∈T->P x=true->Q x=true:=fun x hx hp=>by
   have hm:x∈T.filter P:=List.mem_filter.2 ⟨hx,hp⟩;obtain⟨j,hj,e⟩:=List.getElem_of_mem hm;have:=cA j hj;rw[zE3]at this;unfold zx qS at this;rw[zBL hj,e]at this;exact(List.mem_filter.1 this).2
  have h2:(T.filter Q).filter P=T.filter P:=by
   rw[List.filter_filter];refine List.filter_congr fun x hx=>?_
   cases hp:P x
   ·rfl
   ·rw[h1 x hx hp];rfl
  have h3:((T.filter Q).filter P).length=(T.filter Q).length:=(by rw[h2,aA]);rw[List.length_filter_eq_length_iff]at h3;intro x hx;cases hq:Q x
  ·cases hp:P x
   ·rfl
   ·rw[h1 x hx hp]at hq;exact absurd hq (by simp)
  ·exact h3 x (List.mem_filter.2 ⟨hx,hq⟩)
 ·intro h;have e:T.filter P=T.filter Q:=List.filter_congr h;rw[e];have bA:zAF (T.filter Q).length (zx (T.filter Q)) (qS (T.filter Q)):=zDO hR (fun x hx=>hT x (List.mem_filter.1 hx).1) (hn.filter _) (Nat.le_trans (List.length_filter_le _ _) hl);exact⟨bA,bA,rfl,fun i hi=>⟨i,hi,rfl,rfl⟩⟩
theorem zMe{W:zC}(h:zFF W){i:Nat}(hi:i<zt W):zZf W (zL W i)↔zNq W (zL W i):=by
 generalize hm:zL W i=m;have hT:=h.tree i hi;have eA:=h.time i hi;rw[hm]at hT eA;have bA:(zBu W m).length<=200:=by have:=yR W.pool m.rs m.rb;unfold zBu;omega
 have fA:∀x,x∈zBu W m->yT W.pool x.1 x.2:=fun x hx=>(zCZ h.right hT hx).1
 unfold zZf zNq;rw[zU7];have key:zEN (zBK W m).length (zx (zBK W m)) (qS (zBK W m)) (zIe W m)↔∀x,x∈zBu W m->(x∈zFv W m↔x.2<=(zI W m.zcD).time):=by
  unfold zBK zIe zCV zB7;rw[zPf h.right fA (zCw h.right hT) bA];refine⟨fun hh x hx=>?_,fun hh x hx=>?_⟩
  ·have:=hh x hx;rw[decide_eq_decide]at this;constructor
   ·intro aA;by_cases dA:(zI W m.zcD).time<x.2
    ·exact absurd aA (this.1 dA)
    ·omega
   ·intro cA;by_cases aA:x∈zFv W m
    ·exact aA
    ·have:=this.2 aA;omega
  ·rw[decide_eq_decide];have:=hh x hx;constructor
   ·intro dA aA;have:=this.1 aA;omega
   ·intro aA;by_cases cA:x.2<=(zI W m.zcD).time
    ·exact absurd (this.2 cA) aA
    ·omega
 rw[key];constructor
 ·rintro⟨h1,h2,h3⟩;exact⟨h3,fun x hx=>⟨by have:=(zCZ h.right hT hx).2.1;omega,h2 x hx⟩⟩
 ·rintro⟨h1,h2⟩;refine⟨?_,fun x hx=>(h2 x hx).2,h1⟩;by_cases hz:Nil m.rs m.rb
  ·rw[hz.2];exact eA
  ·have hr:(m.rs,m.rb)∈zBu W m:=(by unfold zBu zN;rw[if_neg hz];simp);exact(h2 _ hr).1
theorem zVl{W:zC}{m:zHp}(hS:zNq W m):zBK W m=zIe W m:=by
 unfold zBK zIe zCV zB7;refine List.filter_congr fun x hx=>?_
 rw[decide_eq_decide];have:=(hS.2 x hx).2;constructor
 ·intro h1 h2;have:=this.1 h2;omega
 ·intro h1;by_cases h2:x.2<=(zI W m.zcD).time
  ·exact absurd (this.2 h2) h1
  ·omega
open Classical in
noncomputable def cnt(P:Nat->Prop):Nat->Nat
 | 0=>0
 | k+1=>cnt P k+(if P k then 1 else 0)
theorem zEg{P Q:Nat->Prop}:∀{n:Nat},(∀i,i<n->(P i↔Q i))->cnt P n=cnt Q n
 | 0,_=>rfl
 | n+1,h=>by
  unfold cnt;rw[zEg (fun i hi=>h i (by omega))];by_cases hp:P n
  ·rw[if_pos hp,if_pos ((h n (by omega)).1 hp)]
  ·rw[if_neg hp,if_neg (fun hq=>hp ((h n (by omega)).2 hq))]
theorem zWC{P Q:Nat->Prop}:∀{n:Nat},(∀i,i<n->P i->Q i)->cnt P n<=cnt Q n
 | 0,_=>Nat.le_refl _
 | n+1,h=>by
  unfold cnt;have:=zWC (n:=n) (fun i hi=>h i (by omega));by_cases hp:P n
  ·rw[if_pos hp,if_pos (h n (by omega) hp)];omega
  ·rw[if_neg hp];omega
theorem zLo{P Q:Nat->Prop}:∀{n:Nat},(∀i,i<n->P i->Q i)->(cnt P n=cnt Q n↔∀i,i<n->(P i↔Q i))
 | 0,_=>⟨fun _ i hi=>absurd hi (Nat.not_lt_zero _),fun _=>rfl⟩
 | n+1,h=>by
  refine⟨fun e=>?_,fun e=>zEg e⟩;have aA:=zWC (n:=n) (fun i hi=>h i (by omega));have ih:=zLo (n:=n) (fun i hi=>h i (by omega));unfold cnt at e;have hn:P n↔Q n:=by
   refine⟨h n (by omega),fun hq=>?_⟩;by_cases hp:P n
   ·exact hp
   ·rw[if_neg hp,if_pos hq]at e;omega
  have e':cnt P n=cnt Q n:=by
   by_cases hp:P n
   ·rw[if_pos hp,if_pos (hn.1 hp)]at e;omega
   ·rw[if_neg hp,if_neg (fun hq=>hp (hn.2 hq))]at e;omega
  intro i hi;by_cases e2:i=n
  ·subst e2;exact hn
  ·exact ih.1 e' i (by omega)
theorem zRz{P Q:Nat->Prop}:∀{n:Nat},(∀i,i<n->P i->¬Q i)->cnt (fun i=>P i\/Q i) n=cnt P n+cnt Q n
 | 0,_=>rfl
 | n+1,h=>by
  unfold cnt;rw[zRz (fun i hi=>h i (by omega))];by_cases hp:P n
  ·rw[if_pos (Or.inl hp),if_pos hp,if_neg (h n (by omega) hp)];omega
  ·by_cases hq:Q n
   ·rw[if_pos (Or.inr hq),if_neg hp,if_pos hq];omega
   ·rw[if_neg (fun h=>h.elim hp hq),if_neg hp,if_neg hq];omega
theorem zTJ(P:Nat->Prop):∀n,cnt P n+cnt (fun i=>¬P i) n=n
 | 0=>rfl
 | n+1=>by
  have:=zTJ P n;unfold cnt;by_cases hp:P n
  ·rw[if_pos hp,if_neg (fun h=>h hp)];omega
  ·rw[if_neg hp,if_pos hp];omega
theorem zLp{P:Nat->Prop}:∀{n:Nat},(∀i,i<n->¬P i)->cnt P n=0
 | 0,_=>rfl
 | n+1,h=>by
  unfold cnt;rw[zLp (fun i hi=>h i (by omega)),if_neg (h n (by omega))]
theorem zTK:∀{n a:Nat},a<n->cnt (fun i=>i=a) n=1
 | 0,a,h=>absurd h (Nat.not_lt_zero _)
 | n+1,a,h=>by
  unfold cnt;by_cases e:n=a
  ·subst e;rw[if_pos rfl,zLp (fun i hi=>by omega)]
  ·rw[if_neg e,zTK (by omega)]
theorem zI3{n:Nat}:∀{l:List Nat},l.Nodup->(∀x,x∈l->x<n)->cnt (fun i=>i∈l) n=l.length
 | [],_,_=>zLp (fun i hi=>by simp)
 | a :: l,hn,hl=>by
  obtain⟨h1,h2⟩:=List.nodup_cons.1 hn;have e1:cnt (fun i=>i∈a :: l) n=cnt (fun i=>i=a\/i∈l) n:=zEg (fun i _=>List.mem_cons);have e2:cnt (fun i=>i=a\/i∈l) n=cnt (fun i=>i=a) n+cnt (fun i=>i∈l) n:=zRz (fun i _ (e:i=a) hi=>h1 (e▸hi));rw[e1,e2,zTK (hl a (by simp)),zI3 h2 (fun x hx=>hl x (by simp[hx])),List.length_cons];omega
theorem zQL(f:Nat->zM):∀n,roomN f n=cnt (fun i=>yh (f i)) n
 | 0=>rfl
 | n+1=>by unfold roomN cnt;rw[zQL f n]
theorem zWB{p:zF}(hR:zz p):cnt (fun i=>Has p.hn p.h i) p.n=p.hn:=by
 have h:=hR.2.2;have hl:∀x,x∈(List.range p.hn).map (fun j=>(p.h j).toNat)->x<p.n:=by
  intro x hx;obtain⟨j,hj,rfl⟩:=List.mem_map.1 hx;have:=h j (List.mem_range.1 hj);have h1:=this.1;have h2:=this.2.1;omega
 have hn:((List.range p.hn).map (fun j=>(p.h j).toNat)).Nodup:=by
  unfold List.Nodup;rw[List.pairwise_map];refine List.Pairwise.imp_of_mem ?_ (List.pairwise_lt_range);intro a b ha hb aA e;have h1:=h a (List.mem_range.1 ha);have h2:=h b (List.mem_range.1 hb);have:=h1.1;have:=h2.1;exact h2.2.2.2 ⟨a,aA,by omega⟩
 have:=zI3 hn hl;rw[List.length_map,List.length_range]at this;refine Eq.trans (zEg (fun i hi=>?_)) this;constructor
 ·rintro⟨j,hj,e⟩;exact List.mem_map.2 ⟨j,List.mem_range.2 hj,by rw[e];simp⟩
 ·intro hx;obtain⟨j,hj,e⟩:=List.mem_map.1 hx;have:=(h j (List.mem_range.1 hj)).1;exact⟨j,List.mem_range.1 hj,by omega⟩
theorem zQK{p:zF}(hR:zz p):cnt (fun i=>¬yh (p.s i)/\¬Has p.hn p.h i) p.n+roomN p.s p.n+p.hn=p.n:=by
 have h1:=zTJ (fun i=>yh (p.s i)\/Has p.hn p.h i) p.n;have h2:cnt (fun i=>yh (p.s i)\/Has p.hn p.h i) p.n=cnt (fun i=>yh (p.s i)) p.n+cnt (fun i=>Has p.hn p.h i) p.n:=zRz (fun i hi hf=>by
  rintro⟨j,hj,e⟩;have:=(hR.2.2 j hj).2.2.1;rw[e]at this;simp only[Int.toNat_natCast]at this;exact this hf)
 rw[zWB hR,<-zQL]at h2;have h3:cnt (fun i=>¬(yh (p.s i)\/Has p.hn p.h i)) p.n=cnt (fun i=>¬yh (p.s i)/\¬Has p.hn p.h i) p.n:=zEg (fun i _=>not_or);omega
def zTC(W:zC):Prop:=∀i,i<W.pool.n->((∃m,m<zt W/\∃b,((i:Int),b)∈zBu W (zL W m))↔(¬yh (W.pool.s i)/\¬Has W.pool.hn W.pool.h i))
def zIB(W:zC):Prop:=∀i,i<zt W->∀j,j<i->∀x,x∈zIe W (zL W i)->∀y,y∈zIe W (zL W j)->x.1≠y.1
noncomputable def zq(W:zC):Nat->List (Int×Int)
 | 0=>[]
 | k+1=>zq W k ++ zBK W (zL W k)
def zIs(W:zC):Prop:=(zq W (zt W)).Nodup/\(zq W (zt W)).length+roomN W.pool.s W.pool.n+W.pool.hn=W.pool.n
theorem zFr{W:zC}{x:Int×Int}:∀{k:Nat},x∈zq W k↔∃i,i<k/\x∈zBK W (zL W i)
 | 0=>by simp[zq]
 | k+1=>by
  unfold zq;rw[List.mem_append,zFr];constructor
  ·rintro(⟨i,hi,h⟩ | h)
   ·exact⟨i,by omega,h⟩
   ·exact⟨k,by omega,h⟩
  ·rintro⟨i,hi,h⟩;by_cases e:i=k
   ·subst e;exact Or.inr h
   ·exact Or.inl ⟨i,by omega,h⟩
theorem zKW{W:zC}:∀{k:Nat},(∀i,i<k->(zBK W (zL W i)).Nodup)->((zq W k).Nodup↔∀i,i<k->∀j,j<i->∀x,x∈zBK W (zL W i)->x∉zBK W (zL W j))
 | 0,_=>⟨fun _ i hi=>absurd hi (Nat.not_lt_zero _),fun _=>List.nodup_nil⟩
 | k+1,hy=>by
  unfold zq;rw[List.nodup_append,zKW (fun i hi=>hy i (by omega))];constructor
  ·rintro⟨h1,h2,h3⟩ i hi j hj x hx aA;by_cases e:i=k
   ·subst e;exact h3 x (zFr.2 ⟨j,hj,aA⟩) x hx rfl
   ·exact h1 i (by omega) j hj x hx aA
  ·intro h;refine⟨fun i hi=>h i (by omega),hy k (by omega),fun x hx y bA e=>?_⟩;subst e;obtain⟨i,hi,hx⟩:=zFr.1 hx;exact h k (by omega) i hi x bA hx
theorem zQc{W:zC}(h:zFF W){x:Int×Int}:∀(N:Nat) (k:Nat),k<W.pn->(W.zb9 k).id<N->0<=(W.zb9 k).id->(∀j,j<W.pn->0<=(W.zb9 j).id)->x∈zBu W (zL W k)->∃i,i<zt W/\x∈zIe W (zL W i)
 | 0,k,hk,h1,h2,_,_=>by omega
 | N+1,k,hk,h1,h2,h0,hx=>by
  by_cases ho:x∈zFv W (zL W k)
  ·have aA:∃j,zBQ W (zL W k).zcD j:=by
    refine Classical.byContradiction fun bA=>?_
    have:zI W (zL W k).zcD=zBE:=(by unfold zI;rw[dif_neg bA]);unfold zFv at ho;rw[this,zN,if_pos ⟨rfl,rfl⟩]at ho;simp at ho
   obtain⟨j,hj⟩:=aA;unfold zFv at ho;rw[zBr hj]at ho;have e1:(zL W k).zcD=(W.zb9 k).zcD:=(by rw[yW hk];rfl);have:=h.ids k hk;have:=hj.2.1;exact zQc h N j hj.1 (by omega) (h0 j hj.1) h0 (by rw[yW hj.1];exact ho)
  ·exact⟨k,by unfold zt;omega,List.mem_filter.2 ⟨hx,by simpa using ho⟩⟩
theorem zWR{W:zC}(h:zFF W)(h0:∀j,j<W.pn->0<=(W.zb9 j).id){x:Int×Int}{m:Nat}(hm:m<zt W)(hx:x∈zBu W (zL W m)):∃i,i<zt W/\x∈zIe W (zL W i):=by
 by_cases ho:x∈zFv W (zL W m)
 ·have aA:∃j,zBQ W (zL W m).zcD j:=by
   refine Classical.byContradiction fun bA=>?_
   have:zI W (zL W m).zcD=zBE:=(by unfold zI;rw[dif_neg bA]);unfold zFv at ho;rw[this,zN,if_pos ⟨rfl,rfl⟩]at ho;simp at ho
  obtain⟨j,hj⟩:=aA;unfold zFv at ho;rw[zBr hj]at ho;have:=h0 j hj.1;exact zQc h ((W.zb9 j).id.toNat+1) j hj.1 (by omega) (h0 j hj.1) h0 (by rw[yW hj.1];exact ho)
 ·exact⟨m,hm,List.mem_filter.2 ⟨hx,by simpa using ho⟩⟩
theorem zOB{W:zC}(h:zFF W)(h0:∀j,j<W.pn->0<=(W.zb9 j).id)(hM:∀i,i<zt W->zNq W (zL W i)):zIs W↔zTC W/\zIB W:=by
 have hy:∀i,i<zt W->zBK W (zL W i)=zIe W (zL W i):=fun i hi=>zVl (hM i hi)
 have oA:∀i,i<zt W->(zBK W (zL W i)).Nodup:=fun i hi=>(zCw h.right (h.tree i hi)).filter _
 have kA:∀i,i<zt W->∀x,x∈zIe W (zL W i)->x∈zBu W (zL W i):=fun i _ x hx=>(List.mem_filter.1 hx).1
 have fA:∀i,i<zt W->∀x,x∈zBu W (zL W i)->yT W.pool x.1 x.2/\¬Has W.pool.hn W.pool.h x.1:=fun i hi x hx=>⟨(zCZ h.right (h.tree i hi) hx).1,(zCZ h.right (h.tree i hi) hx).2.2⟩
 have eA:∀x y:Int×Int,yT W.pool x.1 x.2->yT W.pool y.1 y.2->x.1=y.1->x=y:=fun x y hx dA e=>by
  have a1:=hx.2.2.2;have a2:=dA.2.2.2;rw[e]at a1;exact Prod.ext e (a1.symm.trans a2)
 have hA:(zq W (zt W)).Nodup↔zIB W:=by
  rw[zKW oA];unfold zIB;constructor
  ·intro hh i hi j hj x hx y dA e;have sA:=eA x y (fA i hi x (kA i hi x hx)).1 (fA j (by omega) y (kA j (by omega) y dA)).1 e;subst sA;exact hh i hi j hj x (by rw[hy i hi];exact hx) (by rw[hy j (by omega)];exact dA)
  ·intro hh i hi j hj x hx rA;exact hh i hi j hj x (by rw[<-hy i hi];exact hx) x (by rw[<-hy j (by omega)];exact rA) rfl
 have aA:∀x,x∈zq W (zt W)↔∃m,m<zt W/\x∈zBu W (zL W m):=fun x=>by
  rw[zFr];constructor
  ·rintro⟨i,hi,hx⟩;rw[hy i hi]at hx;exact⟨i,hi,kA i hi x hx⟩
  ·rintro⟨m,hm,hx⟩;obtain⟨i,hi,hx⟩:=zWR h h0 hm hx;exact⟨i,hi,by rw[hy i hi];exact hx⟩
 unfold zIs;rw[hA];constructor
 ·rintro⟨ha,nA⟩;refine⟨?_,ha⟩;have bA:=hA.2 ha;have hpL:∀x,x∈zq W (zt W)->yT W.pool x.1 x.2:=fun x hx=>by
   obtain⟨m,hm,hx⟩:=(aA x).1 hx;exact(fA m hm x hx).1
  have hl:∀x,x∈(zq W (zt W)).map (fun x=>x.1.toNat)->x<W.pool.n:=by
   intro x hx;obtain⟨y,dA,rfl⟩:=List.mem_map.1 hx;have:=hpL y dA;have h1:=this.2.1;have h2:=this.2.2.1;omega
  have mA:((zq W (zt W)).map (fun x=>x.1.toNat)).Nodup:=by
   unfold List.Nodup;rw[List.pairwise_map];refine List.Pairwise.imp_of_mem ?_ bA;intro a b gA iA lA e;have p1:=hpL a gA;have p2:=hpL b iA;have:=p1.2.1;have:=p2.2.1;exact lA (eA a b p1 p2 (by omega))
  have hc:=zI3 mA hl;rw[List.length_map]at hc;have hr:=zQK h.right;have cA:∀i,i<W.pool.n->(i∈(zq W (zt W)).map (fun x=>x.1.toNat)↔∃m,m<zt W/\∃b,((i:Int),b)∈zBu W (zL W m)):=by
   intro i hi;rw[List.mem_map];constructor
   ·rintro⟨x,hx,e⟩;have:=(hpL x hx).2.1;obtain⟨m,hm,hx⟩:=(aA x).1 hx;exact⟨m,hm,x.2,by rw[show(i:Int)=x.1 by omega];exact hx⟩
   ·rintro⟨m,hm,b,hx⟩;exact⟨(i,b),(aA _).2 ⟨m,hm,hx⟩,by simp⟩
  have jA:∀i,i<W.pool.n->i∈(zq W (zt W)).map (fun x=>x.1.toNat)->¬yh (W.pool.s i)/\¬Has W.pool.hn W.pool.h i:=by
   intro i hi hx;obtain⟨m,hm,b,hx⟩:=(cA i hi).1 hx;have:=fA m hm _ hx;refine⟨fun hf=>?_,this.2⟩;have h1:=this.1.1;have h2:=this.1.2.2.2;simp only[Int.toNat_natCast]at h2;rw[hf.1]at h2;simp only at h1 h2;omega
  have:=(zLo jA).1 (by rw[hc];omega);intro i hi;rw[<-cA i hi];exact this i hi
 ·rintro⟨pA,ha⟩;refine⟨ha,?_⟩;have bA:=hA.2 ha;have hpL:∀x,x∈zq W (zt W)->yT W.pool x.1 x.2:=fun x hx=>by
   obtain⟨m,hm,hx⟩:=(aA x).1 hx;exact(fA m hm x hx).1
  have hl:∀x,x∈(zq W (zt W)).map (fun x=>x.1.toNat)->x<W.pool.n:=by
   intro x hx;obtain⟨y,dA,rfl⟩:=List.mem_map.1 hx;have:=hpL y dA;have h1:=this.2.1;have h2:=this.2.2.1;omega
  have mA:((zq W (zt W)).map (fun x=>x.1.toNat)).Nodup:=by
   unfold List.Nodup;rw[List.pairwise_map];refine List.Pairwise.imp_of_mem ?_ bA;intro a b gA iA lA e;have p1:=hpL a gA;have p2:=hpL b iA;have:=p1.2.1;have:=p2.2.1;exact lA (eA a b p1 p2 (by omega))
  have hc:=zI3 mA hl;rw[List.length_map]at hc;have hr:=zQK h.right;have cA:∀i,i<W.pool.n->(i∈(zq W (zt W)).map (fun x=>x.1.toNat)↔∃m,m<zt W/\∃b,((i:Int),b)∈zBu W (zL W m)):=by
   intro i hi;rw[List.mem_map];constructor
   ·rintro⟨x,hx,e⟩;have:=(hpL x hx).2.1;obtain⟨m,hm,hx⟩:=(aA x).1 hx;exact⟨m,hm,x.2,by rw[show(i:Int)=x.1 by omega];exact hx⟩
   ·rintro⟨m,hm,b,hx⟩;exact⟨(i,b),(aA _).2 ⟨m,hm,hx⟩,by simp⟩
  have:=zEg (P:=fun i=>i∈(zq W (zt W)).map (fun x=>x.1.toNat)) (Q:=fun i=>¬yh (W.pool.s i)/\¬Has W.pool.hn W.pool.h i) (n:=W.pool.n) (fun i hi=>(cA i hi).trans (pA i hi));omega
open Go.Maps
theorem zB5.atW{w:World}{base:Nat}{v:Value}{l:List (Int×Int)}(h:zB5 w base v l)(hm:l.length<=1000):qi w 0 w.heap.size v l.length (zx l) (qS l):=by
 obtain⟨b,h1,h2⟩:=h.own (by unfold maxLen;omega);exact h1.at (fun h0=>⟨Nat.zero_le _,(h2 h0).2.2⟩)
def zZe(now old:List (Int×Int))(t tm:Int)(n:Nat):Prop:=∀i,i<n->qS now i<=tm/\((zx now i,qS now i)∈old↔qS now i<=t)
theorem zTE(aA bA:List (Int×Int))(t tm:Int):zZe aA bA t tm aA.length↔zKL aA bA t tm:=by
 constructor
 ·intro h x hx;obtain⟨j,hj,e⟩:=List.getElem_of_mem hx;have:=h j hj;unfold zx qS at this;rw[zBL hj,e]at this;exact this
 ·intro h i hi;have:=h _ (List.getElem_mem hi);unfold zx qS;rw[zBL hi];exact this
def zOq(W:zC):Prop:=∀k,k<W.pn->1<=(W.zb9 k).id
def zGB(i:Nat)(c:Int):Prop:=(97<=c/\c<=122)\/(i≠0/\((48<=c/\c<=57)\/c=95))
def zDT(s:ByteArray):Prop:=1<=s.size/\s.size<=20/\∀j,(h:j<s.size)->zGB j (s[j].toNat:Int)
theorem zbr{s:ByteArray}{k:Nat}(cA:k<s.size)(aA:∀j,(h:j<k)->(h':j<s.size)->zGB j (s[j].toNat:Int))(bA:zGB k (s[k].toNat:Int)) :
  ∃m:Nat,m<=s.size/\Value.int .i64 ((k:Int)+1) = .int .i64 (m:Int)/\∀j,(h:j<m)->(h':j<s.size)->zGB j (s[j].toNat:Int):=by
 refine⟨k+1,by omega,by simp,fun j h h'=>?_⟩;by_cases e:j=k
 ·subst e;exact bA
 ·exact aA j (by omega) h'
theorem zbq{s:ByteArray}(bA:0<s.size)(aA:zGB 0 (s[0].toNat:Int)) :
  ∃m:Nat,m<=s.size/\Value.int .i64 1 = .int .i64 (m:Int)/\∀j,(h:j<m)->(h':j<s.size)->zGB j (s[j].toNat:Int):=by
 refine⟨1,by omega,by simp,fun j h h'=>?_⟩;obtain rfl:j=0:=by omega
 exact aA
theorem zJE(s:ByteArray)(w:World)(hs:s.size<=maxLen) :
  Calls Tryz.prog 137 #[.string s] w fun e w'=>zK (zDT s) e/\w'=w:=by
 unfold maxLen at hs;by_cases h1:s.size<1
 ·have eA:(s.size:Int)<1:=(by omega);go_enter Tryz.func137,Tryz.ntmps137;go_wp2;go_ret;exact⟨⟨false,rfl,by simp[zDT];omega⟩,rfl⟩
 by_cases h2:20<s.size
 ·have gA:(20:Int)<(s.size:Int):=(by omega);have eA:¬(s.size:Int)<1:=(by omega);go_enter Tryz.func137,Tryz.ntmps137;go_wp2;go_ret;exact⟨⟨false,rfl,by simp[zDT];omega⟩,rfl⟩
 have eA:¬(s.size:Int)<1:=by omega
 have gA:¬(20:Int)<(s.size:Int):=by omega
 have h0:0<s.size:=by omega
 by_cases cA:97<=(s[0].toNat:Int)/\(s[0].toNat:Int)<=122
 ·obtain⟨fA,iA⟩:=cA;go_enter Tryz.func137,Tryz.ntmps137;go_wp2
  go_loop [20] (fun i=>∃k:Nat,k<=s.size/\i = .int .i64 k/\∀j,(h:j<k)->(h':j<s.size)->zGB j (s[j].toNat:Int)) (fun i=>s.size - (intOf i).toNat)
  case atStart=>exact⟨0,Nat.zero_le _,rfl,fun j h=>absurd h (Nat.not_lt_zero _)⟩
  case round=>
   obtain⟨k,hk,rfl,bA⟩:=hrel;have aA:Hid (∀j,(h:j<k)->(h':j<s.size)->zGB j (s[j].toNat:Int)):=bA;clear bA;by_cases dA:k<s.size
   ·by_cases jA:k=0
    all_goals try subst jA
    all_goals go_wp2
    all_goals try (go_ret;refine⟨⟨false,rfl,?_⟩,rfl⟩;simp only[Bool.false_eq_true,false_iff];intro h;have h3:=h.2.2 _ dA;unfold zGB at h3;first | omega | grind)
    all_goals
     go_round
     case measure=>simp[intOf];omega
     case rel=>first | exact zbq dA (by unfold zGB;first | omega | grind) | exact zbr dA aA.out (by unfold zGB;first | omega | grind)
   ·go_wp2;go_ret;refine⟨⟨true,rfl,?_⟩,rfl⟩;simp only[true_iff];exact⟨by omega,by omega,fun j h=>aA.out j (by omega) h⟩
 ·by_cases fA:97<=(s[0].toNat:Int)
  ·have iA:¬(s[0].toNat:Int)<=122:=fun h=>cA ⟨fA,h⟩
   clear cA;go_enter Tryz.func137,Tryz.ntmps137;go_wp2;go_ret;refine⟨⟨false,rfl,?_⟩,rfl⟩;simp only[Bool.false_eq_true,false_iff];intro h;have h3:=h.2.2 _ h0;unfold zGB at h3;omega
  ·clear cA;go_enter Tryz.func137,Tryz.ntmps137;go_wp2;go_ret;refine⟨⟨false,rfl,?_⟩,rfl⟩;simp only[Bool.false_eq_true,false_iff];intro h;have h3:=h.2.2 _ h0;unfold zGB at h3;omega
def zC8(a b:ByteArray):Prop:=Op.bytesLess a.toList b.toList=true
theorem zQD:∀x y:List UInt8,Op.bytesLess x y=true\/x=y\/Op.bytesLess y x=true
 | [],[]=>Or.inr (Or.inl rfl)
 | [],b :: y=>Or.inl (by simp[Op.bytesLess])
 | a :: x,[]=>Or.inr (Or.inr (by simp[Op.bytesLess]))
 | a :: x,b :: y=>by
  simp only[Op.bytesLess,Bool.or_eq_true,decide_eq_true_eq,Bool.and_eq_true,beq_iff_eq,List.cons.injEq];by_cases h:a=b
  ·subst h;rcases zQD x y with h | h | h
   ·exact Or.inl (Or.inr ⟨rfl,h⟩)
   ·exact Or.inr (Or.inl ⟨rfl,h⟩)
   ·exact Or.inr (Or.inr (Or.inr ⟨rfl,h⟩))
  ·have:a<b\/b<a:=by
    have aA:a.toNat≠b.toNat:=fun e=>h (UInt8.toNat_inj.1 e)
    rw[UInt8.lt_iff_toNat_lt,UInt8.lt_iff_toNat_lt];omega
   rcases this with h | h
   ·exact Or.inl (Or.inl h)
   ·exact Or.inr (Or.inr (Or.inl h))
theorem zNt:∀x:List UInt8,Op.bytesLess x x=false
 | []=>rfl
 | a :: x=>by simp[Op.bytesLess,zNt x]
theorem zQC:∀x y:List UInt8,Op.bytesLess x y=true->Op.bytesLess y x=false
 | [],[],h=>by simp[Op.bytesLess]at h
 | [],b :: y,_=>by simp[Op.bytesLess]
 | a :: x,[],h=>by simp[Op.bytesLess]at h
 | a :: x,b :: y,h=>by
  simp only[Op.bytesLess,Bool.or_eq_true,decide_eq_true_eq,Bool.and_eq_true,beq_iff_eq]at h;rw[<-Bool.not_eq_true];simp only[Op.bytesLess,Bool.or_eq_true,decide_eq_true_eq,Bool.and_eq_true,beq_iff_eq,UInt8.lt_iff_toNat_lt]at h ⊢;rintro(h' | ⟨h',h2⟩)
  ·rcases h with h | ⟨h,_⟩
   ·omega
   ·subst h;omega
  ·subst h';rcases h with h | ⟨_,h⟩
   ·omega
   ·rw[zQC x y h]at h2;exact absurd h2 (by simp)
theorem zCY{a b:ByteArray}(h:a.toList=b.toList):a=b:=by
 rw[Go.ByteArray.toList_eq,Go.ByteArray.toList_eq]at h;cases a;cases b;simp only[ByteArray.mk.injEq]at *;exact Array.toList_inj.1 h
theorem zTe(a b:ByteArray):(Op.bytesLess a.toList b.toList || a.toList == b.toList)=false↔zC8 b a:=by
 unfold zC8;rw[Bool.or_eq_false_iff,beq_eq_false_iff_ne];constructor
 ·rintro⟨h1,h2⟩;rcases zQD a.toList b.toList with h | h | h
  ·rw[h1]at h;exact absurd h (by simp)
  ·exact absurd h h2
  ·exact h
 ·intro h;refine⟨zQC _ _ h,fun e=>?_⟩;rw[e,zNt]at h;exact absurd h (by simp)
def zCO(W:zC)(x:Int):Prop:=∃k,k<W.pn/\(W.zb9 k).id=x
def zBo(W:zC)(x:ByteArray):Prop:=∃k,k<W.sn/\(W.zcC k).name=x
def zLQ(W:zC)(i:Nat):Prop:=zDT (W.zcC i).name/\(0<i->zC8 (W.zcC (i - 1)).name (W.zcC i).name)/\((W.zcC i).zcD≠0->zCO W (W.zcC i).zcD)/\((W.zcC i).origin≠0->zCO W (W.zcC i).origin)
def zbI(W:zC)(i:Nat):Prop:=1<=(W.zb9 i).id/\(W.zb9 i).id<W.next/\1<=(W.zb9 i).time/\(W.zb9 i).time<W.time/\zDT (W.zb9 i).name/\zBo W (W.zb9 i).set
def zZk(W:zC)(i:Nat):Prop:=(0<i->(W.zb9 (i - 1)).id<(W.zb9 i).id/\(W.zb9 (i - 1)).time<(W.zb9 i).time)/\((W.zb9 i).zcD≠0->(W.zb9 i).zcD<(W.zb9 i).id/\zCO W (W.zb9 i).zcD)
def zZl(W:zC)(i j:Nat):Prop:=∀k,k<j->¬((W.zb9 k).set=(W.zb9 i).set/\(W.zb9 k).name=(W.zb9 i).name)
def zRt(W:zC)(i:Nat):Prop:=zbI W i/\zZk W i/\zZl W i i
def zBk(W:zC):Prop:=zHQ W.time 1 900000/\zHQ W.next 1 900000/\W.sn<=8/\W.pn<=20/\(∀i,i<W.sn->zLQ W i)/\∀i,i<W.pn->zRt W i
theorem zLz{W:zC}{x r:Int}(h:zOo W.pn (fun k=>(W.zb9 k).id=x) r):(zCO W x/\0<=r/\r<W.pn/\(W.zb9 r.toNat).id=x)\/(¬zCO W x/\r = -1):=by
 rcases h with⟨k,hk,e,_,rfl⟩ | ⟨hn,rfl⟩
 ·exact Or.inl ⟨⟨k,hk,e⟩,by omega,by omega,by simpa using e⟩
 ·exact Or.inr ⟨fun ⟨k,hk,e⟩=>hn k hk e,rfl⟩
theorem zUq{W:zC}{x:ByteArray}{r:Int}(h:zOo W.sn (fun k=>(W.zcC k).name=x) r):(zBo W x/\0<=r)\/(¬zBo W x/\r = -1):=by
 rcases h with⟨k,hk,e,_,rfl⟩ | ⟨hn,rfl⟩
 ·exact Or.inl ⟨⟨k,hk,e⟩,by omega⟩
 ·exact Or.inr ⟨fun ⟨k,hk,e⟩=>hn k hk e,rfl⟩
def zF7(w:World)(b:Nat)(v0 v1 v2 v3 v4 v5 v6 v7:Value):Prop:=(zg w b 0 v0/\zg w b 1 v1/\zg w b 2 v2/\zg w b 3 v3)/\(zg w b 4 v4/\zg w b 5 v5/\zg w b 6 v6/\zg w b 7 v7)
theorem zF7.zb7{w w':World}{b:Nat}{v0 v1 v2 v3 v4 v5 v6 v7:Value}(h:zF7 w b v0 v1 v2 v3 v4 v5 v6 v7)(t:Below w.heap.size w w'):zF7 w' b v0 v1 v2 v3 v4 v5 v6 v7:=
 ⟨⟨h.1.1.zb7 t,h.1.2.1.zb7 t,h.1.2.2.1.zb7 t,h.1.2.2.2.zb7 t⟩,h.2.1.zb7 t,h.2.2.1.zb7 t,h.2.2.2.1.zb7 t,h.2.2.2.2.zb7 t⟩
theorem zF7.new(w:World)(v0 v1 v2 v3 v4 v5 v6 v7:Value)(t:TypeId):zF7 (w.alloc (.cells #[v0,v1,v2,v3,v4,v5,v6,v7] t)) w.heap.size v0 v1 v2 v3 v4 v5 v6 v7:=by
 have hb:(w.alloc (.cells #[v0,v1,v2,v3,v4,v5,v6,v7] t)).heap[w.heap.size]?=some (.cells #[v0,v1,v2,v3,v4,v5,v6,v7] t):=heap_alloc_new _ _;exact⟨⟨zG hb rfl,zG hb rfl,zG hb rfl,zG hb rfl⟩,zG hb rfl,zG hb rfl,zG hb rfl,zG hb rfl⟩
set_option linter.unusedSimpArgs false
set_option maxRecDepth 20000
set_option maxHeartbeats 1600000
def setsE(fl:Fl)(s:Nat->zAJ):Nat->Nat->Tr:=fun i c=>match c with
 | 0=>.v (.string (s i).name)
 | 1=>.v (.int .i64 (s i).origin)
 | 2=>.v (.int .i64 (s i).zcD)
 | 3=>.v (.int .i64 (s i).rs)
 | 4=>.v (.int .i64 (s i).rb)
 | 5=>.s fl 2 (s i).dn (ptrsT (s i).ds (s i).db)
 | _=>.v (.bool false)
def snapsE(fl:Fl)(s:Nat->zu):Nat->Nat->Tr:=fun i c=>match c with
 | 0=>.v (.int .i64 (s i).id)
 | 1=>.v (.string (s i).name)
 | 2=>.v (.string (s i).set)
 | 3=>.v (.int .i64 (s i).zcD)
 | 4=>.v (.int .i64 (s i).time)
 | 5=>.v (.int .i64 (s i).rs)
 | 6=>.v (.int .i64 (s i).rb)
 | 7=>.s fl 2 (s i).dn (ptrsT (s i).ds (s i).db)
 | _=>.v (.bool false)
section
variable {fl fl' : Fl} {s : Nat -> zAJ} {t : Nat -> zu} {i k n : Nat}
theorem zAS:setsE fl s i 0 = .v (.string (s i).name):=rfl
theorem zAT:setsE fl s i 1 = .v (.int .i64 (s i).origin):=rfl
theorem zAU:setsE fl s i 2 = .v (.int .i64 (s i).zcD):=rfl
theorem zAV:setsE fl s i 3 = .v (.int .i64 (s i).rs):=rfl
theorem zAW:setsE fl s i 4 = .v (.int .i64 (s i).rb):=rfl
theorem zAX:setsE fl s i 5 = .s fl 2 (s i).dn (ptrsT (s i).ds (s i).db):=rfl
theorem yX:snapsE fl t i 0 = .v (.int .i64 (t i).id):=rfl
theorem yY:snapsE fl t i 1 = .v (.string (t i).name):=rfl
theorem yZ:snapsE fl t i 2 = .v (.string (t i).set):=rfl
theorem yb:snapsE fl t i 3 = .v (.int .i64 (t i).zcD):=rfl
theorem yd:snapsE fl t i 4 = .v (.int .i64 (t i).time):=rfl
theorem ye:snapsE fl t i 5 = .v (.int .i64 (t i).rs):=rfl
theorem yf:snapsE fl t i 6 = .v (.int .i64 (t i).rb):=rfl
theorem yg:snapsE fl t i 7 = .s fl 2 (t i).dn (ptrsT (t i).ds (t i).db):=rfl
theorem yG:(Tr.s fl k n (setsE fl' s)).lend = .s .b k n (setsE .b s):=by
 simp only[Tr.lend];congr 1;funext i c
 match c with
 | 0 | 1 | 2 | 3 | 4=>rfl
 | 5=>exact zb
 | c+6=>rfl
theorem qe:(Tr.s fl k n (snapsE fl' t)).lend = .s .b k n (snapsE .b t):=by
 simp only[Tr.lend];congr 1;funext i c
 match c with
 | 0 | 1 | 2 | 3 | 4 | 5 | 6=>rfl
 | 7=>exact zb
 | c+8=>rfl
end
abbrev woL(W:zC):List Tr:=[.s .b 3 W.pool.n (zU .b W.pool.s),.s .b 1 W.pool.hn (qh W.pool.h),.v (.int .i64 W.time),.v (.int .i64 W.next),.s .b 6 W.sn (setsE .b W.zcC),.s .b 8 W.pn (snapsE .b W.zb9)]
abbrev woT(W:zC):Bool×List Tr:=(true,woL W)
abbrev woO(W:zC):Bool×List Tr:=(true,[.s .o 3 W.pool.n (zU .z W.pool.s),.s .o 1 W.pool.hn (qh W.pool.h),.v (.int .i64 W.time),.v (.int .i64 W.next),.s .o 6 W.sn (setsE .o W.zcC),.s .o 8 W.pn (snapsE .z W.zb9)])
def zah(f:Nat->Tr):zAJ:=⟨zEA (f 0),qg (f 1),qg (f 2),qg (f 3),qg (f 4),zE9 (f 5),fun i=>qg (zCS (f 5) i 0),fun i=>qg (zCS (f 5) i 1)⟩
def zYl(f:Nat->Tr):zu:=⟨qg (f 0),zEA (f 1),zEA (f 2),qg (f 3),qg (f 4),qg (f 5),qg (f 6),zE9 (f 7),fun i=>qg (zCS (f 7) i 0),fun i=>qg (zCS (f 7) i 1)⟩
def zC1(f:Nat->Tr):zC:=⟨zEt (f 0) (f 1),qg (f 2),qg (f 3),zE9 (f 4),fun i=>zah (zCS (f 4) i),zE9 (f 5),fun i=>zYl (zCS (f 5) i)⟩
attribute [local go_sem] qW List.map_cons List.map_nil Tr.cv yo qG qw qv yn ym yk qu zAv zAx zAw zAs zAu zAt zCK zCM zCL qK zn qL zo qE qD qP yx zk zl yB qJ tmpsOf zAf yA qI zAr yu yq yp yr stpP opds opd opdC kap zAE qF zj coreU bin zAY zB6 get put dlO fgt zA6 zAz zA3 zA4 tyT yj yi Op.operands Call.operands evLoad evLen evStore evAlloc zAZ and_true true_and List.append_nil List.nil_append List.cons_append Ret resCv zBx yP cellM zBT zB3 qX StW StR hpT hpO hpV hpA hpL hpC sg nin zCD bdO tmW obW AvE CsE CvE Av.tup Av.ids Cv.ids inD ObE Ob.ids TrE.refl qH qx qy qM qN qO zm zb za yw zBd zCB zAy evCall argL argOf qj outOb obO yM zy cvO tot Tr.own rid partsOf fillC zT zBS frz frz1 evBuildSlice zc trs Cv.tr evSlice Option.toArray_none Option.toArray_some evMakeSlice evAppend dstOf srcOf zAq zA5 zA2 zA0 zA1 ikT qt qs qq qp RetP RetN zBe qR evLd evSt evStoreH zAP evAppendM evAppendT tlOf mvOf rowE shp evTake oOf evC evCallP evCallN evCallO unlast zAK zAp zAO argsF zCA qn pmC varT vT evField evConv dB0 Option.bind_some Option.bind_none Option.map_some Option.map_none Option.isSome_some Option.isSome_none
attribute [local go_sem] yF zY zAk yN qk zAS zAT zAU zAV zAW zAX yX yY yZ yb yd ye yf yg yG qe
noncomputable def zBl(n:Nat)(P:Nat->Prop):Int:=@dite _ (∃k,k<n/\P k/\∀j,j<k->¬P j) (Classical.propDecidable _) (fun h=>(h.choose:Int)) (fun _=>-1)
theorem zFj{n k:Nat}{P:Nat->Prop}(h:k<n)(h1:P k)(h2:∀j,j<k->¬P j):zBl n P=k:=by
 have hx:∃k,k<n/\P k/\∀j,j<k->¬P j:=⟨k,h,h1,h2⟩;unfold zBl;rw[dif_pos hx];obtain⟨-,g1,g2⟩:=hx.choose_spec;rcases Nat.lt_trichotomy hx.choose k with e | e | e
 ·exact absurd g1 (h2 _ e)
 ·exact congrArg _ e
 ·exact absurd h1 (g2 _ e)
theorem zPC{n:Nat}{P:Nat->Prop}(h:∀k,k<n->¬P k):zBl n P = -1:=dif_neg fun ⟨k,h1,h2,_⟩=>h k h1 h2
theorem zJB(n:Nat)(P:Nat->Prop):zOo n P (zBl n P):=by
 by_cases hx:∃k,k<n/\P k/\∀j,j<k->¬P j
 ·obtain⟨k,h,h1,h2⟩:=hx;exact .inl ⟨k,h,h1,h2,zFj h h1 h2⟩
 ·have hn:∀m,m<=n->∀j,j<m->¬P j:=fun m=>by
   induction m with
   | zero=>intro _ j hj;omega
   | succ m ih=>
    intro hm j hj hp;by_cases e:j<m
    ·exact ih (by omega) j e hp
    ·cases (show j=m by omega);exact hx ⟨m,by omega,hp,ih (by omega)⟩
  exact .inr ⟨hn n (Nat.le_refl _),zPC (hn n (Nat.le_refl _))⟩
noncomputable def zaJ:zW:=qZ (fun q:zC×Int=>[woT q.1,iT q.2]) (fun q=>q.1.pn<=1000000) (fun q=>[iT (zBl q.1.pn fun k=>(q.1.zb9 k).id=q.2)])
theorem zCI(W:zC)(x:Int):zaJ [woT W,iT x]=some (W.pn<=1000000,[iT (zBl W.pn fun k=>(W.zb9 k).id=x)]):=zO (fun l=>(zC1 (nth l 0),qg (nth l 1 0))) (fun _=>rfl) (W,x)
theorem zDI:zw Tryz.prog 68 zaJ:=by
 refine zQ zs GOk.nil zr Tryz.func68 rfl Tryz.ntmps68 Tryz.results68 6 ?_;rintro⟨W,x⟩ hn;replace hn:W.pn<=1000000:=hn;refine⟨by simp,?_⟩;simp[go_sem];refine yE (fun k:Nat=>⟨[(2,true,.m false [.p 2 0]),(1,true,.i x),(5,true,.i k)],[(2,.var ((woL W).map Tr.cv))]⟩) (fun k=>W.pn - k) (fun k=>k<=W.pn/\∀i,i<k->(W.zb9 i).id≠x) 0 (by simp[go_sem]) (by simp) ?_;rintro k ⟨hk,aA⟩;simp[go_sem,qB (show k<=1000000000 by omega)];refine⟨fun hl=>⟨hl,fun h=>(zFj hl h aA).symm,fun h=>⟨k+1,⟨by omega,qz hl aA h⟩,by omega,rfl⟩⟩,fun hl=>(zPC fun i hi=>aA i (by omega)).symm⟩
noncomputable def zbi:zW:=qZ (fun q:zC×ByteArray=>[woT q.1,sT q.2]) (fun q=>q.1.sn<=1000000) (fun q=>[iT (zBl q.1.sn fun k=>(q.1.zcC k).name=q.2)])
theorem zAN(W:zC)(x:ByteArray):zbi [woT W,sT x]=some (W.sn<=1000000,[iT (zBl W.sn fun k=>(W.zcC k).name=x)]):=zO (fun l=>(zC1 (nth l 0),zEA (nth l 1 0))) (fun _=>rfl) (W,x)
theorem zDN:zw Tryz.prog 66 zbi:=by
 refine zQ zs GOk.nil zr Tryz.func66 rfl Tryz.ntmps66 Tryz.results66 6 ?_;rintro⟨W,x⟩ hn;replace hn:W.sn<=1000000:=hn;refine⟨by simp,?_⟩;simp[go_sem];refine yE (fun k:Nat=>⟨[(2,true,.m false [.p 2 0]),(1,true,.m false [.v (.string x)]),(5,true,.i k)],[(2,.var ((woL W).map Tr.cv))]⟩) (fun k=>W.sn - k) (fun k=>k<=W.sn/\∀i,i<k->(W.zcC i).name≠x) 0 (by simp[go_sem]) (by simp) ?_;rintro k ⟨hk,aA⟩;simp[go_sem,qB (show k<=1000000000 by omega)];refine⟨fun hl=>⟨hl,fun h=>(zFj hl (zCY h) aA).symm,fun h=>⟨k+1,⟨by omega,qz hl aA fun e=>h (congrArg ByteArray.toList e)⟩,by omega,rfl⟩⟩,fun hl=>(zPC fun i hi=>aA i (by omega)).symm⟩
noncomputable def zDY(W:zC)(x:Int):zu:=@ite _ (x=0) (Int.instDecidableEq x 0) zBE (zI W x)
noncomputable def zWq:zW:=qZ (fun q:zC×Int=>[woT q.1,iT q.2]) (fun q=>q.1.pn<=1000000) (fun q=>[pT (zDY q.1 q.2).rs (zDY q.1 q.2).rb,iT (zDY q.1 q.2).time])
theorem zDu(W:zC)(x:Int):zWq [woT W,iT x]=some (W.pn<=1000000,[pT (zDY W x).rs (zDY W x).rb,iT (zDY W x).time]):=zO (fun l=>(zC1 (nth l 0),qg (nth l 1 0))) (fun _=>rfl) (W,x)
theorem zDM:zw Tryz.prog 98 zWq:=by
 refine zQ zs (GOk.cons zDI (zE Tryz.func68 rfl rfl) GOk.nil) zr Tryz.func98 rfl Tryz.ntmps98 Tryz.results98 7 ?_;rintro⟨W,x⟩ hn;replace hn:W.pn<=1000000:=hn;refine⟨by simp,?_⟩;simp[go_sem,zCI,hn];obtain⟨k,h1,h2,h3,h4⟩ | ⟨h1,h2⟩:=zJB W.pn fun k=>(W.zb9 k).id=x
 ·rw[h4];have ha:zI W x=W.zb9 k:=zBr ⟨h1,h2,h3⟩;refine⟨fun h=>?_,fun h0 _=>⟨⟨by omega,by omega⟩,by kernel_rfl,?_⟩⟩
  ·have h0:x=0:=(by omega);rw[show zDY W x=zBE from if_pos h0];exact⟨⟨rfl,rfl⟩,rfl⟩
  ·rw[show zDY W x=zI W x from if_neg h0,ha];exact⟨⟨rfl,rfl⟩,rfl⟩
 ·rw[h2];refine⟨fun _=>?_,fun _ h=>absurd h (by decide)⟩;by_cases h0:x=0
  ·rw[show zDY W x=zBE from if_pos h0];exact⟨⟨rfl,rfl⟩,rfl⟩
  ·rw[show zDY W x=zI W x from if_neg h0,zIH h1];exact⟨⟨rfl,rfl⟩,rfl⟩
def nwW(x:Int):zC:=if 0<=x/\x<=200 then⟨zCC x.toNat,1,1,0,fun _=>⟨⟨#[]⟩,0,0,0,0,0,fun _=>0,fun _=>0⟩,0,fun _=>zBE⟩else⟨zCC 0,0,0,0,fun _=>⟨⟨#[]⟩,0,0,0,0,0,fun _=>0,fun _=>0⟩,0,fun _=>zBE⟩
noncomputable def zaQ:zW:=qZ (fun x:Int=>[iT x]) (fun _=>True) (fun x=>[woO (nwW x)])
theorem zHA(x:Int):zaQ [iT x]=some (True,[woO (nwW x)]):=zO (fun l=>qg (nth l 0 0)) (fun _=>rfl) x
theorem zGs:zw Tryz.prog 23 zaQ:=by
 refine zQ zs (GOk.cons zG5 (zE Tryz.func45 rfl rfl) (GOk.cons zRo (zE Tryz.func46 rfl rfl) GOk.nil)) zr Tryz.func23 rfl Tryz.ntmps23 Tryz.results23 4 ?_;rintro x -;refine⟨by simp,?_⟩;simp[go_sem,zMX,zW3];refine⟨fun h=>?_,fun h1 h2=>?_⟩
 ·rw[show nwW x=_ from if_neg fun e=>absurd (h e.1) (by omega)];exact⟨rfl,rfl,rfl,rfl,rfl,rfl⟩
 ·rw[show nwW x=_ from if_pos ⟨h1,h2⟩,show zH2 x=x.toNat from if_pos ⟨h1,h2⟩];exact⟨⟨TrE.refl _,zR⟩,⟨TrE.refl _,zX⟩,rfl,rfl,rfl,rfl⟩
structure zJp (w:World) (bs o kb:Nat) (kv:Value) (s:zAJ):Prop where
 c0:zg w bs o (.string s.name)
 c1:zg w bs (o+1) (.int .i64 s.origin)
 c2:zg w bs (o+2) (.int .i64 s.zcD)
 c3:zg w bs (o+3) (.int .i64 s.rs)
 c4:zg w bs (o+4) (.int .i64 s.rb)
 c5:zg w bs (o+5) kv
 dead:zAQ w kb kv s.dn s.ds s.db
 zcG:s.name.size<=maxLen
 zcI:0<s.dn->kb≠bs
theorem zJp.zb8{S:Nat->Prop}{w w':World}{bs o kb:Nat}{kv:Value}{s:zAJ}(h:zJp w bs o kb kv s)(t:zJ S w w')(h1:¬S bs)(h2:0<s.dn->¬S kb):zJp w' bs o kb kv s:=
 ⟨h.c0.zb8 t h1,h.c1.zb8 t h1,h.c2.zb8 t h1,h.c3.zb8 t h1,h.c4.zb8 t h1,h.c5.zb8 t h1,h.dead.zb8 t h2,h.zcG,h.zcI⟩
theorem zJp.cells{w:World}{bs o kb:Nat}{kv:Value}{s:zAJ}(h:zJp w bs o kb kv s){lo hi:Nat}(hb:0<s.dn->lo<=kb/\kb<hi):zDV w bs o lo hi kv s:=
 ⟨h.c0.1,h.c1.1,h.c2.1,h.c3.1,h.c4.1,h.c5.1,h.dead.at hb,h.zcG⟩
def zD4(w:World)(bs:Nat)(kb:Nat->Nat)(kv:Nat->Value)(v:Value)(n:Nat)(f:Nat->zAJ):Prop:=
 n<=maxLen/\∃a cap,v = .slice a n cap/\n<=cap/\(0<n->∃off,a=some ⟨bs,off,none⟩/\∀i,i<n->zJp w bs (off+i*6) (kb i) (kv i) (f i))
def zP3(bs:Nat)(kb:Nat->Nat)(n:Nat)(f:Nat->zAJ)(k:Nat):Prop:=(0<n/\k=bs)\/∃i,i<n/\0<(f i).dn/\k=kb i
def zNp(kb:Nat->Nat)(n:Nat)(f:Nat->zAJ):Prop:=∀i j,i<n->j<n->i≠j->0<(f i).dn->0<(f j).dn->kb i≠kb j
theorem zD4.zb8{S:Nat->Prop}{w w':World}{bs:Nat}{kb:Nat->Nat}{kv:Nat->Value}{v:Value}{n:Nat}{f:Nat->zAJ}(h:zD4 w bs kb kv v n f)(t:zJ S w w')(hs:∀k,zP3 bs kb n f k->¬S k):zD4 w' bs kb kv v n f:=by
 obtain⟨h0,a,cap,hv,aA,hc⟩:=h;refine⟨h0,a,cap,hv,aA,fun hn=>?_⟩;obtain⟨off,ha,h3⟩:=hc hn;exact⟨off,ha,fun i hi=>(h3 i hi).zb8 t (hs _ (Or.inl ⟨hn,rfl⟩)) (fun h=>hs _ (Or.inr ⟨i,hi,h,rfl⟩))⟩
theorem zD4.zb7{w w':World}{bs:Nat}{kb:Nat->Nat}{kv:Nat->Value}{v:Value}{n:Nat}{f:Nat->zAJ}(h:zD4 w bs kb kv v n f)(t:Below w.heap.size w w'):zD4 w' bs kb kv v n f:=
 h.zb8 (zJ.of_below (S:=fun _=>False) t) (fun _ _ h=>h)
theorem zD4.at{w:World}{bs:Nat}{kb:Nat->Nat}{kv:Nat->Value}{v:Value}{n:Nat}{f:Nat->zAJ}(h:zD4 w bs kb kv v n f){lo hi:Nat}(hb:∀k,zP3 bs kb n f k->lo<=k/\k<hi):zCd w lo hi v n f:=by
 obtain⟨h0,a,cap,hv,aA,hc⟩:=h;refine⟨h0,a,cap,hv,aA,fun hn=>?_⟩;obtain⟨off,ha,h3⟩:=hc hn;have hx:=hb _ (Or.inl ⟨hn,rfl⟩);exact⟨bs,off,ha,hx.1,hx.2,fun i hi=>⟨_,(h3 i hi).cells (fun h=>hb _ (Or.inr ⟨i,hi,h,rfl⟩))⟩⟩
theorem zQh:(Tryz.prog.info? 72).map (fun i=>(i.zero,i.size,i.bytes))=some (some (.agg #[.string ⟨#[]⟩,.int .i64 0,.int .i64 0,.int .i64 0,.int .i64 0,.slice none 0 0]),6,72):=by kernel_rfl
structure zHU (w:World) (bs o kb:Nat) (kv:Value) (s:zu):Prop where
 c0:zg w bs o (.int .i64 s.id)
 c1:zg w bs (o+1) (.string s.name)
 c2:zg w bs (o+2) (.string s.set)
 c3:zg w bs (o+3) (.int .i64 s.zcD)
 c4:zg w bs (o+4) (.int .i64 s.time)
 c5:zg w bs (o+5) (.int .i64 s.rs)
 c6:zg w bs (o+6) (.int .i64 s.rb)
 c7:zg w bs (o+7) kv
 dead:zAQ w kb kv s.dn s.ds s.db
 zcG:s.name.size<=maxLen/\s.set.size<=maxLen
 zcI:0<s.dn->kb≠bs
theorem zHU.zb8{S:Nat->Prop}{w w':World}{bs o kb:Nat}{kv:Value}{s:zu}(h:zHU w bs o kb kv s)(t:zJ S w w')(h1:¬S bs)(h2:0<s.dn->¬S kb):zHU w' bs o kb kv s:=
 ⟨h.c0.zb8 t h1,h.c1.zb8 t h1,h.c2.zb8 t h1,h.c3.zb8 t h1,h.c4.zb8 t h1,h.c5.zb8 t h1,h.c6.zb8 t h1,h.c7.zb8 t h1,h.dead.zb8 t h2,h.zcG,h.zcI⟩
theorem zHU.cells{w:World}{bs o kb:Nat}{kv:Value}{s:zu}(h:zHU w bs o kb kv s){lo hi:Nat}(hb:0<s.dn->lo<=kb/\kb<hi):zCz w bs o lo hi kv s:=
 ⟨h.c0.1,h.c1.1,h.c2.1,h.c3.1,h.c4.1,h.c5.1,h.c6.1,h.c7.1,h.dead.at hb,h.zcG⟩
def zC9(w:World)(bs:Nat)(kb:Nat->Nat)(kv:Nat->Value)(v:Value)(n:Nat)(f:Nat->zu):Prop:=
 n<=maxLen/\∃a cap,v = .slice a n cap/\n<=cap/\(0<n->∃off,a=some ⟨bs,off,none⟩/\∀i,i<n->zHU w bs (off+i*8) (kb i) (kv i) (f i))
def zLU(bs:Nat)(kb:Nat->Nat)(n:Nat)(f:Nat->zu)(k:Nat):Prop:=(0<n/\k=bs)\/∃i,i<n/\0<(f i).dn/\k=kb i
def zLT(kb:Nat->Nat)(n:Nat)(f:Nat->zu):Prop:=∀i j,i<n->j<n->i≠j->0<(f i).dn->0<(f j).dn->kb i≠kb j
theorem zC9.zb8{S:Nat->Prop}{w w':World}{bs:Nat}{kb:Nat->Nat}{kv:Nat->Value}{v:Value}{n:Nat}{f:Nat->zu}(h:zC9 w bs kb kv v n f)(t:zJ S w w')(hs:∀k,zLU bs kb n f k->¬S k):zC9 w' bs kb kv v n f:=by
 obtain⟨h0,a,cap,hv,aA,hc⟩:=h;refine⟨h0,a,cap,hv,aA,fun hn=>?_⟩;obtain⟨off,ha,h3⟩:=hc hn;exact⟨off,ha,fun i hi=>(h3 i hi).zb8 t (hs _ (Or.inl ⟨hn,rfl⟩)) (fun h=>hs _ (Or.inr ⟨i,hi,h,rfl⟩))⟩
theorem zC9.zb7{w w':World}{bs:Nat}{kb:Nat->Nat}{kv:Nat->Value}{v:Value}{n:Nat}{f:Nat->zu}(h:zC9 w bs kb kv v n f)(t:Below w.heap.size w w'):zC9 w' bs kb kv v n f:=
 h.zb8 (zJ.of_below (S:=fun _=>False) t) (fun _ _ h=>h)
theorem zC9.at{w:World}{bs:Nat}{kb:Nat->Nat}{kv:Nat->Value}{v:Value}{n:Nat}{f:Nat->zu}(h:zC9 w bs kb kv v n f){lo hi:Nat}(hb:∀k,zLU bs kb n f k->lo<=k/\k<hi):zBg w lo hi v n f:=by
 obtain⟨h0,a,cap,hv,aA,hc⟩:=h;refine⟨h0,a,cap,hv,aA,fun hn=>?_⟩;obtain⟨off,ha,h3⟩:=hc hn;have hx:=hb _ (Or.inl ⟨hn,rfl⟩);exact⟨bs,off,ha,hx.1,hx.2,fun i hi=>⟨_,(h3 i hi).cells (fun h=>hb _ (Or.inr ⟨i,hi,h,rfl⟩))⟩⟩
theorem zOG:(Tryz.prog.info? 75).map (fun i=>(i.zero,i.size,i.bytes))=some (some (.agg #[.int .i64 0,.string ⟨#[]⟩,.string ⟨#[]⟩,.int .i64 0,.int .i64 0,.int .i64 0,.int .i64 0,.slice none 0 0]),8,96):=by kernel_rfl
def zEP(w:World)(S:Nat->Prop)(v:Value)(n:Nat)(f:Nat->zAJ):Prop:=∃(bs:Nat) (kb:Nat->Nat) (kv:Nat->Value),zD4 w bs kb kv v n f/\zNp kb n f/\∀k,zP3 bs kb n f k->S k
def zDE(w:World)(S:Nat->Prop)(v:Value)(n:Nat)(f:Nat->zu):Prop:=∃(bs:Nat) (kb:Nat->Nat) (kv:Nat->Value),zC9 w bs kb kv v n f/\zLT kb n f/\∀k,zLU bs kb n f k->S k
theorem zEP.zb8{S T:Nat->Prop}{w w':World}{v:Value}{n:Nat}{f:Nat->zAJ}(h:zEP w S v n f)(t:zJ T w w')(hs:∀k,S k->¬T k):zEP w' S v n f:=by
 obtain⟨bs,kb,kv,h1,h2,h3⟩:=h;exact⟨bs,kb,kv,h1.zb8 t (fun k hk=>hs k (h3 k hk)),h2,h3⟩
theorem zDE.zb8{S T:Nat->Prop}{w w':World}{v:Value}{n:Nat}{f:Nat->zu}(h:zDE w S v n f)(t:zJ T w w')(hs:∀k,S k->¬T k):zDE w' S v n f:=by
 obtain⟨bs,kb,kv,h1,h2,h3⟩:=h;exact⟨bs,kb,kv,h1.zb8 t (fun k hk=>hs k (h3 k hk)),h2,h3⟩
theorem zEP.zb7{S:Nat->Prop}{w w':World}{v:Value}{n:Nat}{f:Nat->zAJ}(h:zEP w S v n f)(t:Below w.heap.size w w'):zEP w' S v n f:=by
 obtain⟨bs,kb,kv,h1,h2,h3⟩:=h;exact⟨bs,kb,kv,h1.zb7 t,h2,h3⟩
theorem zDE.zb7{S:Nat->Prop}{w w':World}{v:Value}{n:Nat}{f:Nat->zu}(h:zDE w S v n f)(t:Below w.heap.size w w'):zDE w' S v n f:=by
 obtain⟨bs,kb,kv,h1,h2,h3⟩:=h;exact⟨bs,kb,kv,h1.zb7 t,h2,h3⟩
theorem zEP.at{S:Nat->Prop}{w:World}{v:Value}{n:Nat}{f:Nat->zAJ}(h:zEP w S v n f){lo hi:Nat}(hs:∀k,S k->lo<=k/\k<hi):zCd w lo hi v n f:=by
 obtain⟨bs,kb,kv,h1,h2,h3⟩:=h;exact h1.at (fun k hk=>hs k (h3 k hk))
theorem zDE.at{S:Nat->Prop}{w:World}{v:Value}{n:Nat}{f:Nat->zu}(h:zDE w S v n f){lo hi:Nat}(hs:∀k,S k->lo<=k/\k<hi):zBg w lo hi v n f:=by
 obtain⟨bs,kb,kv,h1,h2,h3⟩:=h;exact h1.at (fun k hk=>hs k (h3 k hk))
theorem zEP.zcF{S:Nat->Prop}{w:World}{v:Value}{n:Nat}{f:Nat->zAJ}(h:zEP w S v n f):∃a c,v = .slice a n c/\n<=c:=by
 obtain⟨bs,kb,kv,⟨_,a,c,hv,hc,_⟩,h2,h3⟩:=h;exact⟨a,c,hv,hc⟩
theorem zDE.zcF{S:Nat->Prop}{w:World}{v:Value}{n:Nat}{f:Nat->zu}(h:zDE w S v n f):∃a c,v = .slice a n c/\n<=c:=by
 obtain⟨bs,kb,kv,⟨_,a,c,hv,hc,_⟩,h2,h3⟩:=h;exact⟨a,c,hv,hc⟩
theorem zCk.zcF{w:World}{S:Nat->Prop}{v0 v1:Value}{p:zF}(h:zCk w S v0 v1 p):∃a c a' c',v0 = .slice a p.n c/\v1 = .slice a' p.hn c':=by
 obtain⟨bs,hb,kb,kv,⟨_,a,c,h1,_⟩,h2,⟨_,a',c',h3,_,_⟩,h4,h5⟩:=h;exact⟨a,c,a',c',h1,h3⟩
structure zFG (w:World) (P Q R:Nat->Prop) (v0 v1 v2 v3:Value) (W:zC):Prop where
 pool:zCk w P v0 v1 W.pool
 zcC:zEP w Q v2 W.sn W.zcC
 zb9:zDE w R v3 W.pn W.zb9
 pq:∀k,P k->¬Q k
 pr:∀k,P k->¬R k
 qr:∀k,Q k->¬R k
def zAm(w:World)(lo hi:Nat)(v0 v1 v2 v3:Value)(W:zC):Prop:=∃P Q R,zFG w P Q R v0 v1 v2 v3 W/\∀k,P k\/Q k\/R k->lo<=k/\k<hi
theorem zAm.at{w:World}{lo hi:Nat}{v0 v1 v2 v3:Value}{W:zC}(h:zAm w lo hi v0 v1 v2 v3 W):yQ w lo hi v0 v1 v2 v3 W:=by
 obtain⟨P,Q,R,h,hl⟩:=h;exact⟨h.pool.at (fun k hk=>hl k (Or.inl hk)),h.zcC.at (fun k hk=>hl k (Or.inr (Or.inl hk))),h.zb9.at (fun k hk=>hl k (Or.inr (Or.inr hk)))⟩
theorem zFG.zb7{P Q R:Nat->Prop}{w w':World}{v0 v1 v2 v3:Value}{W:zC}(h:zFG w P Q R v0 v1 v2 v3 W)(t:Below w.heap.size w w'):zFG w' P Q R v0 v1 v2 v3 W:=
 ⟨h.pool.zb7 t,h.zcC.zb7 t,h.zb9.zb7 t,h.pq,h.pr,h.qr⟩
theorem zAm.zb7{w w':World}{lo hi:Nat}{v0 v1 v2 v3:Value}{W:zC}(h:zAm w lo hi v0 v1 v2 v3 W)(t:Below w.heap.size w w'):zAm w' lo hi v0 v1 v2 v3 W:=by
 obtain⟨P,Q,R,h,hl⟩:=h;exact⟨P,Q,R,h.zb7 t,hl⟩
theorem zFG.zb8{P Q R T:Nat->Prop}{w w':World}{v0 v1 v2 v3:Value}{W:zC}(h:zFG w P Q R v0 v1 v2 v3 W)(t:zJ T w w')(hs:∀k,P k\/Q k\/R k->¬T k):zFG w' P Q R v0 v1 v2 v3 W:=
 ⟨h.pool.zb8 t (fun k hk=>hs k (Or.inl hk)),h.zcC.zb8 t (fun k hk=>hs k (Or.inr (Or.inl hk))),h.zb9.zb8 t (fun k hk=>hs k (Or.inr (Or.inr hk))),h.pq,h.pr,h.qr⟩
theorem zAm.zb8{S:Nat->Prop}{w w':World}{lo hi:Nat}{v0 v1 v2 v3:Value}{W:zC}(h:zAm w lo hi v0 v1 v2 v3 W)(t:zJ S w w')(hs:∀k,S k->k<lo\/hi<=k):zAm w' lo hi v0 v1 v2 v3 W:=by
 obtain⟨P,Q,R,h,hl⟩:=h;exact⟨P,Q,R,h.zb8 t (fun k hk hx=>by have:=hl k hk;have:=hs k hx;omega),hl⟩
theorem zAm.wide{w:World}{lo hi bA aA:Nat}{v0 v1 v2 v3:Value}{W:zC}(h:zAm w lo hi v0 v1 v2 v3 W)(h1:bA<=lo)(h2:hi<=aA):zAm w bA aA v0 v1 v2 v3 W:=by
 obtain⟨P,Q,R,h,hl⟩:=h;exact⟨P,Q,R,h,fun k hk=>by have:=hl k hk;omega⟩
theorem zAm.zcF{w:World}{lo hi:Nat}{v0 v1 v2 v3:Value}{W:zC}(h:zAm w lo hi v0 v1 v2 v3 W):∃a0 c0 a1 c1 a2 c2 a3 c3,v0 = .slice a0 W.pool.n c0/\v1 = .slice a1 W.pool.hn c1/\v2 = .slice a2 W.sn c2/\v3 = .slice a3 W.pn c3:=by
 obtain⟨P,Q,R,h,hl⟩:=h;obtain⟨a0,c0,a1,c1,e0,e1⟩:=h.pool.zcF;obtain⟨a2,c2,e2,-⟩:=h.zcC.zcF;obtain⟨a3,c3,e3,-⟩:=h.zb9.zcF;exact⟨a0,c0,a1,c1,a2,c2,a3,c3,e0,e1,e2,e3⟩
theorem yQ.zcF{w:World}{lo hi:Nat}{v0 v1 v2 v3:Value}{W:zC}(h:yQ w lo hi v0 v1 v2 v3 W):∃a0 c0 a1 c1 a2 c2 a3 c3,v0 = .slice a0 W.pool.n c0/\v1 = .slice a1 W.pool.hn c1/\v2 = .slice a2 W.sn c2/\v3 = .slice a3 W.pn c3:=by
 obtain⟨a0,c0,a1,c1,e0,e1⟩:=h.pool.zcF;obtain⟨-,a2,c2,e2,-⟩:=h.zcC;obtain⟨-,a3,c3,e3,-⟩:=h.zb9;exact⟨a0,c0,a1,c1,a2,c2,a3,c3,e0,e1,e2,e3⟩
def zEk(W:zC)(w:World)(e:Ending)(w':World):Prop:=∃v0 v1 v2 v3,e = .returned (zBb v0 v1 v2 v3 W)/\zAm w' w.heap.size w'.heap.size v0 v1 v2 v3 W/\Below w.heap.size w w'
structure qC where
 zcB:zC
 zcA:zC
abbrev zC6(v0 v1 v2 v3 u0 u1 u2 u3:Value)(S:qC):Value:=.agg #[v0,v1,.int .i64 S.zcB.time,.int .i64 S.zcB.next,v2,v3,u0,u1,.int .i64 S.zcA.time,.int .i64 S.zcA.next,u2,u3]
structure zCE (w:World) (lo hi:Nat) (v0 v1 v2 v3 u0 u1 u2 u3:Value) (S:qC):Prop where
 zcB:yQ w lo hi v0 v1 v2 v3 S.zcB
 zcA:yQ w lo hi u0 u1 u2 u3 S.zcA
theorem zCE.zb7{w w':World}{lo hi:Nat}{v0 v1 v2 v3 u0 u1 u2 u3:Value}{S:qC}(h:zCE w lo hi v0 v1 v2 v3 u0 u1 u2 u3 S)(t:Below w.heap.size w w'):zCE w' lo hi v0 v1 v2 v3 u0 u1 u2 u3 S:=⟨h.zcB.zb7 t,h.zcA.zb7 t⟩
theorem zCd.wide{w:World}{lo hi bA aA:Nat}{v:Value}{n:Nat}{f:Nat->zAJ}(h:zCd w lo hi v n f)(h1:bA<=lo)(h2:hi<=aA)(hp:∀{v n f g},qi w lo hi v n f g->qi w bA aA v n f g):zCd w bA aA v n f:=by
 obtain⟨m,a,c,hv,hc,hx⟩:=h;refine⟨m,a,c,hv,hc,fun h0=>?_⟩;obtain⟨b,off,ha,l1,l2,h3⟩:=hx h0;refine⟨b,off,ha,by omega,by omega,fun i hi=>?_⟩;obtain⟨vd,hs⟩:=h3 i hi;exact⟨vd,hs.c0,hs.c1,hs.c2,hs.c3,hs.c4,hs.c5,hp hs.dead,hs.zcG⟩
theorem zBg.wide{w:World}{lo hi bA aA:Nat}{v:Value}{n:Nat}{f:Nat->zu}(h:zBg w lo hi v n f)(h1:bA<=lo)(h2:hi<=aA)(hp:∀{v n f g},qi w lo hi v n f g->qi w bA aA v n f g):zBg w bA aA v n f:=by
 obtain⟨m,a,c,hv,hc,hx⟩:=h;refine⟨m,a,c,hv,hc,fun h0=>?_⟩;obtain⟨b,off,ha,l1,l2,h3⟩:=hx h0;refine⟨b,off,ha,by omega,by omega,fun i hi=>?_⟩;obtain⟨vd,hs⟩:=h3 i hi;exact⟨vd,hs.c0,hs.c1,hs.c2,hs.c3,hs.c4,hs.c5,hs.c6,hs.c7,hp hs.dead,hs.zcG⟩
theorem zAR.wide{w:World}{lo hi bA aA:Nat}{v:Value}{n:Nat}{f:Nat->zM}(h:zAR w lo hi v n f)(h1:bA<=lo)(h2:hi<=aA):zAR w bA aA v n f:=by
 obtain⟨m,a,c,hv,hc,hx⟩:=h;refine⟨m,a,c,hv,hc,fun h0=>?_⟩;obtain⟨b,off,ha,l1,l2,h3⟩:=hx h0;refine⟨b,off,ha,by omega,by omega,fun i hi=>?_⟩;obtain⟨x0,x1,x2,c0,c1,c2,e0,hp,e2,hs⟩:=h3 i hi;exact⟨x0,x1,x2,c0,c1,c2,e0,hp.wide h1 h2,e2,hs⟩
theorem yQ.wide{w:World}{lo hi bA aA:Nat}{v0 v1 v2 v3:Value}{W:zC}(h:yQ w lo hi v0 v1 v2 v3 W)(h1:bA<=lo)(h2:hi<=aA):yQ w bA aA v0 v1 v2 v3 W:=
 ⟨⟨h.pool.1.wide h1 h2,h.pool.2.wide h1 h2⟩,h.zcC.wide h1 h2 (fun hp=>hp.wide h1 h2),h.zb9.wide h1 h2 (fun hp=>hp.wide h1 h2)⟩
def zDW(w:World)(lo hi:Nat)(v0 v1 v2 v3 u0 u1 u2 u3:Value)(S:qC):Prop:=∃l1 h1 l2 h2,zAm w l1 h1 v0 v1 v2 v3 S.zcB/\zAm w l2 h2 u0 u1 u2 u3 S.zcA/\lo<=l1/\h1<=hi/\lo<=l2/\h2<=hi/\(h1<=l2\/h2<=l1)
theorem zDW.at{w:World}{lo hi:Nat}{v0 v1 v2 v3 u0 u1 u2 u3:Value}{S:qC}(h:zDW w lo hi v0 v1 v2 v3 u0 u1 u2 u3 S):zCE w lo hi v0 v1 v2 v3 u0 u1 u2 u3 S:=by
 obtain⟨l1,h1,l2,h2,a,b,c1,c2,c3,c4,_⟩:=h;exact⟨a.at.wide c1 c2,b.at.wide c3 c4⟩
theorem zDW.zb8{T:Nat->Prop}{w w':World}{lo hi:Nat}{v0 v1 v2 v3 u0 u1 u2 u3:Value}{S:qC}(h:zDW w lo hi v0 v1 v2 v3 u0 u1 u2 u3 S)(t:zJ T w w')(hs:∀k,T k->k<lo\/hi<=k):zDW w' lo hi v0 v1 v2 v3 u0 u1 u2 u3 S:=by
 obtain⟨l1,h1,l2,h2,a,b,c⟩:=h;exact⟨l1,h1,l2,h2,a.zb8 t (fun k hk=>by have:=hs k hk;omega),b.zb8 t (fun k hk=>by have:=hs k hk;omega),c⟩
end Go.Proofs.YtbplmbafodlboaaGreatDoor
