/- A part of the proof. -/
import Derived.Test.YtddigaohmfpepaaGreatDoorF9
import Derived.WideKeyPair
import Derived.DeepKeys4
set_option linter.unusedVariables false
set_option maxRecDepth 20000
set_option maxHeartbeats 4000000
namespace Go.Proofs.YtddigaohmfpepaaGreatDoor
open Go.RowKit Go.Maps
open Classical in
noncomputable def ownN(W:A6)(name:ByteArray):Nat->Nat
 | 0=>0
 | k+1=>ownN W name k+(if (W.A3 k).set=name then 1 else 0)
variable{W:A6}{name:ByteArray}{k:Nat}
theorem No(h:(W.A3 k).set=name):ownN W name (k+1)=ownN W name k+1:=by simp[ownN,h]
theorem NX(h:¬(W.A3 k).set=name):ownN W name (k+1)=ownN W name k:=by simp[ownN,h]
theorem NW(W:A6)(name:ByteArray):∀k,ownN W name k<=k
 | 0=>Nat.le_refl _
 | k+1=>by
  have:=NW W name k;by_cases h:(W.A3 k).set=name
  ·rw[No h];omega
  ·rw[NX h];omega
inductive Steps (W:A6) (name:ByteArray) (start:Int):Nat->Int->Prop
 | zero:Steps W name start 0 start
 | next {n:Nat} {x:Int} {k:Nat}:Steps W name start n x->BW W x k->(W.A3 k).set=name->Steps W name start (n+1) (W.A3 k).A8
def F5(W:A6)(name:ByteArray)(x:Int):Prop:=∃k,BW W x k/\(W.A3 k).set=name
def FA(W:A6)(name:ByteArray)(start origin:Int):Prop:=∃n e,Steps W name start n e/\¬F5 W name e/\n=ownN W name W.pn/\e=origin
theorem Steps.det{W:A6}{name:ByteArray}{start:Int}:∀{n:Nat} {x y:Int},Steps W name start n x->Steps W name start n y->x=y
 | 0,_,_,.zero,.zero=>rfl
 | n+1,_,_,.next h hk _,.next h' hk' _=>by
  have e:=Steps.det h h';subst e;rw[BW.uniq hk hk']
theorem Steps.less{W:A6}{name:ByteArray}{start:Int}:∀{n m:Nat} {x:Int},Steps W name start m x->n<m->∃y,Steps W name start n y/\F5 W name y
 | n,0,_,_,h=>absurd h (Nat.not_lt_zero _)
 | n,m+1,_,.next (x:=x) h hk hs,hl=>by
  by_cases e:n=m
  ·subst e;exact⟨x,h,_,hk,hs⟩
  ·exact Steps.less h (by omega)
variable{n:Nat}{x y:Int}
theorem Steps.end{start:Int}{m:Nat}(h:Steps W name start n x)(f:¬F5 W name x)(b:Steps W name start m y)(g:¬F5 W name y):n=m/\x=y:=by
 have e:n=m:=by
  rcases Nat.lt_trichotomy n m with a | a | a
  ·obtain⟨z,d,c⟩:=b.less a;rw[h.det d]at f;exact absurd c f
  ·exact a
  ·obtain⟨z,d,c⟩:=h.less a;rw[b.det d]at g;exact absurd c g
 subst e;exact⟨rfl,h.det b⟩
theorem Up{start origin:Int}(h:Steps W name start n x)(c:¬F5 W name x):FA W name start origin↔n=ownN W name W.pn/\x=origin:=by
 constructor
 ·rintro⟨m,y,hs,d,a,b⟩;obtain⟨rfl,rfl⟩:=h.end c hs d;exact⟨a,b⟩
 ·rintro⟨a,b⟩;exact⟨n,x,h,c,a,b⟩
theorem CK.no(h:CK W x):∃k,BW W x k:=Qs (Nat.le_refl _) h
structure G0 (W:A6):Prop where
 ids:∀k,k<W.pn->1<=(W.A3 k).id/\(W.A3 k).id<900000
 A8:∀k,k<W.pn->(W.A3 k).A8=0\/CK W (W.A3 k).A8
 less:∀k,k<W.pn->(W.A3 k).A8<(W.A3 k).id
 A2:∀k,k<W.sn->(W.A2 k).A8=0\/CK W (W.A2 k).A8
 Aq:∀k,k<W.sn->(W.A2 k).name.toList.isEmpty=false
theorem G0.pos(h:G0 W):NL W:=fun k a=>(h.ids k a).1
theorem CK.range(h:G0 W)(b:CK W x):1<=x/\x<900000:=by
 obtain⟨k,a,rfl⟩:=b;exact h.ids k a
theorem Rj{s:ByteArray}(h:BX s):s.toList.isEmpty=false:=by
 have:=h.1;rw[Go.ByteArray.toList_eq];cases s with
 | mk d=>
  cases hd:d.toList with
  | nil=>
   have b:d.size=0:=(by rw[<-Array.length_toList,hd];rfl);have c:1<=d.size:=this;omega
  | cons a l=>simp
theorem DD.ER(h:DD W):G0 W where
 ids:=fun k a=>⟨(h.2.2.2.2.2 k a).1.1,by have:=(h.2.2.2.2.2 k a).1.2.1;have:=h.2.1.2;omega⟩
 A8:=fun k a=>by
  by_cases e:(W.A3 k).A8=0
  ·exact Or.inl e
  ·exact Or.inr ((h.2.2.2.2.2 k a).2.1.2 e).2
 less:=fun k a=>by
  by_cases e:(W.A3 k).A8=0
  ·have:=(h.2.2.2.2.2 k a).1.1;omega
  ·exact((h.2.2.2.2.2 k a).2.1.2 e).1
 A2:=fun k a=>by
  by_cases e:(W.A2 k).A8=0
  ·exact Or.inl e
  ·exact Or.inr ((h.2.2.2.2.1 k a).2.2.1 e)
 Aq:=fun k a=>Rj (h.2.2.2.2.1 k a).1
structure EZ (W:A6) (name:ByteArray) (start:Int) (n:Nat) (x:Int):Prop where
 steps:Steps W name start n x
 there:x=0\/CK W x
 least:0<=x
 sum:(n:Int)+x<=900000
theorem EZ.start(h:G0 W)(name:ByteArray)(a:x=0\/CK W x):EZ W name x 0 x where
 steps:=.zero
 there:=a
 least:=by rcases a with rfl | a;exact Int.le_refl _;have:=a.range h;omega
 sum:=by rcases a with rfl | a;decide;have:=a.range h;omega
theorem EZ.next(h:G0 W){start:Int}(b:EZ W name start n x)(a:BW W x k)(hs:(W.A3 k).set=name):EZ W name start (n+1) (W.A3 k).A8 where
 steps:=b.steps.next a hs
 there:=h.A8 k a.1
 least:=by rcases h.A8 k a.1 with e | e;omega;have:=e.range h;omega
 sum:=by have c:=h.less k a.1;have d:=b.sum;have f:=a.2.1;omega
theorem Yu(h:G0 W)(name:ByteArray):¬F5 W name 0:=fun ⟨k,hk,_⟩=>by
 have:=(h.ids k hk.1).1;have:=hk.2.1;omega
theorem Xe(a:BW W x k)(hs:¬(W.A3 k).set=name):¬F5 W name x:=fun ⟨j,hj,e⟩=>hs (by rw[BW.uniq a hj];exact e)
variable{l m:List (Int×Int)}
theorem Po(a:k<l.length)(h:(AN l k,AP l k)∈m):BR (l.take (k+1)) m=BR (l.take k) m:=by
 unfold AN AP at h;rw[D6 a]at h;unfold BR;rw[List.take_succ_eq_append_getElem a,List.filter_append,List.filter_cons];simp only[List.filter_nil];rw[if_neg (by simp;exact h),List.append_nil]
theorem QT(a:k<l.length)(h:(AN l k,AP l k)∉m):BR (l.take (k+1)) m=BR (l.take k) m ++ [(AN l k,AP l k)]:=by
 unfold AN AP at h ⊢;rw[D6 a]at h ⊢;unfold BR;rw[List.take_succ_eq_append_getElem a,List.filter_append,List.filter_cons];simp only[List.filter_nil];rw[if_pos (by simp;exact h)]
theorem Un(l m:List (Int×Int))(k:Nat):(BR (l.take k) m).length<=k:=by
 unfold BR;exact Nat.le_trans (List.length_filter_le _ _) (by rw[List.length_take];omega)
def EX(W:A6)(i:Nat):Prop:=F3 (treeM W (AA W i)) (oldM W (AA W i)) (AI W (AA W i).A8).time (AA W i).time
theorem EV.snap(h:EV W)(a:k<W.pn):B3 W.pool (W.A3 k).rs (W.A3 k).rb:=by
 have:=h.tree k (by unfold memN;omega);rw[CH a]at this;exact this
theorem EV.set(h:EV W)(a:k<W.sn):B3 W.pool (W.A2 k).rs (W.A2 k).rb:=by
 have:=h.tree (W.pn+k) (by unfold memN;omega);rw[C4]at this;exact this
def KI(W:A6)(s:Nat):Prop:=∃m,m<memN W/\∃b,((s:Int),b)∈treeM W (AA W m)
def DG(W:A6)(i:Nat):Int×Int:=if i<W.sn then((W.A2 i).rs,(W.A2 i).rb)else((W.A3 (i - W.sn)).rs,(W.A3 (i - W.sn)).rb)
def F8(W:A6)(n:Nat):List (Int×Int):=(List.range n).map (DG W)
theorem OY(W:A6)(n:Nat):(F8 W n).length=n:=by simp[F8]
theorem YZ(W:A6)(n:Nat):F8 W (n+1)=F8 W n ++ [DG W n]:=by simp[F8,List.range_succ]
variable{i:Nat}
theorem OL(h:i<W.sn):DG W i=((W.A2 i).rs,(W.A2 i).rb):=if_pos h
theorem OX(W:A6)(i:Nat):DG W (W.sn+i)=((W.A3 i).rs,(W.A3 i).rb):=by
 unfold DG;rw[if_neg (by omega),show W.sn+i - W.sn=i by omega]
theorem Ve(h:i<n):AN (F8 W n) i=(DG W i).1/\AP (F8 W n) i=(DG W i).2:=by
 unfold AN AP;rw[D6 (by rw[OY];exact h)];simp[F8]
theorem zFy(a:EV W)(hi:i<W.sn+W.pn):B3 W.pool (DG W i).1 (DG W i).2:=by
 by_cases h:i<W.sn
 ·rw[OL h];exact a.set h
 ·have:=OX W (i - W.sn);rw[show W.sn+(i - W.sn)=i by omega]at this;rw[this];exact a.snap (by omega)
variable{s:Nat}
theorem zAg:KI W s↔∃i,i<W.sn+W.pn/\∃b,((s:Int),b)∈AG W.pool (DG W i).1 (DG W i).2:=by
 unfold KI memN treeM;constructor
 ·rintro⟨m,c,b,h⟩;by_cases a:m<W.pn
  ·rw[CH a]at h;exact⟨W.sn+m,by omega,b,by rw[OX];exact h⟩
  ·have e:=C4 W (m - W.pn);rw[show W.pn+(m - W.pn)=m by omega]at e;rw[e]at h;exact⟨m - W.pn,by omega,b,by rw[OL (by omega)];exact h⟩
 ·rintro⟨i,hi,b,h⟩;by_cases hs:i<W.sn
  ·rw[OL hs]at h;exact⟨W.pn+i,by omega,b,by rw[C4];exact h⟩
  ·have e:=OX W (i - W.sn);rw[show W.sn+(i - W.sn)=i by omega]at e;rw[e]at h;exact⟨i - W.sn,by omega,b,by rw[CH (by omega)];exact h⟩
def qV(W:A6)(k:Nat)(l:List (Int×Int))(j s:Nat):Prop:=(∃i,i<k/\∃b,((s:Int),b)∈AG W.pool (DG W i).1 (DG W i).2)\/∃q,q<j/\AN l q=(s:Int)
def LW(W:A6)(k:Nat)(l:List (Int×Int))(j:Nat)(f:Nat->Bool):Prop:=∀s,f s=true↔qV W k l j s
variable{j:Nat}{f:Nat->Bool}
theorem zAF(h:LW W k l j f)(hs:AN l j=(s:Int)):LW W k l (j+1) (fun i=>if i=s then true else f i):=by
 intro i;show(if i=s then true else f i)=true↔_;by_cases e:i=s
 ·subst e;rw[if_pos rfl];exact⟨fun _=>Or.inr ⟨j,by omega,hs⟩,fun _=>rfl⟩
 ·rw[if_neg e,h i];constructor
  ·rintro(h | ⟨q,a,h⟩)
   ·exact Or.inl h
   ·exact Or.inr ⟨q,by omega,h⟩
  ·rintro(h | ⟨q,a,h⟩)
   ·exact Or.inl h
   ·by_cases eq:q=j
    ·subst eq;exact absurd (by omega) e
    ·exact Or.inr ⟨q,by omega,h⟩
theorem zAG(h:LW W k l l.length f)(d:l=AG W.pool (DG W k).1 (DG W k).2):LW W (k+1) [] 0 f:=by
 intro s;rw[h s];constructor
 ·rintro(⟨i,hi,h⟩ | ⟨q,a,e⟩)
  ·exact Or.inl ⟨i,by omega,h⟩
  ·refine Or.inl ⟨k,by omega,(l[q]).2,?_⟩;unfold AN at e;rw[D6 a]at e;rw[<-d,<-e];exact List.getElem_mem a
 ·rintro(⟨i,hi,b,c⟩ | ⟨q,a,e⟩)
  ·by_cases e:i=k
   ·subst e;rw[<-d]at c;obtain⟨q,a,e⟩:=List.getElem_of_mem c;exact Or.inr ⟨q,a,by unfold AN;rw[D6 a,e]⟩
   ·exact Or.inl ⟨i,by omega,b,c⟩
  ·omega
theorem U2{p:A7}{rs rb:Int}(b:AZ p)(c:B3 p rs rb)(a:j<(AG p rs rb).length):∃s:Nat,AN (AG p rs rb) j=(s:Int)/\s<p.n:=by
 unfold AN;rw[D6 a];have:=(ED b c (List.getElem_mem a)).1;obtain⟨_,d,e,_⟩:=this;exact⟨((AG p rs rb)[j]).1.toNat,by omega,by omega⟩
variable{w w1:World}{v0 v1 v2 v3:Value}
theorem At.grown{b:Nat}{v4 v5:Value}{row:Option Nat}(h:At w b v0 v1 v2 v3 v4 v5)(a:w.grownBy w1 row)(c:∀q,row=some q->b≠q):At w1 b v0 v1 v2 v3 v4 v5:=by
 have f:b<w.heap.size:=h.1.lt;refine h.AD (S:=fun k=>row=some k) ⟨a.os,a.tape,a.output,a.size,fun k d hs=>a.block k d (fun e=>hs e.symm)⟩ (fun e=>c b e rfl)
def Q5(W:A6)(k:Nat):Prop:=∀i,i<k->∀j,j<i->∀x,x∈CB W (AA W i)->∀y,y∈CB W (AA W j)->x.1≠y.1
def KU(W:A6)(k:Nat)(now old:List (Int×Int))(j:Nat):Prop:=∀q,q<j->(AN now q,AP now q)∉old->∀i,i<k->∀y,y∈CB W (AA W i)->AN now q≠y.1
def qW(W:A6)(k:Nat)(now old:List (Int×Int))(j s:Nat):Prop:=(∃i,i<k/\∃b,((s:Int),b)∈CB W (AA W i))\/∃q,q<j/\AN now q=(s:Int)/\(AN now q,AP now q)∉old
def FX(W:A6)(k:Nat)(now old:List (Int×Int))(j:Nat)(f:Nat->Bool):Prop:=∀s,f s=true↔qW W k now old j s
variable{a b:List (Int×Int)}
theorem zB8(h:Q5 W k)(hn:a=treeM W (AA W k))(n:b=oldM W (AA W k))(o:KU W k a b a.length):Q5 W (k+1):=by
 intro i hi j f x l y m;by_cases e:i=k
 ·subst e;obtain⟨c,d⟩:=List.mem_filter.1 l;rw[<-hn]at c;rw[<-n]at d;obtain⟨q,g,e⟩:=List.getElem_of_mem c;have:=o q g;unfold AN AP at this;rw[D6 g,e]at this;exact this (by simpa using d) j f y m
 ·exact h i (by omega) j f x l y m
theorem zE9(h:FX W k a b j f)(c:(AN a j,AP a j)∈b):FX W k a b (j+1) f:=by
 intro s;rw[h s];constructor
 ·rintro(h | ⟨q,i,h⟩)
  ·exact Or.inl h
  ·exact Or.inr ⟨q,by omega,h⟩
 ·rintro(h | ⟨q,i,g,d⟩)
  ·exact Or.inl h
  ·by_cases e:q=j
   ·subst e;exact absurd c d
   ·exact Or.inr ⟨q,by omega,g,d⟩
theorem zE8(h:FX W k a b j f)(hs:AN a j=(s:Int))(c:(AN a j,AP a j)∉b):FX W k a b (j+1) (fun i=>if i=s then true else f i):=by
 intro i;show(if i=s then true else f i)=true↔_;by_cases e:i=s
 ·subst e;rw[if_pos rfl];exact⟨fun _=>Or.inr ⟨j,by omega,hs,c⟩,fun _=>rfl⟩
 ·rw[if_neg e,h i];constructor
  ·rintro(h | ⟨q,g,h⟩)
   ·exact Or.inl h
   ·exact Or.inr ⟨q,by omega,h⟩
  ·rintro(h | ⟨q,g,h,d⟩)
   ·exact Or.inl h
   ·by_cases eq:q=j
    ·subst eq;exact absurd (by omega) e
    ·exact Or.inr ⟨q,by omega,h,d⟩
theorem zG4(h:KU W k a b j)(c:(AN a j,AP a j)∈b):KU W k a b (j+1):=by
 intro q d;by_cases e:q=j
 ·subst e;exact fun h=>absurd c h
 ·exact h q (by omega)
theorem zG1(h:KU W k a b j)(d:FX W k a b j f)(hs:AN a j=(s:Int))(g:f s=false):KU W k a b (j+1):=by
 intro q m;by_cases e:q=j
 ·subst e;intro _ i hi y l c;have:f s=true:=(d s).2 (Or.inl ⟨i,hi,y.2,by rw[<-hs,c];exact l⟩);rw[g]at this;exact absurd this (by simp)
 ·exact h q (by omega)
theorem zEB{g:List (Int×Int)}(h:FX W k a g a.length f)(hn:a=treeM W (AA W k))(m:g=oldM W (AA W k)):FX W (k+1) [] [] 0 f:=by
 intro s;rw[h s];constructor
 ·rintro(⟨i,hi,h⟩ | ⟨q,d,e,c⟩)
  ·exact Or.inl ⟨i,by omega,h⟩
  ·refine Or.inl ⟨k,by omega,(a[q]).2,?_⟩;unfold AN AP at c;unfold AN at e;rw[D6 d]at e c;refine List.mem_filter.2 ⟨?_,?_⟩
   ·rw[<-hn,<-e];exact List.getElem_mem d
   ·rw[<-m,<-e];simpa using c
 ·rintro(⟨i,hi,b,c⟩ | ⟨q,d,_⟩)
  ·by_cases e:i=k
   ·subst e;obtain⟨j,l⟩:=List.mem_filter.1 c;rw[<-hn]at j;rw[<-m]at l;obtain⟨q,d,e⟩:=List.getElem_of_mem j;refine Or.inr ⟨q,d,?_⟩;unfold AN AP;rw[D6 d,e];exact⟨rfl,by simpa using l⟩
   ·exact Or.inl ⟨i,by omega,b,c⟩
  ·omega
theorem zx(h:FX W k [] [] 0 f)(a b:List (Int×Int)):FX W k a b 0 f:=by
 intro s;rw[h s];constructor
 ·rintro(h | ⟨q,c,_⟩)
  ·exact Or.inl h
  ·omega
 ·rintro(h | ⟨q,c,_⟩)
  ·exact Or.inl h
  ·omega
theorem zy{c:List (Int×Int)}(d:EV W)(n:k<memN W)(hn:a=treeM W (AA W k))(v:c=oldM W (AA W k))(t:FX W k a c j f)(m:j<a.length)(hs:AN a j=(s:Int))(g:(AN a j,AP a j)∉c)(u:f s=true):¬Ic W:=by
 intro r;rcases(t s).1 u with⟨i,hi,b,h⟩ | ⟨q,w,e,y⟩
 ·refine r k n i hi (AN a j,AP a j) ?_ _ h hs;refine List.mem_filter.2 ⟨?_,by rw[<-v];simpa using g⟩;rw[<-hn];unfold AN AP;rw[D6 m];exact List.getElem_mem m
 ·have o:=Ky d.right (l:=a) (fun x p=>by rw[hn]at p;exact(ED d.right (d.tree k n) p).1) (by rw[hn];exact L0 d.right (d.tree k n)) (by rw[hn];have:=Dh W.pool (AA W k).rs (AA W k).rb;unfold treeM;omega);exact o.2.2 j m q w (by rw[e,hs])
def DU(W:A6)(i:Nat):Prop:=E6 (AA W i).dn (AA W i).ds (AA W i).db (BR (oldM W (AA W i)) (treeM W (AA W i)))
structure B4 (W:A6):Prop where
 right:AZ W.pool
 Aq:DD W
 lines:∀i,i<W.sn->FA W (W.A2 i).name (W.A2 i).A8 (W.A2 i).origin
 A3:∀i,i<W.pn->B3 W.pool (W.A3 i).rs (W.A3 i).rb
 A2:∀i,i<W.sn->B3 W.pool (W.A2 i).rs (W.A2 i).rb/\DU W (W.pn+i)
 dead:∀i,i<W.pn->DU W i
 reach:Q9 W
 born:∀i,i<memN W->EX W i
 Bn:Ic W
theorem LN(h:∀k,k<W.pn->B3 W.pool (W.A3 k).rs (W.A3 k).rb)(x:Int):B3 W.pool (AI W x).rs (AI W x).rb:=by
 by_cases b:∃k,BW W x k
 ·obtain⟨k,a⟩:=b;rw[DW a];exact h k a.1
 ·have:AI W x=DL:=by
   unfold AI;rw[dif_neg b]
  rw[this];exact Or.inl ⟨rfl,rfl⟩
theorem Nw(f:AZ W.pool)(b:DD W)(c:∀i,i<W.pn->B3 W.pool (W.A3 i).rs (W.A3 i).rb)(d:∀i,i<W.sn->B3 W.pool (W.A2 i).rs (W.A2 i).rb):EV W where
 right:=f
 ids:=b.ER.less
 tree:=fun i hi=>by
  by_cases a:i<W.pn
  ·rw[CH a];exact c i a
  ·have e:=C4 W (i - W.pn);rw[show W.pn+(i - W.pn)=i by omega]at e;rw[e];unfold memN at hi;exact d _ (by omega)
 time:=fun i hi=>by
  by_cases a:i<W.pn
  ·rw[CH a];have:1<=(W.A3 i).time:=(b.2.2.2.2.2 i a).1.2.2.1;show 0<=(W.A3 i).time;omega
  ·have e:=C4 W (i - W.pn);rw[show W.pn+(i - W.pn)=i by omega]at e;rw[e];have:1<=W.time:=b.1.1;show 0<=W.time;omega
structure EO (w:World) (bs o kb:Nat) (kv:Value) (s:Ab):Prop where
 c0:AO w bs o (.string s.name)
 c1:AO w bs (o+1) (A0 s.origin)
 c2:AO w bs (o+2) (A0 s.A8)
 c3:AO w bs (o+3) (A0 s.rs)
 c4:AO w bs (o+4) (A0 s.rb)
 c5:AO w bs (o+5) kv
 dead:CS w kb kv s.dn s.ds s.db
 CG:s.name.size<=maxLen
 Bn:0<s.dn->kb≠bs
variable{S:Nat->Prop}{w':World}{bs o kb:Nat}{kv:Value}{s:Ab}
theorem EO.AD(h:EO w bs o kb kv s)(t:AC S w w')(a:¬S bs)(b:0<s.dn->¬S kb):EO w' bs o kb kv s:=
 ⟨h.c0.AD t a,h.c1.AD t a,h.c2.AD t a,h.c3.AD t a,h.c4.AD t a,h.c5.AD t a,h.dead.AD t b,h.CG,h.Bn⟩
theorem EO.A1(h:EO w bs o kb kv s)(t:Below w.heap.size w w'):EO w' bs o kb kv s:=
 h.AD (AC.EF (S:=fun _=>False) t) (fun h=>h) (fun _ h=>h)
variable{lo hi:Nat}
theorem EO.cells(h:EO w bs o kb kv s)(a:0<s.dn->lo<=kb/\kb<hi):I1 w bs o lo hi kv s:=
 ⟨h.c0.1,h.c1.1,h.c2.1,h.c3.1,h.c4.1,h.c5.1,h.dead.at a,h.CG⟩
def Dz(w:World)(bs:Nat)(kb:Nat->Nat)(kv:Nat->Value)(v:Value)(n:Nat)(f:Nat->Ab):Prop:=
 n<=maxLen/\∃a cap,v = .slice a n cap/\n<=cap/\(0<n->∃off,a=some ⟨bs,off,none⟩/\∀i,i<n->EO w bs (off+i*6) (kb i) (kv i) (f i))
def Fy(bs:Nat)(kb:Nat->Nat)(n:Nat)(f:Nat->Ab)(k:Nat):Prop:=(0<n/\k=bs)\/∃i,i<n/\0<(f i).dn/\k=kb i
def M2(kb:Nat->Nat)(n:Nat)(f:Nat->Ab):Prop:=∀i j,i<n->j<n->i≠j->0<(f i).dn->0<(f j).dn->kb i≠kb j
variable{kb:Nat->Nat}{kv:Nat->Value}{v:Value}{f:Nat->Ab}
theorem Dz.AD(h:Dz w bs kb kv v n f)(t:AC S w w')(hs:∀k,Fy bs kb n f k->¬S k):Dz w' bs kb kv v n f:=by
 obtain⟨c,a,cap,hv,b,g⟩:=h;refine⟨c,a,cap,hv,b,fun hn=>?_⟩;obtain⟨off,e,d⟩:=g hn;exact⟨off,e,fun i hi=>(d i hi).AD t (hs _ (Or.inl ⟨hn,rfl⟩)) (fun h=>hs _ (Or.inr ⟨i,hi,h,rfl⟩))⟩
theorem Dz.A1(h:Dz w bs kb kv v n f)(t:Below w.heap.size w w'):Dz w' bs kb kv v n f:=
 h.AD (AC.EF (S:=fun _=>False) t) (fun _ _ h=>h)
theorem Dz.at(h:Dz w bs kb kv v n f)(c:∀k,Fy bs kb n f k->lo<=k/\k<hi):EJ w lo hi v n f:=by
 obtain⟨e,a,cap,hv,b,l⟩:=h;refine⟨e,a,cap,hv,b,fun hn=>?_⟩;obtain⟨off,j,g⟩:=l hn;have d:=c _ (Or.inl ⟨hn,rfl⟩);exact⟨bs,off,j,d.1,d.2,fun i hi=>⟨_,(g i hi).cells (fun h=>c _ (Or.inr ⟨i,hi,h,rfl⟩))⟩⟩
theorem zEG:(Tryz.prog.info? 46).map (fun i=>(i.zero,i.size,i.bytes))=some (some (.agg #[.string ⟨#[]⟩,A0 0,A0 0,A0 0,A0 0,A5]),6,72):=by kernel_rfl
structure GU (w:World) (bs o kb:Nat) (kv:Value) (s:Aa):Prop where
 c0:AO w bs o (A0 s.id)
 c1:AO w bs (o+1) (.string s.name)
 c2:AO w bs (o+2) (.string s.set)
 c3:AO w bs (o+3) (A0 s.A8)
 c4:AO w bs (o+4) (A0 s.time)
 c5:AO w bs (o+5) (A0 s.rs)
 c6:AO w bs (o+6) (A0 s.rb)
 c7:AO w bs (o+7) kv
 dead:CS w kb kv s.dn s.ds s.db
 CG:s.name.size<=maxLen/\s.set.size<=maxLen
 Bn:0<s.dn->kb≠bs
variable{kb:Nat}{kv:Value}{s:Aa}
theorem GU.AD(h:GU w bs o kb kv s)(t:AC S w w')(a:¬S bs)(b:0<s.dn->¬S kb):GU w' bs o kb kv s:=
 ⟨h.c0.AD t a,h.c1.AD t a,h.c2.AD t a,h.c3.AD t a,h.c4.AD t a,h.c5.AD t a,h.c6.AD t a,h.c7.AD t a,h.dead.AD t b,h.CG,h.Bn⟩
theorem GU.cells(h:GU w bs o kb kv s)(a:0<s.dn->lo<=kb/\kb<hi):I6 w bs o lo hi kv s:=
 ⟨h.c0.1,h.c1.1,h.c2.1,h.c3.1,h.c4.1,h.c5.1,h.c6.1,h.c7.1,h.dead.at a,h.CG⟩
theorem GU.deadLt(h:GU w bs o kb kv s)(a:0<s.dn):kb<w.heap.size:=by
 obtain⟨_,_,_,_,_,b⟩:=h.dead;obtain⟨o,_,c⟩:=b a;exact(c 0 a).1.lt
def Ew(w:World)(bs:Nat)(kb:Nat->Nat)(kv:Nat->Value)(v:Value)(n:Nat)(f:Nat->Aa):Prop:=
 n<=maxLen/\∃a cap,v = .slice a n cap/\n<=cap/\(0<n->∃off,a=some ⟨bs,off,none⟩/\∀i,i<n->GU w bs (off+i*8) (kb i) (kv i) (f i))
def Ii(bs:Nat)(kb:Nat->Nat)(n:Nat)(f:Nat->Aa)(k:Nat):Prop:=(0<n/\k=bs)\/∃i,i<n/\0<(f i).dn/\k=kb i
def Kv(kb:Nat->Nat)(n:Nat)(f:Nat->Aa):Prop:=∀i j,i<n->j<n->i≠j->0<(f i).dn->0<(f j).dn->kb i≠kb j
variable{kb:Nat->Nat}{kv:Nat->Value}{f:Nat->Aa}
theorem Ew.AD(h:Ew w bs kb kv v n f)(t:AC S w w')(hs:∀k,Ii bs kb n f k->¬S k):Ew w' bs kb kv v n f:=by
 obtain⟨c,a,cap,hv,b,g⟩:=h;refine⟨c,a,cap,hv,b,fun hn=>?_⟩;obtain⟨off,e,d⟩:=g hn;exact⟨off,e,fun i hi=>(d i hi).AD t (hs _ (Or.inl ⟨hn,rfl⟩)) (fun h=>hs _ (Or.inr ⟨i,hi,h,rfl⟩))⟩
theorem Ew.A1(h:Ew w bs kb kv v n f)(t:Below w.heap.size w w'):Ew w' bs kb kv v n f:=
 h.AD (AC.EF (S:=fun _=>False) t) (fun _ _ h=>h)
theorem Ew.at(h:Ew w bs kb kv v n f)(c:∀k,Ii bs kb n f k->lo<=k/\k<hi):EE w lo hi v n f:=by
 obtain⟨e,a,cap,hv,b,l⟩:=h;refine⟨e,a,cap,hv,b,fun hn=>?_⟩;obtain⟨off,j,g⟩:=l hn;have d:=c _ (Or.inl ⟨hn,rfl⟩);exact⟨bs,off,j,d.1,d.2,fun i hi=>⟨_,(g i hi).cells (fun h=>c _ (Or.inr ⟨i,hi,h,rfl⟩))⟩⟩
theorem Xd:(Tryz.prog.info? 41).map (fun i=>(i.zero,i.size,i.bytes))=some (some (.agg #[A0 0,.string ⟨#[]⟩,.string ⟨#[]⟩,A0 0,A0 0,A0 0,A0 0,A5]),8,96):=by kernel_rfl
def GQ(w:World)(S:Nat->Prop)(v:Value)(n:Nat)(f:Nat->Ab):Prop:=∃(bs:Nat) (kb:Nat->Nat) (kv:Nat->Value),Dz w bs kb kv v n f/\M2 kb n f/\∀k,Fy bs kb n f k->S k
def Ff(w:World)(S:Nat->Prop)(v:Value)(n:Nat)(f:Nat->Aa):Prop:=∃(bs:Nat) (kb:Nat->Nat) (kv:Nat->Value),Ew w bs kb kv v n f/\Kv kb n f/\∀k,Ii bs kb n f k->S k
variable{T:Nat->Prop}
theorem GQ.AD{f:Nat->Ab}(h:GQ w S v n f)(t:AC T w w')(hs:∀k,S k->¬T k):GQ w' S v n f:=by
 obtain⟨b,g,kv,c,d,a⟩:=h;exact⟨b,g,kv,c.AD t (fun k e=>hs k (a k e)),d,a⟩
theorem Ff.AD(h:Ff w S v n f)(t:AC T w w')(hs:∀k,S k->¬T k):Ff w' S v n f:=by
 obtain⟨b,g,kv,c,d,a⟩:=h;exact⟨b,g,kv,c.AD t (fun k e=>hs k (a k e)),d,a⟩
theorem Ff.A1(h:Ff w S v n f)(t:Below w.heap.size w w'):Ff w' S v n f:=by
 obtain⟨a,e,kv,b,c,d⟩:=h;exact⟨a,e,kv,b.A1 t,c,d⟩
theorem GQ.at{f:Nat->Ab}(h:GQ w S v n f)(hs:∀k,S k->lo<=k/\k<hi):EJ w lo hi v n f:=by
 obtain⟨d,g,kv,a,e,b⟩:=h;exact a.at (fun k c=>hs k (b k c))
theorem Ff.at(h:Ff w S v n f)(hs:∀k,S k->lo<=k/\k<hi):EE w lo hi v n f:=by
 obtain⟨d,g,kv,a,e,b⟩:=h;exact a.at (fun k c=>hs k (b k c))
theorem GQ.form{f:Nat->Ab}(h:GQ w S v n f):∃a c,v = .slice a n c/\n<=c:=by
 obtain⟨d,i,kv,⟨_,a,c,hv,b,_⟩,e,g⟩:=h;exact⟨a,c,hv,b⟩
theorem Ff.form(h:Ff w S v n f):∃a c,v = .slice a n c/\n<=c:=by
 obtain⟨d,i,kv,⟨_,a,c,hv,b,_⟩,e,g⟩:=h;exact⟨a,c,hv,b⟩
theorem DJ.form{p:A7}(h:DJ w S v0 v1 p):∃a c b c',v0 = .slice a p.n c/\v1 = .slice b p.hn c':=by
 obtain⟨f,k,l,kv,⟨_,a,c,d,_⟩,g,⟨_,b,c',e,_,_⟩,i,j⟩:=h;exact⟨a,c,b,c',d,e⟩
structure KL (w:World) (P Q R:Nat->Prop) (v0 v1 v2 v3:Value) (W:A6):Prop where
 pool:DJ w P v0 v1 W.pool
 A2:GQ w Q v2 W.sn W.A2
 A3:Ff w R v3 W.pn W.A3
 pq:∀k,P k->¬Q k
 pr:∀k,P k->¬R k
 qr:∀k,Q k->¬R k
def EL(w:World)(lo hi:Nat)(v0 v1 v2 v3:Value)(W:A6):Prop:=∃P Q R,KL w P Q R v0 v1 v2 v3 W/\∀k,P k\/Q k\/R k->lo<=k/\k<hi
theorem EL.at(h:EL w lo hi v0 v1 v2 v3 W):C7 w lo hi v0 v1 v2 v3 W:=by
 obtain⟨P,Q,R,h,b⟩:=h;exact⟨h.pool.at (fun k a=>b k (Or.inl a)),h.A2.at (fun k a=>b k (Or.inr (Or.inl a))),h.A3.at (fun k a=>b k (Or.inr (Or.inr a)))⟩
theorem KL.AD{P Q R:Nat->Prop}(h:KL w P Q R v0 v1 v2 v3 W)(t:AC T w w')(hs:∀k,P k\/Q k\/R k->¬T k):KL w' P Q R v0 v1 v2 v3 W:=
 ⟨h.pool.AD t (fun k a=>hs k (Or.inl a)),h.A2.AD t (fun k a=>hs k (Or.inr (Or.inl a))),h.A3.AD t (fun k a=>hs k (Or.inr (Or.inr a))),h.pq,h.pr,h.qr⟩
theorem EL.AD(h:EL w lo hi v0 v1 v2 v3 W)(t:AC S w w')(hs:∀k,S k->k<lo\/hi<=k):EL w' lo hi v0 v1 v2 v3 W:=by
 obtain⟨P,Q,R,h,a⟩:=h;exact⟨P,Q,R,h.AD t (fun k b c=>by have:=a k b;have:=hs k c;omega),a⟩
theorem EL.wide{lo' hi':Nat}(h:EL w lo hi v0 v1 v2 v3 W)(c:lo'<=lo)(d:hi<=hi'):EL w lo' hi' v0 v1 v2 v3 W:=by
 obtain⟨P,Q,R,h,b⟩:=h;exact⟨P,Q,R,h,fun k a=>by have:=b k a;omega⟩
theorem EL.form(h:EL w lo hi v0 v1 v2 v3 W):∃a c0 b c1 c e d c3,v0 = .slice a W.pool.n c0/\v1 = .slice b W.pool.hn c1/\v2 = .slice c W.sn e/\v3 = .slice d W.pn c3:=by
 obtain⟨P,Q,R,h,j⟩:=h;obtain⟨a,c0,b,c1,e0,f⟩:=h.pool.form;obtain⟨c,e,g,-⟩:=h.A2.form;obtain⟨d,c3,i,-⟩:=h.A3.form;exact⟨a,c0,b,c1,c,e,d,c3,e0,f,g,i⟩
theorem C7.form(h:C7 w lo hi v0 v1 v2 v3 W):∃a c0 b c1 c e d c3,v0 = .slice a W.pool.n c0/\v1 = .slice b W.pool.hn c1/\v2 = .slice c W.sn e/\v3 = .slice d W.pn c3:=by
 obtain⟨a,c0,b,c1,e0,f⟩:=h.pool.form;obtain⟨-,c,e,g,-⟩:=h.A2;obtain⟨-,d,c3,i,-⟩:=h.A3;exact⟨a,c0,b,c1,c,e,d,c3,e0,f,g,i⟩
def Ts(f:Nat->Ab)(cv:Nat->Value)(i r:Nat):Value:=
 match r with
 | 0=>.string (f i).name
 | 1=>A0 (f i).origin
 | 2=>A0 (f i).A8
 | 3=>A0 (f i).rs
 | 4=>A0 (f i).rb
 | _=>cv i
def Fz(f:Nat->Ab)(cv:Nat->Value)(n:Nat):List Value:=(List.range (n*6)).map fun j=>Ts f cv (j / 6) (j % 6)
theorem OD(f:Nat->Ab)(cv:Nat->Value)(n:Nat):(Fz f cv n).length=n*6:=by simp[Fz]
theorem Je(f:Nat->Ab)(cv:Nat->Value)(n:Nat){r:Nat}(hi:i<n)(c:r<6):(Fz f cv n)[i*6+r]?=some (Ts f cv i r):=by
 have h:i*6+r<n*6:=by omega
 have a:(i*6+r) / 6=i:=by omega
 have b:(i*6+r) % 6=r:=by omega
 simp[Fz,h,a,b]
theorem R8(f:Nat->Ab)(cv:Nat->Value)(n:Nat)(h:∀i,i<n->(cv i).oneCell'=true):∀u∈Fz f cv n,u.oneCell'=true:=by
 intro u a;unfold Fz at a;obtain⟨j,b,rfl⟩:=List.mem_map.1 a;have c:=List.mem_range.1 b;have hi:j / 6<n:=by omega
 have d:j % 6<6:=by omega
 generalize j % 6=r at d ⊢;rcases r with _ | _ | _ | _ | _ | _<;>first | rfl | exact h _ hi
def FB(w:World)(b o:Nat)(s:Ab)(vd:Value):Prop:=AO w b o (.string s.name)/\AO w b (o+1) (A0 s.origin)/\AO w b (o+2) (A0 s.A8)/\AO w b (o+3) (A0 s.rs)/\AO w b (o+4) (A0 s.rb)/\AO w b (o+5) vd
variable{b:Nat}{s:Ab}{vd:Value}
theorem FB.AD(h:FB w b o s vd)(t:AC S w w')(hs:¬S b):FB w' b o s vd:=by
 obtain⟨a,c,d,e,f,g⟩:=h;exact⟨a.AD t hs,c.AD t hs,d.AD t hs,e.AD t hs,f.AD t hs,g.AD t hs⟩
theorem FB.A1(h:FB w b o s vd)(t:Below w.heap.size w w'):FB w' b o s vd:=
 h.AD (AC.EF (S:=fun _=>False) t) (fun h=>h)
theorem FB.set(h:FB w b o s vd)(u:Value):FB (w.setCell ⟨b,o+5,none⟩ u) b o s u:=by
 obtain⟨a,c,d,e,f,g⟩:=h;exact⟨a.other _ (Or.inr (by omega)),c.other _ (Or.inr (by omega)),d.other _ (Or.inr (by omega)),e.other _ (Or.inr (by omega)),f.other _ (Or.inr (by omega)),g.set _⟩
theorem FB.other{o':Nat}(h:FB w b o s vd)(u:Value)(a:∀r,r<6->o'≠o+r):FB (w.setCell ⟨b,o',none⟩ u) b o s vd:=by
 obtain⟨c,d,e,f,g,i⟩:=h;exact⟨c.other _ (Or.inr (a 0 (by omega))),d.other _ (Or.inr (a 1 (by omega))),e.other _ (Or.inr (a 2 (by omega))),f.other _ (Or.inr (a 3 (by omega))),g.other _ (Or.inr (a 4 (by omega))),i.other _ (Or.inr (a 5 (by omega)))⟩
structure De (wr:World) (bs L n k:Nat) (f:Nat->Ab) (kb:Nat->Nat) (kv cv:Nat->Value):Prop where
 E4:∀j,j<n->FB wr bs (j*6) (f j) (if j<k then kv j else cv j)
 dead:∀j,j<k->CS wr (kb j) (kv j) (f j).dn (f j).ds (f j).db
 C9:∀j,j<k->0<(f j).dn->L<=kb j/\kb j<wr.heap.size
 Bn:M2 kb k f
 lt:0<n->bs<L
variable{wr:World}{L:Nat}{f:Nat->Ab}{cv:Nat->Value}
theorem De.A1(h:De wr bs L n k f kb kv cv)(t:Below wr.heap.size wr w'):De w' bs L n k f kb kv cv:=
 ⟨fun j a=>(h.E4 j a).A1 t,fun j a=>(h.dead j a).A1 t,fun j a b=>by have:=h.C9 j a b;have:=t.size;omega,h.Bn,h.lt⟩
theorem De.AD(h:De wr bs L n k f kb kv cv)(t:AC S wr w')(hs:∀q,S q->(0<n->q≠bs)/\q<L)(c:k<=n):De w' bs L n k f kb kv cv:=
 ⟨fun j a=>(h.E4 j a).AD t (fun e=>(hs _ e).1 (by omega) rfl),fun j a=>(h.dead j a).AD t (fun b e=>by have:=h.C9 j a b;have:=(hs _ e).2;omega),fun j a b=>by have:=h.C9 j a b;have:=t.size;omega,h.Bn,h.lt⟩
theorem De.next(h:De wr bs L n k f kb kv cv)(A:k<n)(z:L<=wr.heap.size)(t:Below wr.heap.size wr w1)
 (x:CS w1 b v (f k).dn (f k).ds (f k).db) (l:0<(f k).dn->wr.heap.size<=b/\b<w1.heap.size) :
 De (w1.setCell ⟨bs,k*6+5,none⟩ v) bs L n (k+1) f (fun j=>if j=k then b else kb j) (fun j=>if j=k then v else kv j) cv:=by
 have g:=h.A1 t;have w:=h.lt (by omega);refine⟨fun j m=>?_,fun j m=>?_,fun j m c=>?_,fun i j hi m q o p=>?_,h.lt⟩
 ·have s:=g.E4 j m;by_cases e:j=k
  ·subst e;rw[if_pos (by omega),if_pos rfl];exact s.set v
  ·rw[if_neg e];have u:(if j<k+1 then kv j else cv j)=if j<k then kv j else cv j:=by
    by_cases a:j<k
    ·rw[if_pos a,if_pos (by omega)]
    ·rw[if_neg a,if_neg (by omega)]
   rw[u];exact s.other v (fun r B=>by omega)
 ·by_cases e:j=k
  ·subst e;simp only[if_true];exact x.AD (AC.put _ _ _ _) (fun c y=>by have:=l c;omega)
  ·simp only[if_neg e];exact(g.dead j (by omega)).AD (AC.put _ _ _ _) (fun c y=>by have:=g.C9 j (by omega) c;omega)
 ·simp only[World.size_setCell];by_cases e:j=k
  ·subst e;rw[if_pos rfl];have:=l c;omega
  ·rw[if_neg e];have:=g.C9 j (by omega) c;omega
 ·show(if i=k then b else kb i)≠(if j=k then b else kb j);by_cases d:i=k
  ·by_cases a:j=k
   ·omega
   ·rw[if_pos d,if_neg a];subst d;have:=l o;have:=h.C9 j (by omega) p;omega
  ·by_cases a:j=k
   ·rw[if_neg d,if_pos a];subst a;have:=l p;have:=h.C9 i (by omega) o;omega
   ·rw[if_neg d,if_neg a];exact h.Bn i j (by omega) (by omega) q o p
variable{c:Nat}{a:Option Addr}
theorem De.own(h:De wr bs L n n f kb kv cv)(q:n<=maxLen)(m:0<n->a=some ⟨bs,0,none⟩)(o:n<=c)(hs:∀i,i<n->(f i).name.size<=maxLen):Dz wr bs kb kv (.slice a n c) n f:=
 ⟨q,a,c,rfl,o,fun b=>⟨0,m b,fun i hi=>by
  obtain⟨b,g,j,k,l,d⟩:=h.E4 i hi;rw[if_pos hi]at d;rw[Nat.zero_add];exact⟨b,g,j,k,l,d,h.dead i hi,hs i hi,fun p e=>by have:=h.C9 i hi p;have:=h.lt (by omega);omega⟩⟩⟩
theorem De.turned0(h:De wr bs L n 0 f kb kv cv)(t:AC S wr w')(hs:∀q,S q->0<n->q≠bs):De w' bs L n 0 f kb kv cv:=
 ⟨fun j a=>(h.E4 j a).AD t (fun e=>hs _ e (by omega) rfl),fun j a=>absurd a (Nat.not_lt_zero _),fun j a=>absurd a (Nat.not_lt_zero _),h.Bn,h.lt⟩
theorem De.weak{L':Nat}(h:De wr bs L n 0 f kb kv cv)(b:L<=L'):De wr bs L' n 0 f kb kv cv:=
 ⟨h.E4,h.dead,fun j c=>absurd c (Nat.not_lt_zero _),h.Bn,fun a=>Nat.lt_of_lt_of_le (h.lt a) b⟩
theorem EJ.values(h:EJ w lo hi (.slice a n c) n f) :
 ∃cv:Nat->Value,(∀i,i<n->BG w lo hi (cv i) (f i).dn (f i).ds (f i).db/\(f i).name.size<=maxLen)/\
  (0<n->∃b off,a=some ⟨b,off,none⟩/\∀j u,(Fz f cv n)[j]?=some u->w.cell? ⟨b,off+j,none⟩=some u):=by
 obtain⟨_,A,c0,l,_,g⟩:=h;simp only[Value.slice.injEq,true_and]at l;obtain⟨rfl,rfl⟩:=l;by_cases hn:0<n
 ·obtain⟨b,off,o,p,s,t⟩:=g hn;have k:∀i,∃x,i<n->I1 w b (off+i*6) lo hi x (f i):=fun i=>by
   by_cases hi:i<n
   ·obtain⟨vd,hs⟩:=t i hi;exact⟨vd,fun _=>hs⟩
   ·exact⟨A5,fun h=>absurd h hi⟩
  obtain⟨cv,d⟩:=Classical.axiomOfChoice k;refine⟨cv,fun i hi=>⟨(d i hi).dead,(d i hi).CG⟩,fun _=>⟨b,off,o,fun j u m=>?_⟩⟩;have v:j<n*6:=by
   have:=(List.getElem?_eq_some_iff.1 m).1
   rwa [OD]at this
  have hs:=d (j / 6) (by omega);have e:=Je f cv n (i:=j / 6) (r:=j % 6) (by omega) (by omega);rw[show j / 6*6+j % 6=j by omega,m]at e;have z:j % 6<6:=(by omega);have y:off+j=off+j / 6*6+j % 6:=(by omega);rw[y];generalize j % 6=r at z e ⊢;generalize j / 6=q at hs e ⊢;rcases r with _ | _ | _ | _ | _ | _ | r
  ·cases e;exact hs.c0
  ·cases e;exact hs.c1
  ·cases e;exact hs.c2
  ·cases e;exact hs.c3
  ·cases e;exact hs.c4
  ·cases e;exact hs.c5
  ·omega
 ·exact⟨fun _=>A5,fun i hi=>absurd hi (by omega),fun h=>absurd h hn⟩
theorem Rg{base:Nat}(e:w1.ownsRow base 46 6 v n (Fz f cv n))(L:Nat)(s:w1.heap.size<=L):∃l a c,v = .slice a n c/\n<=c/\(0<n->a=some ⟨l,0,none⟩/\base<=l/\l<w1.heap.size)/\De w1 l L n 0 f (fun _=>0) cv cv:=by
 obtain⟨q,c1,rfl,k⟩:=Bw e;by_cases m:0<n
 ·obtain⟨g,cap,hv,_,o,p,b⟩:=FI e m;simp only[Value.slice.injEq,true_and]at hv;obtain⟨rfl,rfl⟩:=hv;refine⟨g,_,_,rfl,k,fun _=>⟨rfl,o,p⟩,fun j d=>?_,fun j d=>absurd d (Nat.not_lt_zero _),fun j d=>absurd d (Nat.not_lt_zero _),fun i j hi=>absurd hi (Nat.not_lt_zero _),fun _=>by omega⟩;rw[if_neg (Nat.not_lt_zero _)];exact⟨b _ _ (Je f cv n d (r:=0) (by omega)),b _ _ (Je f cv n d (r:=1) (by omega)),b _ _ (Je f cv n d (r:=2) (by omega)),b _ _ (Je f cv n d (r:=3) (by omega)),b _ _ (Je f cv n d (r:=4) (by omega)),b _ _ (Je f cv n d (r:=5) (by omega))⟩
 ·exact⟨0,_,_,rfl,k,fun h=>absurd h m,fun j d=>absurd d (by omega),fun j d=>absurd d (Nat.not_lt_zero _),fun j d=>absurd d (Nat.not_lt_zero _),fun i j hi=>absurd hi (Nat.not_lt_zero _),fun h=>absurd h m⟩
def O6(f:Nat->Aa)(cv:Nat->Value)(i r:Nat):Value:=
 match r with
 | 0=>A0 (f i).id
 | 1=>.string (f i).name
 | 2=>.string (f i).set
 | 3=>A0 (f i).A8
 | 4=>A0 (f i).time
 | 5=>A0 (f i).rs
 | 6=>A0 (f i).rb
 | _=>cv i
def Et(f:Nat->Aa)(cv:Nat->Value)(n:Nat):List Value:=(List.range (n*8)).map fun j=>O6 f cv (j / 8) (j % 8)
theorem Gj(f:Nat->Aa)(cv:Nat->Value)(n:Nat):(Et f cv n).length=n*8:=by simp[Et]
theorem G5(f:Nat->Aa)(cv:Nat->Value)(n:Nat){r:Nat}(hi:i<n)(c:r<8):(Et f cv n)[i*8+r]?=some (O6 f cv i r):=by
 have h:i*8+r<n*8:=by omega
 have a:(i*8+r) / 8=i:=by omega
 have b:(i*8+r) % 8=r:=by omega
 simp[Et,h,a,b]
theorem Oe(f:Nat->Aa)(cv:Nat->Value)(n:Nat)(h:∀i,i<n->(cv i).oneCell'=true):∀u∈Et f cv n,u.oneCell'=true:=by
 intro u a;unfold Et at a;obtain⟨j,b,rfl⟩:=List.mem_map.1 a;have c:=List.mem_range.1 b;have hi:j / 8<n:=by omega
 have d:j % 8<8:=by omega
 generalize j % 8=r at d ⊢;rcases r with _ | _ | _ | _ | _ | _ | _ | _<;>first | rfl | exact h _ hi
def FG(w:World)(b o:Nat)(s:Aa)(vd:Value):Prop:=AO w b o (A0 s.id)/\AO w b (o+1) (.string s.name)/\AO w b (o+2) (.string s.set)/\AO w b (o+3) (A0 s.A8)/\AO w b (o+4) (A0 s.time)/\AO w b (o+5) (A0 s.rs)/\AO w b (o+6) (A0 s.rb)/\AO w b (o+7) vd
variable{s:Aa}
theorem FG.AD(h:FG w b o s vd)(t:AC S w w')(hs:¬S b):FG w' b o s vd:=by
 obtain⟨a,c,d,e,f,g,i,j⟩:=h;exact⟨a.AD t hs,c.AD t hs,d.AD t hs,e.AD t hs,f.AD t hs,g.AD t hs,i.AD t hs,j.AD t hs⟩
theorem FG.A1(h:FG w b o s vd)(t:Below w.heap.size w w'):FG w' b o s vd:=
 h.AD (AC.EF (S:=fun _=>False) t) (fun h=>h)
theorem FG.set(h:FG w b o s vd)(u:Value):FG (w.setCell ⟨b,o+7,none⟩ u) b o s u:=by
 obtain⟨a,c,d,e,f,g,i,j⟩:=h;exact⟨a.other _ (Or.inr (by omega)),c.other _ (Or.inr (by omega)),d.other _ (Or.inr (by omega)),e.other _ (Or.inr (by omega)),f.other _ (Or.inr (by omega)),g.other _ (Or.inr (by omega)),i.other _ (Or.inr (by omega)),j.set _⟩
theorem FG.other{o':Nat}(h:FG w b o s vd)(u:Value)(a:∀r,r<8->o'≠o+r):FG (w.setCell ⟨b,o',none⟩ u) b o s vd:=by
 obtain⟨c,d,e,f,g,i,j,k⟩:=h;exact⟨c.other _ (Or.inr (a 0 (by omega))),d.other _ (Or.inr (a 1 (by omega))),e.other _ (Or.inr (a 2 (by omega))),f.other _ (Or.inr (a 3 (by omega))),g.other _ (Or.inr (a 4 (by omega))),i.other _ (Or.inr (a 5 (by omega))),j.other _ (Or.inr (a 6 (by omega))),k.other _ (Or.inr (a 7 (by omega)))⟩
structure Di (wr:World) (bs L n k:Nat) (f:Nat->Aa) (kb:Nat->Nat) (kv cv:Nat->Value):Prop where
 E4:∀j,j<n->FG wr bs (j*8) (f j) (if j<k then kv j else cv j)
 dead:∀j,j<k->CS wr (kb j) (kv j) (f j).dn (f j).ds (f j).db
 C9:∀j,j<k->0<(f j).dn->L<=kb j/\kb j<wr.heap.size
 Bn:Kv kb k f
 lt:0<n->bs<L
variable{f:Nat->Aa}
theorem Di.A1(h:Di wr bs L n k f kb kv cv)(t:Below wr.heap.size wr w'):Di w' bs L n k f kb kv cv:=
 ⟨fun j a=>(h.E4 j a).A1 t,fun j a=>(h.dead j a).A1 t,fun j a b=>by have:=h.C9 j a b;have:=t.size;omega,h.Bn,h.lt⟩
theorem Di.AD(h:Di wr bs L n k f kb kv cv)(t:AC S wr w')(hs:∀q,S q->(0<n->q≠bs)/\q<L)(c:k<=n):Di w' bs L n k f kb kv cv:=
 ⟨fun j a=>(h.E4 j a).AD t (fun e=>(hs _ e).1 (by omega) rfl),fun j a=>(h.dead j a).AD t (fun b e=>by have:=h.C9 j a b;have:=(hs _ e).2;omega),fun j a b=>by have:=h.C9 j a b;have:=t.size;omega,h.Bn,h.lt⟩
theorem Di.next(h:Di wr bs L n k f kb kv cv)(A:k<n)(z:L<=wr.heap.size)(t:Below wr.heap.size wr w1)
 (x:CS w1 b v (f k).dn (f k).ds (f k).db) (l:0<(f k).dn->wr.heap.size<=b/\b<w1.heap.size) :
 Di (w1.setCell ⟨bs,k*8+7,none⟩ v) bs L n (k+1) f (fun j=>if j=k then b else kb j) (fun j=>if j=k then v else kv j) cv:=by
 have g:=h.A1 t;have w:=h.lt (by omega);refine⟨fun j m=>?_,fun j m=>?_,fun j m c=>?_,fun i j hi m q o p=>?_,h.lt⟩
 ·have s:=g.E4 j m;by_cases e:j=k
  ·subst e;rw[if_pos (by omega),if_pos rfl];exact s.set v
  ·rw[if_neg e];have u:(if j<k+1 then kv j else cv j)=if j<k then kv j else cv j:=by
    by_cases a:j<k
    ·rw[if_pos a,if_pos (by omega)]
    ·rw[if_neg a,if_neg (by omega)]
   rw[u];exact s.other v (fun r B=>by omega)
 ·by_cases e:j=k
  ·subst e;simp only[if_true];exact x.AD (AC.put _ _ _ _) (fun c y=>by have:=l c;omega)
  ·simp only[if_neg e];exact(g.dead j (by omega)).AD (AC.put _ _ _ _) (fun c y=>by have:=g.C9 j (by omega) c;omega)
 ·simp only[World.size_setCell];by_cases e:j=k
  ·subst e;rw[if_pos rfl];have:=l c;omega
  ·rw[if_neg e];have:=g.C9 j (by omega) c;omega
 ·show(if i=k then b else kb i)≠(if j=k then b else kb j);by_cases d:i=k
  ·by_cases a:j=k
   ·omega
   ·rw[if_pos d,if_neg a];subst d;have:=l o;have:=h.C9 j (by omega) p;omega
  ·by_cases a:j=k
   ·rw[if_neg d,if_pos a];subst a;have:=l p;have:=h.C9 i (by omega) o;omega
   ·rw[if_neg d,if_neg a];exact h.Bn i j (by omega) (by omega) q o p
theorem Di.own(h:Di wr bs L n n f kb kv cv)(s:n<=maxLen)(p:0<n->a=some ⟨bs,0,none⟩)(q:n<=c)(hs:∀i,i<n->((f i).name.size<=maxLen/\(f i).set.size<=maxLen)):Ew wr bs kb kv (.slice a n c) n f:=
 ⟨s,a,c,rfl,q,fun b=>⟨0,p b,fun i hi=>by
  obtain⟨b,g,j,k,l,m,o,d⟩:=h.E4 i hi;rw[if_pos hi]at d;rw[Nat.zero_add];exact⟨b,g,j,k,l,m,o,d,h.dead i hi,hs i hi,fun r e=>by have:=h.C9 i hi r;have:=h.lt (by omega);omega⟩⟩⟩
theorem Di.turned0(h:Di wr bs L n 0 f kb kv cv)(t:AC S wr w')(hs:∀q,S q->0<n->q≠bs):Di w' bs L n 0 f kb kv cv:=
 ⟨fun j a=>(h.E4 j a).AD t (fun e=>hs _ e (by omega) rfl),fun j a=>absurd a (Nat.not_lt_zero _),fun j a=>absurd a (Nat.not_lt_zero _),h.Bn,h.lt⟩
theorem Di.weak{L':Nat}(h:Di wr bs L n 0 f kb kv cv)(b:L<=L'):Di wr bs L' n 0 f kb kv cv:=
 ⟨h.E4,h.dead,fun j c=>absurd c (Nat.not_lt_zero _),h.Bn,fun a=>Nat.lt_of_lt_of_le (h.lt a) b⟩
theorem EE.values(h:EE w lo hi (.slice a n c) n f) :
 ∃cv:Nat->Value,(∀i,i<n->BG w lo hi (cv i) (f i).dn (f i).ds (f i).db/\((f i).name.size<=maxLen/\(f i).set.size<=maxLen))/\
  (0<n->∃b off,a=some ⟨b,off,none⟩/\∀j u,(Et f cv n)[j]?=some u->w.cell? ⟨b,off+j,none⟩=some u):=by
 obtain⟨_,A,c0,l,_,g⟩:=h;simp only[Value.slice.injEq,true_and]at l;obtain⟨rfl,rfl⟩:=l;by_cases hn:0<n
 ·obtain⟨b,off,o,p,s,t⟩:=g hn;have k:∀i,∃x,i<n->I6 w b (off+i*8) lo hi x (f i):=fun i=>by
   by_cases hi:i<n
   ·obtain⟨vd,hs⟩:=t i hi;exact⟨vd,fun _=>hs⟩
   ·exact⟨A5,fun h=>absurd h hi⟩
  obtain⟨cv,d⟩:=Classical.axiomOfChoice k;refine⟨cv,fun i hi=>⟨(d i hi).dead,(d i hi).CG⟩,fun _=>⟨b,off,o,fun j u m=>?_⟩⟩;have v:j<n*8:=by
   have:=(List.getElem?_eq_some_iff.1 m).1
   rwa [Gj]at this
  have hs:=d (j / 8) (by omega);have e:=G5 f cv n (i:=j / 8) (r:=j % 8) (by omega) (by omega);rw[show j / 8*8+j % 8=j by omega,m]at e;have z:j % 8<8:=(by omega);have y:off+j=off+j / 8*8+j % 8:=(by omega);rw[y];generalize j % 8=r at z e ⊢;generalize j / 8=q at hs e ⊢;rcases r with _ | _ | _ | _ | _ | _ | _ | _ | r
  ·cases e;exact hs.c0
  ·cases e;exact hs.c1
  ·cases e;exact hs.c2
  ·cases e;exact hs.c3
  ·cases e;exact hs.c4
  ·cases e;exact hs.c5
  ·cases e;exact hs.c6
  ·cases e;exact hs.c7
  ·omega
 ·exact⟨fun _=>A5,fun i hi=>absurd hi (by omega),fun h=>absurd h hn⟩
theorem P2{base:Nat}(e:w1.ownsRow base 41 8 v n (Et f cv n))(L:Nat)(s:w1.heap.size<=L):∃l a c,v = .slice a n c/\n<=c/\(0<n->a=some ⟨l,0,none⟩/\base<=l/\l<w1.heap.size)/\Di w1 l L n 0 f (fun _=>0) cv cv:=by
 obtain⟨q,c1,rfl,k⟩:=Bw e;by_cases m:0<n
 ·obtain⟨g,cap,hv,_,o,p,b⟩:=FI e m;simp only[Value.slice.injEq,true_and]at hv;obtain⟨rfl,rfl⟩:=hv;refine⟨g,_,_,rfl,k,fun _=>⟨rfl,o,p⟩,fun j d=>?_,fun j d=>absurd d (Nat.not_lt_zero _),fun j d=>absurd d (Nat.not_lt_zero _),fun i j hi=>absurd hi (Nat.not_lt_zero _),fun _=>by omega⟩;rw[if_neg (Nat.not_lt_zero _)];exact⟨b _ _ (G5 f cv n d (r:=0) (by omega)),b _ _ (G5 f cv n d (r:=1) (by omega)),b _ _ (G5 f cv n d (r:=2) (by omega)),b _ _ (G5 f cv n d (r:=3) (by omega)),b _ _ (G5 f cv n d (r:=4) (by omega)),b _ _ (G5 f cv n d (r:=5) (by omega)),b _ _ (G5 f cv n d (r:=6) (by omega)),b _ _ (G5 f cv n d (r:=7) (by omega))⟩
 ·exact⟨0,_,_,rfl,k,fun h=>absurd h m,fun j d=>absurd d (by omega),fun j d=>absurd d (Nat.not_lt_zero _),fun j d=>absurd d (Nat.not_lt_zero _),fun i j hi=>absurd hi (Nat.not_lt_zero _),fun h=>absurd h m⟩
def JX(W:A6):Prop:=(∀i,i<W.sn->(W.A2 i).dn<=1048576)/\∀i,i<W.pn->(W.A3 i).dn<=1048576
def D7(v:Value):Option (DataW Value×List MemPlace):=some (.held v,[])
theorem Ls{d:DataW Value}{ps:List MemPlace}(h:D7 v=some (d,ps)):d = .held v:=by
 unfold D7 at h;simp only[Option.some.injEq,Prod.mk.injEq]at h;exact h.1.symm
theorem GW(v:Value):D7 v=some (.held v,[]):=rfl
variable{P:Program}{g:Array Oper}{rest:List Oper}{Q:Exit->Act->World->Prop}
theorem zDD(w:World){o:Oper}{a:Act}
 (l:o.guard=none) (m x:Operand) (t:TypeId) (hop:o.op=Op.lookup t m x false)
 (k e:TypeId) (K:Keyed P k) (q:P.underlying t=some (.map k e)) {z:Value} (s:(zeroValue e).run P w = .ok z w) (b n:Nat) (D:DataW Value)
 (p:a.eval m = .map (some b)) (d:w.ownsMap P k D7 b n D) (key:Value) (kl:Lit) (r:a.eval x=key) (c:keyOf P k key=some kl)
 (v:Value) (j:D.atKey kl (.held z) = .held v) (hK:wpList P g Q rest (a.put o.dst v) w) :
 wpList P g Q (o :: rest) a w:=by
 refine wpList_plain l fun u i=>?_
 obtain⟨y,ps,f,hv⟩:=d.lookup K q s (GW z) c;have h:=Ls hv;rw[j]at h;injection h with h;subst h;unfold Oper.wp;simp[execOp,hop,p,r,f,Result.andThen];exact i _ _ hK
theorem P4(w:World){o:Oper}{a:Act}
 (l:o.guard=none) (m x:Operand) (t:TypeId) (hop:o.op=Op.lookup t m x true)
 (k e:TypeId) (K:Keyed P k) (q:P.underlying t=some (.map k e)) {z:Value} (s:(zeroValue e).run P w = .ok z w) (b n:Nat) (D:DataW Value)
 (p:a.eval m = .map (some b)) (f:w.ownsMap P k D7 b n D) (key:Value) (kl:Lit) (r:a.eval x=key) (d:keyOf P k key=some kl)
 (v:Value) (i:D.atKey kl (.held z) = .held v) (c:Bool) (j:Maps.has D kl=c) (hK:wpList P g Q rest (a.put o.dst (.tuple #[v,.bool c])) w) :
 wpList P g Q (o :: rest) a w:=by
 refine wpList_lookup_own_ok w l m x t hop k e K q D7 s (.held z) [] (GW z) b n D p f key kl r d (fun u ps hv=>?_);have h:=Ls hv;rw[i]at h;injection h with h;subst h;rw[j];exact hK
def putD(key:Nat->Lit)(val:Nat->Value):Nat->DataW Value
 | 0=>.map []
 | k+1=>(putD key val k).put (key k) (.held (val k))
def Gv(key:Nat->Lit):Prop:=∀i,WideAt.IsKeyLit (key i)
theorem Kk{key:Nat->Lit}(a:Gv key)(val:Nat->Value):∀k,Tidy (putD key val k)
 | 0=>tidy_empty
 | k+1=>(Kk a val k).put (a k) _
theorem Lr{key:Nat->Lit}(a:Gv key)(val:Nat->Value)(l:Lit):∀k,Maps.has (putD key val k) l=true↔∃i,i<k/\key i=l
 | 0=>by
  constructor
  ·intro h;exact absurd h (by simp[putD,Maps.has])
  ·rintro⟨i,hi,_⟩;omega
 | k+1=>by
  by_cases b:key k=l
  ·subst b;exact⟨fun _=>⟨k,by omega,rfl⟩,fun _=>has_put_same (Kk a val k).isMap (a k) _⟩
  ·rw[show Maps.has (putD key val (k+1)) l=Maps.has (putD key val k) l from has_put_other (Ne.symm b) _,Lr a val l k];constructor
   ·rintro⟨i,hi,e⟩;exact⟨i,by omega,e⟩
   ·rintro⟨i,hi,e⟩;by_cases h:i=k
    ·subst h;exact absurd e b
    ·exact⟨i,by omega,e⟩
variable{key:Nat->Lit}
theorem Ql(b:Gv key)(val:Nat->Value){l:Lit}(h:∀i,i<k->key i≠l)(z:DataW Value):(putD key val k).atKey l z=z:=by
 refine atKey_of_not_has ?_ _;rw[Bool.eq_false_iff];intro a;obtain⟨i,hi,e⟩:=(Lr b val l k).1 a;exact h i hi e
theorem PZ{key:Nat->Lit}(a:Gv key)(val:Nat->Value)(z:DataW Value):∀k i,i<k->(∀j,i<j->j<k->key j≠key i)->(putD key val k).atKey (key i) z = .held (val i)
 | 0,i,hi,_=>absurd hi (Nat.not_lt_zero _)
 | k+1,i,hi,hd=>by
  by_cases e:i=k
  ·subst e;exact atKey_put_same (Kk a val i).isMap (a i) _ _
  ·exact(atKey_put_other (Ne.symm (hd k (by omega) (by omega))) _ _).trans (PZ a val z k i (by omega) (fun j b c=>hd j b (by omega)))
def Gq(n:Nat)(key:Nat->Lit):Prop:=∀i,i<n->∀k,k<i->key k≠key i
theorem RE{f:Nat->Lit}:Gq (k+1) f↔Gq k f/\∀i,i<k->f i≠f k:=by
 constructor
 ·exact fun h=>⟨fun i hi=>h i (by omega),fun i hi=>h k (by omega) i hi⟩
 ·rintro⟨b,c⟩ i hi j a;by_cases e:i=k
  ·subst e;exact c j a
  ·exact b i (by omega) j a
theorem Qm{key:Nat->Lit}(b:Gv key)(val:Nat->Value):∀k,Maps.size (putD key val k)<=k/\(Maps.size (putD key val k)=k↔Gq k key)
 | 0=>⟨Nat.le_refl _,fun _ i hi=>by omega,fun _=>rfl⟩
 | k+1=>by
  obtain⟨f,d⟩:=Qm b val k;have e:Maps.size (putD key val (k+1))=if Maps.has (putD key val k) (key k)then Maps.size (putD key val k)else Maps.size (putD key val k)+1:=size_put (Kk b val k) _
  by_cases a:Maps.has (putD key val k) (key k)=true
  ·rw[if_pos a]at e;rw[e,RE];refine⟨by omega,fun h=>by omega,fun h=>?_⟩;obtain⟨i,hi,c⟩:=(Lr b val (key k) k).1 a;exact absurd c (h.2 i hi)
  ·rw[if_neg a]at e;rw[e,RE,<-d];refine⟨by omega,fun h=>⟨by omega,fun i hi c=>a ((Lr b val (key k) k).2 ⟨i,hi,c⟩)⟩,fun h=>by omega⟩
theorem ZN(n:Int)(w:World):Calls Tryz.prog 61 #[A0 n] w fun e w'=>AJ (Jb n 1 900000) e/\w'=w:=by
 by_cases a:1<=n
 ·by_cases b:n<=900000
  ·go_enter Tryz.func61,Tryz.ntmps61;go_wp2;go_ret;exact⟨AJ.yes ⟨a,b⟩,rfl⟩
  ·go_enter Tryz.func61,Tryz.ntmps61;go_wp2;go_ret;exact⟨AJ.no fun h=>by have:=h.2;omega,rfl⟩
 ·go_enter Tryz.func61,Tryz.ntmps61;go_wp2;go_ret;exact⟨AJ.no fun h=>by have:=h.1;omega,rfl⟩
def Mid(a x b:Int):Prop:=a<x/\x<b
theorem Yg(a x b:Int)(w:World):Calls Tryz.prog 121 #[A0 a,A0 x,A0 b] w fun e w'=>AJ (Mid a x b) e/\w'=w:=by
 by_cases c:a<x
 ·by_cases d:x<b
  ·go_enter Tryz.func121,Tryz.ntmps121;go_wp2;go_ret;exact⟨AJ.yes ⟨c,d⟩,rfl⟩
  ·go_enter Tryz.func121,Tryz.ntmps121;go_wp2;go_ret;exact⟨AJ.no fun h=>by have:=h.2;omega,rfl⟩
 ·go_enter Tryz.func121,Tryz.ntmps121;go_wp2;go_ret;exact⟨AJ.no fun h=>by have:=h.1;omega,rfl⟩
def Fv(f:Nat->Ab):Nat->ByteArray
 | 0=>⟨#[]⟩
 | k+1=>(f k).name
def qX(n:Nat)(f:Nat->Ab):Prop:=n<=8/\∀i,i<n->BX (f i).name/\Cd (Fv f i) (f i).name
theorem zCP(v:Value)(n lo hi:Nat)(f:Nat->Ab)(w:World)(h:EJ w lo hi v n f) :
 Calls Tryz.prog 62 #[v] w fun e w'=>AJ (qX n f) e/\Below w.heap.size w w':=by
 have H:=A4 h;obtain⟨K,a,c,rfl,R,-⟩:=id h;unfold maxLen at K;clear h;by_cases hn:n<=8;rotate_left
 ·have z:(8:Int)<(n:Int):=(by omega);go_enter Tryz.func62,Tryz.ntmps62;go_wp2;go_ret;exact⟨AJ.no fun h=>hn h.1,Below.refl _ _⟩
 have z:¬(8:Int)<(n:Int):=by omega
 go_enter Tryz.func62,Tryz.ntmps62;go_wp2
 go_loopw [3,11] (fun l i wr=>∃k:Nat,k<=n/\i=A0 k/\l = .string (Fv f k)/\(∀j,j<k->BX (f j).name/\Cd (Fv f j) (f j).name)/\Below w.heap.size w wr) (fun _ i _=>n - (intOf i).toNat)
 case atStart=>exact⟨0,Nat.zero_le _,rfl,rfl,fun j J=>absurd J (Nat.not_lt_zero _),Below.refl _ _⟩
 case round=>
  obtain⟨k,Q,rfl,rfl,p,y⟩:=hrel;have o:=A4 p;clear p;by_cases g:k<n;rotate_left
  ·obtain rfl:k=n:=(by omega);go_wp2;go_ret;exact⟨AJ.yes ⟨hn,o.out⟩,y⟩
  have D:(k:Int)<(n:Int):=(by omega);obtain⟨b,off,vd,rfl,d⟩:=(H.out.A1 y).cells g;obtain⟨-,B,C,rfl,-,-⟩:=id d.dead;have t:=AB wr (.cells #[.string (f k).name,A0 (f k).origin,A0 (f k).A8,A0 (f k).rs,A0 (f k).rb,.slice B (f k).dn C] 46);have x:=A4 (At.new wr (.string (f k).name) (A0 (f k).origin) (A0 (f k).A8) (A0 (f k).rs) (A0 (f k).rb) (.slice B (f k).dn C) 46);have q:=A9 y t;have L:=d.c0;have q1:=d.c1;have M:=d.c2;have N:=d.c3;have O:=d.c4;have P:=d.c5;have A:=d.CG;obtain⟨⟨T,U⟩,-⟩:=x.out;clear d t;go_wp2_with fail;clear L q1 M N O P;refine(Ra (f k).name _ A).mono ?_;rintro e S ⟨⟨E,rfl,m⟩,rfl⟩;by_cases r:BX (f k).name;rotate_left
  ·have G:=A4 r;obtain rfl:E=false:=BQ m r;clear m r;go_wp2;go_ret;exact⟨AJ.no fun h=>G.out (h.2 k g).1,q⟩
  have F:=A4 r;obtain rfl:E=true:=m.2 r;clear m r;by_cases s:Cd (Fv f k) (f k).name
  ·have I:=(Sy (f k).name (Fv f k)).2 s;have u:=A4 s;clear s;go_wp2;go_roundw
   case rel=>exact⟨k+1,by omega,by go_num,rfl,Br g o.out ⟨F.out,u.out⟩,q⟩
   case measure=>simp[intOf];omega
  ·have I:(Op.bytesLess (f k).name.toList (Fv f k).toList || (f k).name.toList == (Fv f k).toList)=true:=by
    cases hc:(Op.bytesLess (f k).name.toList (Fv f k).toList || (f k).name.toList == (Fv f k).toList)
    ·exact absurd ((Sy _ _).1 hc) s
    ·rfl
   have u:=A4 s;clear s;go_wp2;go_ret;exact⟨AJ.no fun h=>u.out (h.2 k g).2,q⟩
theorem S5:laidOutB Tryz.prog=true:=by kernel_rfl
theorem yS:300<=Tryz.prog.types.size+300 - 1/\1<=Tryz.prog.types.size:=by
 have h:decide (1<=Tryz.prog.types.size)=true:=by kernel_rfl
 have:=of_decide_eq_true h;omega
theorem S6(h:decide (k<Tryz.prog.types.size)=true):k<Tryz.prog.types.size:=of_decide_eq_true h
theorem zIj:Tryz.prog.underlying 9=some .string:=by kernel_rfl
theorem yf:Tryz.prog.underlying 2=some (.int .i64):=by kernel_rfl
theorem MT:Keyed Tryz.prog 9:=string_keyed zIj
theorem yg:Keyed Tryz.prog 2:=int_keyed yf
def DP(s:ByteArray):Lit:=.string s.data.toList
variable{s:ByteArray}
theorem Pn(h:s.size<=maxLen):keyOf Tryz.prog 9 (.string s)=some (DP s):=by simp[keyOf,mapKey,DP,h]
variable{t:ByteArray}
theorem zF4(h:DP s=DP t):s=t:=by
 unfold DP at h;injection h with h;cases s;cases t;simp only[ByteArray.mk.injEq];exact Array.toList_inj.1 h
theorem Uk(s:ByteArray):WideAt.IsKeyLit (DP s):=trivial
def Gl(x:Int):Lit:=.int .i64 x
theorem Su(h:(Lit.int .i64 x).wf=true):keyOf Tryz.prog 2 (.int .i64 x)=some (Gl x):=keyOf_int_mk yf h
theorem Uj(h:Gl x=Gl y):x=y:=by unfold Gl at h;injection h
theorem zF3(x:Int):WideAt.IsKeyLit (Gl x):=trivial
theorem zD:Tryz.prog.underlying 202=some (.array 2 9):=by kernel_rfl
theorem SJ:Keyed Tryz.prog 202:=Keyed.of_law (deep_law_laid S5 (m:=5) (by decide) (S6 (by kernel_rfl)) (by kernel_rfl) (by kernel_rfl))
theorem zGt(hs:s.size<=maxLen)(e:t.size<=maxLen):∃l,keyOf Tryz.prog 202 (.agg #[.string s,.string t])=some l:=by
 obtain⟨m,d⟩:∃m,Tryz.prog.types.size+1=m+2:=⟨Tryz.prog.types.size - 1,by have:=yS;omega⟩;have c:Tryz.prog.keyType 202=true:=by kernel_rfl
 have a:Tryz.prog.cellsOf 202=2:=by kernel_rfl
 have b:Tryz.prog.cellsOf 9=1:=by kernel_rfl
 unfold keyOf;simp only[zD];rw[if_pos (by simp[c,Value.formed,a]),d];unfold Program.keyLits;simp only[zD,Value.cells];rw[if_pos (by rw[a];rfl),show List.range 2 = [0,1] from rfl,List.mapM_cons,List.mapM_cons,List.mapM_nil];simp[b,Program.keyLits,hs,e]
theorem zA:Tryz.prog.underlying 38=some (.struct #[⟨ "Slot",2,0,false, "", "",0⟩,⟨ "Birth",2,1,false, "", "",8⟩]):=by kernel_rfl
theorem SI:Keyed Tryz.prog 38:=Keyed.of_law (deep_law_laid S5 (m:=5) (by decide) (S6 (by kernel_rfl)) (by kernel_rfl) (by kernel_rfl))
theorem zGs(e:(Lit.int .i64 x).wf=true)(f:(Lit.int .i64 y).wf=true):∃l,keyOf Tryz.prog 38 (.agg #[.int .i64 x,.int .i64 y])=some l:=by
 obtain⟨m,d⟩:∃m,Tryz.prog.types.size+1=m+2:=⟨Tryz.prog.types.size - 1,by have:=yS;omega⟩;have c:Tryz.prog.keyType 38=true:=by kernel_rfl
 have a:Tryz.prog.cellsOf 38=2:=by kernel_rfl
 have b:Tryz.prog.cellsOf 2=1:=by kernel_rfl
 unfold keyOf;simp only[zA];rw[if_pos (by simp[c,Value.formed,a]),d];unfold Program.keyLits;simp only[zA,Value.cells];rw[if_pos ⟨by rw[a];rfl,by kernel_rfl⟩];simp[b,Program.keyLits,e,f]
def Fm(vd:Value)(s:Ab):Value:=.agg #[.string s.name,.int .i64 s.origin,.int .i64 s.A8,.int .i64 s.rs,.int .i64 s.rb,vd]
def DI(vd:Value)(s:Aa):Value:=.agg #[.int .i64 s.id,.string s.name,.string s.set,.int .i64 s.A8,.int .i64 s.time,.int .i64 s.rs,.int .i64 s.rb,vd]
def V4(w:World)(lo hi n:Nat)(f:Nat->Ab)(vd:Nat->Value):Prop:=∀i,i<n->BG w lo hi (vd i) (f i).dn (f i).ds (f i).db
def OB(w:World)(lo hi n:Nat)(f:Nat->Aa)(vd:Nat->Value):Prop:=∀i,i<n->BG w lo hi (vd i) (f i).dn (f i).ds (f i).db
open Classical in
theorem EJ.vals{f:Nat->Ab}(h:EJ w lo hi (.slice a n c) n f):∃vd:Nat->Value,V4 w lo hi n f vd/\∀i,i<n->∃b off,a=some ⟨b,off,none⟩/\I1 w b (off+i*6) lo hi (vd i) (f i):=by
 have d:∀i,∃v,i<n->∃b off,a=some ⟨b,off,none⟩/\I1 w b (off+i*6) lo hi v (f i):=fun i=>by
  by_cases hi':i<n
  ·obtain⟨b,off,vd,e,hs⟩:=h.cells hi';exact⟨vd,fun _=>⟨b,off,e,hs⟩⟩
  ·exact⟨undef,fun h=>absurd h hi'⟩
 refine⟨fun i=>(d i).choose,fun i hi'=>?_,fun i hi'=>(d i).choose_spec hi'⟩;obtain⟨b,off,_,hs⟩:=(d i).choose_spec hi';exact hs.dead
open Classical in
theorem EE.vals(h:EE w lo hi (.slice a n c) n f):∃vd:Nat->Value,OB w lo hi n f vd/\∀i,i<n->∃b off,a=some ⟨b,off,none⟩/\I6 w b (off+i*8) lo hi (vd i) (f i):=by
 have d:∀i,∃v,i<n->∃b off,a=some ⟨b,off,none⟩/\I6 w b (off+i*8) lo hi v (f i):=fun i=>by
  by_cases hi':i<n
  ·obtain⟨b,off,vd,e,hs⟩:=h.cells hi';exact⟨vd,fun _=>⟨b,off,e,hs⟩⟩
  ·exact⟨undef,fun h=>absurd h hi'⟩
 refine⟨fun i=>(d i).choose,fun i hi'=>?_,fun i hi'=>(d i).choose_spec hi'⟩;obtain⟨b,off,_,hs⟩:=(d i).choose_spec hi';exact hs.dead
theorem L9:Tryz.prog.underlying 149=some (.map 9 46):=by kernel_rfl
theorem qN:Tryz.prog.underlying 164=some (.map 2 41):=by kernel_rfl
theorem Zc:Tryz.prog.underlying 201=some (.map 202 2):=by kernel_rfl
def GS(w:World)(W:A6)(M n:Nat)(vd:Nat->Value):Prop:=w.ownsMap Tryz.prog 9 D7 M n (putD (fun i=>DP (W.A2 i).name) (fun i=>Fm (vd i) (W.A2 i)) n)
def Jc(w:World)(W:A6)(M n:Nat)(vd:Nat->Value):Prop:=w.ownsMap Tryz.prog 2 D7 M n (putD (fun i=>Gl (W.A3 i).id) (fun i=>DI (vd i) (W.A3 i)) n)
variable{M:Nat}{vd:Nat->Value}
theorem GS.A1(h:GS w W M n vd)(t:Below w.heap.size w w'):GS w' W M n vd:=h.kept (EK t none) (by simp)
theorem Jc.A1(h:Jc w W M n vd)(t:Below w.heap.size w w'):Jc w' W M n vd:=h.kept (EK t none) (by simp)
theorem ZA(r v1 P s:Value)(lo hi:Nat)(W:A6)(w:World)(h:C7 w lo hi r v1 P s W)(hn:W.sn<=8) :
 Calls Tryz.prog 108 #[Cc r v1 P s W] w fun e w'=>∃vd,e = .returned (.map (some (w.heap.size+1)))/\GS w' W (w.heap.size+1) W.sn vd/\V4 w lo hi W.sn W.A2 vd/\Below w.heap.size w w':=by
 have Hp:=A4 h;obtain⟨T,a,c,rfl,mc,-⟩:=id h.A2;unfold maxLen at T;obtain⟨vd,A,y⟩:=h.A2.vals;have D:=A4 A;have C:=A4 y;clear h A y;have N:=AB w (.cells #[r,v1,.int .i64 W.time,.int .i64 W.next,.slice a W.sn c,s] 30);have J:=A4 (At.new w r v1 (.int .i64 W.time) (.int .i64 W.next) (.slice a W.sn c) s 30);have q:(w.alloc (.cells #[r,v1,.int .i64 W.time,.int .i64 W.next,.slice a W.sn c,s] 30)).heap.size=w.heap.size+1:=World.size_alloc _ _;have H:=World.ownsMap_made (w.alloc (.cells #[r,v1,.int .i64 W.time,.int .i64 W.next,.slice a W.sn c,s] 30)) Tryz.prog 9 D7;rw[q]at H;have K:=A4 H;have t:=A4 (J.out.A1 (AB _ (.map #[] 0)));have u:=A4 (A9 N (AB _ (.map #[] 0)));have R:=@run_makeMap Tryz.prog;obtain⟨U,V,X,Y,Z,I⟩:=t.out.c;clear H;go_enter Tryz.func108,Tryz.ntmps108;go_wp2;clear U V X Y Z I N
 go_loopw [10] (fun i wr=>∃k:Nat,k<=W.sn/\i = .int .i64 k/\GS wr W (w.heap.size+1) k vd/\Below w.heap.size w wr/\w.heap.size+2<=wr.heap.size) (fun i _=>W.sn - (intOf i).toNat)
 case atStart=>exact⟨0,Nat.zero_le _,rfl,K.out,u.out,by rw[World.size_alloc,q];omega⟩
 case round=>
  clear K t u J q;obtain⟨k,hk,rfl,m,F,hz⟩:=hrel;have l:=A4 m;clear m;by_cases G:k<W.sn
  ·have O:(k:Int)<(W.sn:Int):=(by omega);obtain⟨b,off,rfl,z⟩:=C.out k G;have d:=z.A1 F;obtain⟨-,L,M,p,-,-⟩:=id d.dead;have E:=A4 p;rw[p]at d;clear p z;have g:=AB wr (.cells #[.string (W.A2 k).name,.int .i64 (W.A2 k).origin,.int .i64 (W.A2 k).A8,.int .i64 (W.A2 k).rs,.int .i64 (W.A2 k).rb,.slice L (W.A2 k).dn M] 46);have B:=A4 (At.new wr (.string (W.A2 k).name) (.int .i64 (W.A2 k).origin) (.int .i64 (W.A2 k).A8) (.int .i64 (W.A2 k).rs) (.int .i64 (W.A2 k).rb) (.slice L (W.A2 k).dn M) 46);have x:=A9 F g;have q0:=d.c0;have q1:=d.c1;have q2:=d.c2;have q3:=d.c3;have q4:=d.c4;have q5:=d.c5;have v:=A4 (Pn d.CG);obtain⟨⟨y0,y1⟩,⟨y2,y3⟩,⟨y4,y5⟩,⟨y6,y7⟩,⟨y8,y9⟩,⟨aA,bA⟩⟩:=B.out;have n:=A4 (l.out.A1 g);have S:=g.size;clear d g;go_wp2_with (first
    | (at_mapUpdate;refine wpList_mapUpdate_own _ rfl _ _ _ 149 rfl 9 46 MT L9 D7 (w.heap.size+1) k _ rfl n.out (by unfold maxLen;omega) _ _ _ rfl rfl v.out _ [] (GW _) ?_;intro w1 o f)
    | go_in)
   go_roundw
   case rel=>
    refine⟨k+1,by omega,by go_num,?_,x.grown f x.size (fun j Q=>by cases Q;omega),by have:=f.size;omega⟩;unfold GS putD Fm;rw[E.out];exact o
   case measure=>simp[intOf];omega
  ·obtain rfl:k=W.sn:=(by omega);go_wp2;go_ret;exact⟨vd,rfl,l.out,D.out,F⟩
def Mo(n:Nat)(f:Nat->Aa):Prop:=∀i,i<n->(Lit.int .i64 (f i).id).wf=true
theorem zCS(r v1 s R:Value)(lo hi:Nat)(W:A6)(w:World)(h:C7 w lo hi r v1 s R W)(hn:W.pn<=20)(C:Mo W.pn W.A3) :
 Calls Tryz.prog 125 #[Cc r v1 s R W] w fun e w'=>∃vd,e = .returned (.map (some (w.heap.size+1)))/\Jc w' W (w.heap.size+1) W.pn vd/\OB w lo hi W.pn W.A3 vd/\Below w.heap.size w w':=by
 have Hp:=A4 h;have H:=A4 C;obtain⟨V,a,c,rfl,mc,-⟩:=id h.A3;unfold maxLen at V;obtain⟨vd,B,y⟩:=h.A3.vals;have F:=A4 B;have E:=A4 y;clear h B y C;have P:=AB w (.cells #[r,v1,.int .i64 W.time,.int .i64 W.next,s,.slice a W.pn c] 30);have L:=A4 (At.new w r v1 (.int .i64 W.time) (.int .i64 W.next) s (.slice a W.pn c) 30);have q:(w.alloc (.cells #[r,v1,.int .i64 W.time,.int .i64 W.next,s,.slice a W.pn c] 30)).heap.size=w.heap.size+1:=World.size_alloc _ _;have J:=World.ownsMap_made (w.alloc (.cells #[r,v1,.int .i64 W.time,.int .i64 W.next,s,.slice a W.pn c] 30)) Tryz.prog 2 D7;rw[q]at J;have M:=A4 J;have t:=A4 (L.out.A1 (AB _ (.map #[] 0)));have u:=A4 (A9 P (AB _ (.map #[] 0)));have T:=@run_makeMap Tryz.prog;obtain⟨X,Y,Z,x6,x8,K⟩:=t.out.c;clear J;go_enter Tryz.func125,Tryz.ntmps125;go_wp2;clear X Y Z x6 x8 K P
 go_loopw [10] (fun i wr=>∃k:Nat,k<=W.pn/\i = .int .i64 k/\Jc wr W (w.heap.size+1) k vd/\Below w.heap.size w wr/\w.heap.size+2<=wr.heap.size) (fun i _=>W.pn - (intOf i).toNat)
 case atStart=>exact⟨0,Nat.zero_le _,rfl,M.out,u.out,by rw[World.size_alloc,q];omega⟩
 case round=>
  clear M t u L q;obtain⟨k,hk,rfl,m,I,hz⟩:=hrel;have l:=A4 m;clear m;by_cases z:k<W.pn
  ·have Q:(k:Int)<(W.pn:Int):=(by omega);obtain⟨b,off,rfl,A⟩:=E.out k z;have d:=A.A1 I;obtain⟨-,N,O,p,-,-⟩:=id d.dead;have G:=A4 p;rw[p]at d;clear p A;have g:=AB wr (.cells #[.int .i64 (W.A3 k).id,.string (W.A3 k).name,.string (W.A3 k).set,.int .i64 (W.A3 k).A8,.int .i64 (W.A3 k).time,.int .i64 (W.A3 k).rs,.int .i64 (W.A3 k).rb,.slice N (W.A3 k).dn O] 41);have D:=A4 (DX.new wr (.int .i64 (W.A3 k).id) (.string (W.A3 k).name) (.string (W.A3 k).set) (.int .i64 (W.A3 k).A8) (.int .i64 (W.A3 k).time) (.int .i64 (W.A3 k).rs) (.int .i64 (W.A3 k).rb) (.slice N (W.A3 k).dn O) 41);have x:=A9 I g;have q0:=d.c0;have q1:=d.c1;have q2:=d.c2;have q3:=d.c3;have q4:=d.c4;have q5:=d.c5;have q6:=d.c6;have q7:=d.c7;have v:=A4 (Su (H.out k z));obtain⟨⟨⟨y0,-⟩,⟨y1,-⟩,⟨y2,-⟩,⟨y3,-⟩⟩,⟨y4,-⟩,⟨y5,-⟩,⟨y6,-⟩,⟨y7,-⟩⟩:=D.out;have n:=A4 (l.out.A1 g);have U:=g.size;clear d g;go_wp2_with (first
    | (at_mapUpdate;refine wpList_mapUpdate_own _ rfl _ _ _ 164 rfl 2 41 yg qN D7 (w.heap.size+1) k _ rfl n.out (by unfold maxLen;omega) _ _ _ rfl rfl v.out _ [] (GW _) ?_;intro w1 o f)
    | go_in)
   go_roundw
   case rel=>
    refine⟨k+1,by omega,by go_num,?_,x.grown f x.size (fun j S=>by cases S;omega),by have:=f.size;omega⟩;unfold Jc putD DI;rw[G.out];exact o
   case measure=>simp[intOf];omega
  ·obtain rfl:k=W.pn:=(by omega);go_wp2;go_ret;exact⟨vd,rfl,l.out,F.out,I⟩
def ME(n:Nat)(f:Nat->Aa):Prop:=∀i,i<n->∀k,k<i->¬((f k).set=(f i).set/\(f k).name=(f i).name)
theorem ME.iff(c:∀i,i<n->keyOf Tryz.prog 202 (.agg #[.string (f i).set,.string (f i).name])=some (key i)):Gq n key↔ME n f:=by
 constructor
 ·intro h i hi k a e;refine h i hi k a ?_;have d:=c i hi;have b:=c k (by omega);rw[e.1,e.2,d]at b;exact(Option.some.inj b).symm
 ·intro h i hi k a e;have d:=c i hi;have b:=c k (by omega);rw[e]at b;have:=SJ.inj b d;simp only[Value.agg.injEq,Array.mk.injEq,List.cons.injEq,Value.string.injEq,and_true]at this;exact h i hi k a this
theorem zCs(v:Value)(n lo hi:Nat)(f:Nat->Aa)(w:World)(h:EE w lo hi v n f)(hn:n<=20) :
 Calls Tryz.prog 122 #[v] w fun e w'=>AJ (ME n f) e/\Below w.heap.size w w':=by
 have L:=A4 h;obtain⟨R,a,c,rfl,U,-⟩:=id h;unfold maxLen at R;have o:∀i,∃l,WideAt.IsKeyLit l/\(i<n->keyOf Tryz.prog 202 (.agg #[.string (f i).set,.string (f i).name])=some l):=fun i=>by
  by_cases hi':i<n
  ·obtain⟨b,off,vd,_,hs⟩:=h.cells hi';obtain⟨l,I⟩:=zGt hs.CG.2 hs.CG.1;exact⟨l,SJ.key I,fun _=>I⟩
  ·exact⟨.string [],trivial,fun h=>absurd h hi'⟩
 obtain⟨key,y,z⟩:∃key:Nat->Lit,Gv key/\∀i,i<n->keyOf Tryz.prog 202 (.agg #[.string (f i).set,.string (f i).name])=some (key i):=⟨fun i=>(o i).choose,fun i=>(o i).choose_spec.1,fun i=>(o i).choose_spec.2⟩;have C:=A4 y;have u:=A4 z;clear h o y z;have F:=A4 (World.ownsMap_made w Tryz.prog 202 D7);have P:=@run_makeMap Tryz.prog;go_enter Tryz.func122,Tryz.ntmps122;go_wp2
 go_loopw [9] (fun i wr=>∃k:Nat,k<=n/\i = .int .i64 k/\wr.ownsMap Tryz.prog 202 D7 w.heap.size k (putD key (fun i=>.int .i64 (f i).id) k)/\Below w.heap.size w wr/\w.heap.size+1<=wr.heap.size) (fun i _=>n - (intOf i).toNat)
 case atStart=>exact⟨0,Nat.zero_le _,rfl,F.out,AB _ _,by rw[World.size_alloc];omega⟩
 case round=>
  clear F;obtain⟨k,S,rfl,q,E,T⟩:=hrel;have p:=A4 q;clear q;by_cases A:k<n
  ·have J:(k:Int)<(n:Int):=(by omega);obtain⟨b,off,vd,rfl,d⟩:=(L.out.A1 E).cells A;obtain⟨-,G,H,rfl,-,-⟩:=id d.dead;have m:=AB wr (.cells #[.int .i64 (f k).id,.string (f k).name,.string (f k).set,.int .i64 (f k).A8,.int .i64 (f k).time,.int .i64 (f k).rs,.int .i64 (f k).rb,.slice G (f k).dn H] 41);have B:=A4 (DX.new wr (.int .i64 (f k).id) (.string (f k).name) (.string (f k).set) (.int .i64 (f k).A8) (.int .i64 (f k).time) (.int .i64 (f k).rs) (.int .i64 (f k).rb) (.slice G (f k).dn H) 41);have x:=A9 E m;have V:=d.c0;have q1:=d.c1;have W:=d.c2;have X:=d.c3;have Y:=d.c4;have Z:=d.c5;have q6:=d.c6;have q7:=d.c7;have t:=A4 (u.out k A);obtain⟨⟨⟨y0,-⟩,⟨y1,-⟩,⟨y2,-⟩,⟨y3,-⟩⟩,⟨y4,-⟩,⟨y5,-⟩,⟨y6,-⟩,⟨y7,-⟩⟩:=B.out;have r:=A4 (p.out.kept (EK m none) (by simp));have Q:=m.size;clear d m;go_wp2_with (first
    | (at_mapUpdate;refine wpList_mapUpdate_own _ rfl _ _ _ 201 rfl 202 2 SJ Zc D7 w.heap.size k _ rfl r.out (by unfold maxLen;omega) _ _ _ rfl rfl t.out _ [] (GW _) ?_;intro w1 s g)
    | go_in)
   go_roundw
   case rel=>exact⟨k+1,by omega,by go_num,s,x.grown g x.size (fun j O=>by cases O;omega),by have:=g.size;omega⟩
   case measure=>simp[intOf];omega
  ·obtain rfl:k=n:=(by omega);have D:=A4 (Qm C.out (fun i=>.int .i64 (f i).id) k);have K:=A4 (ME.iff (f:=f) u.out);go_wp2_with (first
    | (at_len;refine wpList_len_own _ rfl _ 201 rfl 202 2 Zc D7 w.heap.size k _ rfl p.out ?_)
    | go_in)
   go_ret;refine⟨⟨_,rfl,?_⟩,E⟩;have M:=D.out.2;have N:=K.out;simp only[beq_iff_eq,Int.natCast_inj];exact M.trans N
def Ft(f:Nat->Aa):Nat->Aa
 | 0=>DL
 | k+1=>f k
def JR(W:A6)(i:Nat):Prop:=BL W (W.A3 i).set/\BX (W.A3 i).name/\(W.A3 i).A8<(W.A3 i).id/\Mid (Ft W.A3 i).id (W.A3 i).id W.next/\Mid (Ft W.A3 i).time (W.A3 i).time W.time
def ZZ(W:A6):Prop:=W.pn<=20/\(∀i,i<W.pn->JR W i)/\ME W.pn W.A3
theorem Nx(w:World):(zeroValue 46).run Tryz.prog w = .ok (.agg #[.string ⟨#[]⟩,A0 0,A0 0,A0 0,A0 0,A5]) w:=by kernel_rfl
theorem Vl(m:∀i,i<W.sn->∃a n c,vd i = .slice a n c)(x:ByteArray):∃(j:ByteArray) (b d f g:Int) (a:Option Addr) (n c:Nat),(putD (fun i=>DP (W.A2 i).name) (fun i=>Fm (vd i) (W.A2 i)) W.sn).atKey (DP x) (.held (.agg #[.string ⟨#[]⟩,A0 0,A0 0,A0 0,A0 0,A5])) = .held (.agg #[.string j,A0 b,A0 d,A0 f,A0 g,.slice a n c]):=by
 have l:Gv (fun i=>DP (W.A2 i).name):=fun i=>Uk _
 have:∀k,k<=W.sn->∃(j:ByteArray) (b d f g:Int) (a:Option Addr) (n c:Nat),(putD (fun i=>DP (W.A2 i).name) (fun i=>Fm (vd i) (W.A2 i)) k).atKey (DP x) (.held (.agg #[.string ⟨#[]⟩,A0 0,A0 0,A0 0,A0 0,A5])) = .held (.agg #[.string j,A0 b,A0 d,A0 f,A0 g,.slice a n c]):=by
  intro k
  induction k with
  | zero=>exact fun _=>⟨⟨#[]⟩,0,0,0,0,none,0,0,Ql l _ (fun i hi=>absurd hi (Nat.not_lt_zero _)) _⟩
  | succ k ih=>
   intro o;by_cases e:DP (W.A2 k).name=DP x
   ·obtain⟨a,n,c,hv⟩:=m k (by omega);refine⟨(W.A2 k).name,(W.A2 k).origin,(W.A2 k).A8,(W.A2 k).rs,(W.A2 k).rb,a,n,c,?_⟩;rw[<-e];refine(atKey_put_same (Kk l _ k).isMap (l k) _ _).trans ?_;show DataW.held (Fm (vd k) (W.A2 k))=_;rw[hv];rfl
   ·obtain⟨j,b,d,f,g,a,n,c,h⟩:=ih (by omega);exact⟨j,b,d,f,g,a,n,c,(atKey_put_other (Ne.symm e) _ _).trans h⟩
 exact this W.sn (Nat.le_refl _)
theorem U0(x:ByteArray):Maps.has (putD (fun i=>DP (W.A2 i).name) (fun i=>Fm (vd i) (W.A2 i)) W.sn) (DP x)=true↔BL W x:=by
 rw[Lr (fun i=>Uk _)];constructor
 ·rintro⟨i,hi,e⟩;exact⟨i,hi,zF4 e⟩
 ·rintro⟨i,hi,e⟩;exact⟨i,hi,by rw[e]⟩
abbrev put8(w:World)(b:Nat)(u0 u1 u2 u3 u4 u5 u6 u7:Value):World:=(((((((w.setCell ⟨b,0,none⟩ u0).setCell ⟨b,1,none⟩ u1).setCell ⟨b,2,none⟩ u2).setCell ⟨b,3,none⟩ u3).setCell ⟨b,4,none⟩ u4).setCell ⟨b,5,none⟩ u5).setCell ⟨b,6,none⟩ u6).setCell ⟨b,7,none⟩ u7
theorem DX.put{v4 v5 v6 v7:Value}(h:DX w b v0 v1 v2 v3 v4 v5 v6 v7)(a c u2 u3 u4 d e f:Value):DX (put8 w b a c u2 u3 u4 d e f) b a c u2 u3 u4 d e f:=by
 obtain⟨⟨g,i,j,k⟩,l,m,n,o⟩:=h;refine⟨⟨?_,?_,?_,?_⟩,?_,?_,?_,?_⟩
 ·exact(((((((g.set _).other _ (Or.inr (by omega))).other _ (Or.inr (by omega))).other _ (Or.inr (by omega))).other _ (Or.inr (by omega))).other _ (Or.inr (by omega))).other _ (Or.inr (by omega))).other _ (Or.inr (by omega))
 ·exact(((((((i.other _ (Or.inr (by omega))).set _).other _ (Or.inr (by omega))).other _ (Or.inr (by omega))).other _ (Or.inr (by omega))).other _ (Or.inr (by omega))).other _ (Or.inr (by omega))).other _ (Or.inr (by omega))
 ·exact(((((((j.other _ (Or.inr (by omega))).other _ (Or.inr (by omega))).set _).other _ (Or.inr (by omega))).other _ (Or.inr (by omega))).other _ (Or.inr (by omega))).other _ (Or.inr (by omega))).other _ (Or.inr (by omega))
 ·exact(((((((k.other _ (Or.inr (by omega))).other _ (Or.inr (by omega))).other _ (Or.inr (by omega))).set _).other _ (Or.inr (by omega))).other _ (Or.inr (by omega))).other _ (Or.inr (by omega))).other _ (Or.inr (by omega))
 ·exact(((((((l.other _ (Or.inr (by omega))).other _ (Or.inr (by omega))).other _ (Or.inr (by omega))).other _ (Or.inr (by omega))).set _).other _ (Or.inr (by omega))).other _ (Or.inr (by omega))).other _ (Or.inr (by omega))
 ·exact(((((((m.other _ (Or.inr (by omega))).other _ (Or.inr (by omega))).other _ (Or.inr (by omega))).other _ (Or.inr (by omega))).other _ (Or.inr (by omega))).set _).other _ (Or.inr (by omega))).other _ (Or.inr (by omega))
 ·exact(((((((n.other _ (Or.inr (by omega))).other _ (Or.inr (by omega))).other _ (Or.inr (by omega))).other _ (Or.inr (by omega))).other _ (Or.inr (by omega))).other _ (Or.inr (by omega))).set _).other _ (Or.inr (by omega))
 ·exact(((((((o.other _ (Or.inr (by omega))).other _ (Or.inr (by omega))).other _ (Or.inr (by omega))).other _ (Or.inr (by omega))).other _ (Or.inr (by omega))).other _ (Or.inr (by omega))).other _ (Or.inr (by omega))).set _
theorem AC.put8(w:World)(b:Nat)(a c u2 u3 u4 d e f:Value):AC (fun k=>k=b) w (put8 w b a c u2 u3 u4 d e f):=
 (((((((AC.put w b 0 a).trans (AC.put _ b 1 c)).trans (AC.put _ b 2 u2)).trans (AC.put _ b 3 u3)).trans (AC.put _ b 4 u4)).trans (AC.put _ b 5 d)).trans (AC.put _ b 6 e)).trans (AC.put _ b 7 f)
theorem GS.put8(h:GS w W M n vd)(a:M≠b)(c d u2 u3 u4 e f g:Value):GS (Go.Proofs.YtddigaohmfpepaaGreatDoor.put8 w b c d u2 u3 u4 e f g) W M n vd:=
 (((((((World.ownsMap.setCell h a c).setCell a d).setCell a u2).setCell a u3).setCell a u4).setCell a e).setCell a f).setCell a g
theorem zAM{B:Nat}(h:Below B w w')(a:B<=b)(c d u2 u3 u4 e f g:Value):Below B w (put8 w' b c d u2 u3 u4 e f g):=
 (((((((h.setCell a c).setCell a d).setCell a u2).setCell a u3).setCell a u4).setCell a e).setCell a f).setCell a g
theorem zCh(Q v1 R v3:Value)(lo hi:Nat)(W:A6)(w:World)(h:C7 w lo hi Q v1 R v3 W)(hs:W.sn<=8) :
 Calls Tryz.prog 63 #[Cc Q v1 R v3 W] w fun e w'=>AJ (ZZ W) e/\Below w.heap.size w w':=by
 have Hp:=A4 h;obtain⟨m1,a,c,rfl,mc,-⟩:=id h.A3;unfold maxLen at m1;clear h;have ha:=AB w (.cells #[Q,v1,A0 W.time,A0 W.next,R,.slice a W.pn c] 30);have D:=A4 (At.new w Q v1 (A0 W.time) (A0 W.next) R (.slice a W.pn c) 30);obtain⟨S,T,U,V,X,o⟩:=D.out.c;by_cases hn:W.pn<=20;rotate_left
 ·have eB:(20:Int)<(W.pn:Int):=(by omega);go_enter Tryz.func63,Tryz.ntmps63;go_wp2;go_ret;exact⟨AJ.no fun h=>hn h.1,ha⟩
 have eB:¬(20:Int)<(W.pn:Int):=by omega
 go_enter Tryz.func63,Tryz.ntmps63;go_wp2_with fail;clear S T U V X o;generalize w.alloc (.cells #[Q,v1,A0 W.time,A0 W.next,R,.slice a W.pn c] 30)=W0 at ha D ⊢;refine(ZA Q v1 R _ lo hi W W0 (Hp.out.A1 ha) hs).mono ?_;rintro e w1 ⟨vd,rfl,t,nA,P⟩;have kA:∀i,i<W.sn->∃a n c,vd i = .slice a n c:=fun i hi'=>by
  obtain⟨_,aa,cc,hv,_⟩:=nA i hi';exact⟨aa,_,cc,hv⟩
 have O:=A4 (Vl kA);have A:=A4 (U0 (W:=W) (vd:=vd));have y:=AB w1 (.cells #[A0 0,.string ⟨#[]⟩,.string ⟨#[]⟩,A0 0,A0 0,A0 0,A0 0,A5] 41);have J:=A4 ((D.out.A1 P).A1 y);have E:=A4 (DX.new w1 (A0 0) (.string ⟨#[]⟩) (.string ⟨#[]⟩) (A0 0) (A0 0) (A0 0) (A0 0) (A5) 41);have F:=A4 (t.A1 y);have Z:=A4 (A9 (A9 ha P) y);have fA:W0.heap.size+1<w1.heap.size:=t.lt;have bA:=A4 (show w.heap.size<W0.heap.size+1 by have:=D.out.1.lt;omega);clear t nA kA P y ha D;obtain⟨S,T,U,V,X,o⟩:=J.out.c;go_wp2;clear S T U V X o;obtain⟨L,hL⟩:∃L,L=w1.heap.size:=⟨_,rfl⟩;rw[<-hL]at E fA ⊢;obtain⟨M,hM⟩:∃M,M=W0.heap.size+1:=⟨_,rfl⟩;rw[<-hM]at F fA bA ⊢;have aD:w.heap.size<L:=by have:=bA.out;omega
 go_loopw [18] (fun i wr=>∃(k:Nat) (al:Option Addr) (nl cl:Nat),k<=W.pn/\i=A0 k/\(∀j,j<k->JR W j)/\DX wr L (A0 (Ft W.A3 k).id) (.string (Ft W.A3 k).name) (.string (Ft W.A3 k).set) (A0 (Ft W.A3 k).A8) (A0 (Ft W.A3 k).time) (A0 (Ft W.A3 k).rs) (A0 (Ft W.A3 k).rb) (.slice al nl cl)/\At wr w.heap.size Q v1 (A0 W.time) (A0 W.next) R (.slice a W.pn c)/\GS wr W M W.sn vd/\Below w.heap.size w wr) (fun i _=>W.pn - (intOf i).toNat)
 case atStart=>exact⟨0,none,0,0,Nat.zero_le _,rfl,fun j hj=>absurd hj (Nat.not_lt_zero _),E.out,J.out,F.out,Z.out⟩
 case round=>
  clear E J F Z hL hM;obtain⟨k,al,nl,cl,hk,rfl,B,hV,hX,hM,hb⟩:=hrel;have z:=A4 B;have HV:=A4 hV;have HX:=A4 hX;have HM:=A4 hM;clear B hV hX hM;obtain⟨S,T,U,V,X,o⟩:=HX.out.c;by_cases m:k<W.pn
  ·have vB:(k:Int)<(W.pn:Int):=(by omega);obtain⟨b,off,lD,rfl,f⟩:=(Hp.out.A3.A1 hb).cells m;obtain⟨-,ad,cd,rfl,-,-⟩:=id f.dead;obtain⟨s0,i1,i2,i3,i4,sa,sn,sc,iA⟩:=O.out (W.A3 k).set;have N:=A4 iA;have s:=A4 (Pn f.CG.2);have fB:=f.CG.1;clear iA;have bB:wr.heap.size≠L:=(by have:=HV.out.1.1.lt;omega);have q:=AB wr (.cells #[A0 (W.A3 k).id,.string (W.A3 k).name,.string (W.A3 k).set,A0 (W.A3 k).A8,A0 (W.A3 k).time,A0 (W.A3 k).rs,A0 (W.A3 k).rb,.slice ad (W.A3 k).dn cd] 41);have r:=AB (wr.alloc (.cells #[A0 (W.A3 k).id,.string (W.A3 k).name,.string (W.A3 k).set,A0 (W.A3 k).A8,A0 (W.A3 k).time,A0 (W.A3 k).rs,A0 (W.A3 k).rb,.slice ad (W.A3 k).dn cd] 41)) (.cells #[.string s0,A0 i1,A0 i2,A0 i3,A0 i4,.slice sa sn sc] 46);have H:=A4 (DX.new wr (A0 (W.A3 k).id) (.string (W.A3 k).name) (.string (W.A3 k).set) (A0 (W.A3 k).A8) (A0 (W.A3 k).time) (A0 (W.A3 k).rs) (A0 (W.A3 k).rb) (.slice ad (W.A3 k).dn cd) 41);have G:=A4 (HM.out.A1 q);have v:=A4 (H.out.A1 r);have I:=A4 ((HV.out.A1 q).A1 r);have K:=A4 ((HX.out.A1 q).A1 r);have Y:=A4 ((HM.out.A1 q).A1 r);have l:=A9 (A9 hb q) r;have lA:((wr.alloc (.cells #[A0 (W.A3 k).id,.string (W.A3 k).name,.string (W.A3 k).set,A0 (W.A3 k).A8,A0 (W.A3 k).time,A0 (W.A3 k).rs,A0 (W.A3 k).rb,.slice ad (W.A3 k).dn cd] 41)).alloc (.cells #[.string s0,A0 i1,A0 i2,A0 i3,A0 i4,.slice sa sn sc] 46)).heap.size=wr.heap.size+2:=(by rw[World.size_alloc,World.size_alloc]);have q0:=f.c0;have q1:=f.c1;have q2:=f.c2;have q3:=f.c3;have q4:=f.c4;have q5:=f.c5;have q6:=f.c6;have q7:=f.c7;obtain⟨⟨⟨y0,-⟩,⟨y1,-⟩,⟨y2,-⟩,⟨y3,-⟩⟩,⟨y4,-⟩,⟨y5,-⟩,⟨y6,-⟩,⟨y7,-⟩⟩:=H.out;obtain⟨⟨⟨z0,-⟩,⟨z1,-⟩,⟨z2,-⟩,⟨z3,-⟩⟩,⟨z4,-⟩,⟨z5,-⟩,⟨z6,-⟩,⟨z7,-⟩⟩:=v.out;clear f;by_cases g:BL W (W.A3 k).set;rotate_left
   ·have Hc:=A4 (show Maps.has (putD (fun i=>DP (W.A2 i).name) (fun i=>Fm (vd i) (W.A2 i)) W.sn) (DP (W.A3 k).set)=false by rw[Bool.eq_false_iff];exact fun h=>g ((A.out _).1 h));have x:=A4 (show ¬JR W k from fun h=>g h.1);clear g;go_wp2_with (first
     | (at_lookup;refine P4 _ rfl _ _ 149 rfl 9 46 MT L9 (Nx _) M W.sn _ rfl G.out _ _ rfl s.out _ N.out false Hc.out ?_)
     | go_in)
    go_ret;exact⟨AJ.no fun h=>x.out (h.2.1 k m),l⟩
   have aA:=A4 g;have Hc:=A4 ((A.out _).2 g);clear g;go_wp2_with (first
    | (at_lookup;refine P4 _ rfl _ _ 149 rfl 9 46 MT L9 (Nx _) M W.sn _ rfl G.out _ _ rfl s.out _ N.out true Hc.out ?_)
    | fail)
   clear S T U V X o y0 y1 y2 y3 y4 y5 y6 y7 z0 z1 z2 z3 z4 z5 z6 z7 q0 q1 q2 q3 q4 q5 q6 q7 H G HV HX HM hb q r s N Hc;generalize (wr.alloc (.cells #[A0 (W.A3 k).id,.string (W.A3 k).name,.string (W.A3 k).set,A0 (W.A3 k).A8,A0 (W.A3 k).time,A0 (W.A3 k).rs,A0 (W.A3 k).rb,.slice ad (W.A3 k).dn cd] 41)).alloc (.cells #[.string s0,A0 i1,A0 i2,A0 i3,A0 i4,.slice sa sn sc] 46)=W2 at v I K Y l lA ⊢;generalize wr.heap.size=V8 at v bB ⊢;obtain⟨S,T,U,V,X,o⟩:=K.out.c;obtain⟨⟨⟨z0,-⟩,⟨z1,-⟩,⟨z2,-⟩,⟨z3,-⟩⟩,⟨z4,-⟩,⟨z5,-⟩,⟨z6,-⟩,⟨z7,-⟩⟩:=v.out;obtain⟨⟨⟨l0,m0⟩,⟨l1,n1⟩,⟨l2,n2⟩,⟨l3,n3⟩⟩,⟨l4,n4⟩,⟨l5,n5⟩,⟨l6,n6⟩,⟨l7,n7⟩⟩:=I.out;refine(Ra (W.A3 k).name _ fB).mono ?_;rintro e wn ⟨⟨C,rfl,d⟩,rfl⟩;by_cases u:BX (W.A3 k).name;rotate_left
   ·have x:=A4 (show ¬JR W k from fun h=>u h.2.1);obtain rfl:C=false:=BQ d u;clear d u;go_wp2;go_ret;exact⟨AJ.no fun h=>x.out (h.2.1 k m),l⟩
   have HA:=A4 u;obtain rfl:C=true:=d.2 u;clear d u;by_cases hg:(W.A3 k).id<=(W.A3 k).A8
   ·have x:=A4 (show ¬JR W k from fun h=>by have:=h.2.2.1;omega);go_wp2;go_ret;exact⟨AJ.no fun h=>x.out (h.2.1 k m),l⟩
   have Hg:=A4 (show(W.A3 k).A8<(W.A3 k).id by omega);go_wp2_with fail;clear hg;refine(Yg _ _ _ _).mono ?_;rintro e wn ⟨⟨C,rfl,d⟩,rfl⟩;by_cases p:Mid (Ft W.A3 k).id (W.A3 k).id W.next;rotate_left
   ·have x:=A4 (show ¬JR W k from fun h=>p h.2.2.2.1);obtain rfl:C=false:=BQ d p;clear d p;go_wp2;go_ret;exact⟨AJ.no fun h=>x.out (h.2.1 k m),l⟩
   have D:=A4 p;obtain rfl:C=true:=d.2 p;clear d p;go_wp2_with fail;refine(Yg _ _ _ _).mono ?_;rintro e wn ⟨⟨C,rfl,d⟩,rfl⟩;by_cases p:Mid (Ft W.A3 k).time (W.A3 k).time W.time;rotate_left
   ·have x:=A4 (show ¬JR W k from fun h=>p h.2.2.2.2);obtain rfl:C=false:=BQ d p;clear d p;go_wp2;go_ret;exact⟨AJ.no fun h=>x.out (h.2.1 k m),l⟩
   have rA:=A4 p;obtain rfl:C=true:=d.2 p;clear d p;go_wp2;go_roundw
   case rel=>exact⟨k+1,_,_,_,by omega,by go_num,Br m z.out ⟨aA.out,HA.out,Hg.out,D.out,rA.out⟩,I.out.put _ _ _ _ _ _ _ _,K.out.AD (AC.put8 _ L _ _ _ _ _ _ _ _) (by omega),Y.out.put8 (by omega) _ _ _ _ _ _ _ _,zAM l (by omega) _ _ _ _ _ _ _ _⟩
   case measure=>simp[intOf];omega
  ·obtain rfl:k=W.pn:=(by omega);go_wp2_with fail;clear S T U V X o;refine(zCs _ W.pn lo hi W.A3 _ (Hp.out.A3.A1 hb) hn).mono ?_;rintro e w6 ⟨⟨t6,rfl,mA⟩,cB⟩;have Ht:=A4 mA;clear mA;go_wp2;go_ret;exact⟨⟨t6,rfl,Ht.out.trans ⟨fun u=>⟨hn,z.out,u⟩,fun u=>u.2.2⟩⟩,A9 hb cB⟩
def Hj(W:A6):Prop:=∀i,i<W.pn->∀j,j<i->(W.A3 j).id≠(W.A3 i).id
def G3(w:World)(lo hi:Nat)(W:A6)(A:Nat):Prop:=∃M vd,AO w A 0 (.map (some M))/\Jc w W M W.pn vd/\OB w lo hi W.pn W.A3 vd
abbrev KK(A:Nat):Value:=.func (.func 126) #[] #[.pointer (some ⟨A,0,none⟩)]
theorem G3.A1{A:Nat}(h:G3 w lo hi W A)(t:Below w.heap.size w w'):G3 w' lo hi W A:=by
 obtain⟨M,vd,a,b,c⟩:=h;exact⟨M,vd,a.A1 t,b.A1 t,fun i hi'=>(c i hi').A1 t⟩
theorem zEQ(w:World):(zeroValue 41).run Tryz.prog w = .ok (.agg #[A0 0,.string ⟨#[]⟩,.string ⟨#[]⟩,A0 0,A0 0,A0 0,A0 0,A5]) w:=by kernel_rfl
theorem zA5(o:Hj W)(p:OB w lo hi W.pn W.A3 vd)(x:Int):∃a c,(putD (fun i=>Gl (W.A3 i).id) (fun i=>DI (vd i) (W.A3 i)) W.pn).atKey (Gl x) (.held (.agg #[A0 0,.string ⟨#[]⟩,.string ⟨#[]⟩,A0 0,A0 0,A0 0,A0 0,A5])) = .held (DI (.slice a (AI W x).dn c) (AI W x))/\BG w lo hi (.slice a (AI W x).dn c) (AI W x).dn (AI W x).ds (AI W x).db:=by
 have f:Gv (fun i=>Gl (W.A3 i).id):=fun i=>zF3 _
 by_cases d:∃k,BW W x k
 ·obtain⟨k,b⟩:=d;rw[DW b];have g:=p k b.1;obtain⟨_,a,c,hv,_⟩:=id g;refine⟨a,c,?_,by rw[<-hv];exact g⟩;have:=PZ f (fun i=>DI (vd i) (W.A3 i)) (.held (.agg #[A0 0,.string ⟨#[]⟩,.string ⟨#[]⟩,A0 0,A0 0,A0 0,A0 0,A5])) W.pn k b.1 (fun j m n e=>o j n k m (Uj e).symm);rw[b.2.1]at this;rw[this,hv]
 ·have e:AI W x=DL:=(by unfold AI;rw[dif_neg d]);rw[e];refine⟨none,0,?_,⟨Nat.zero_le _,none,0,rfl,Nat.le_refl _,fun h=>absurd h (by simp[DL])⟩⟩;refine Ql f _ (fun i hi' l=>?_) _;exact d (Qs (Nat.le_refl _) ⟨i,hi',Uj l⟩)
theorem Jo(lo hi:Nat)(W:A6)(A:Nat)(x:Int)(w:World)(h:G3 w lo hi W A)(q:Hj W)(o:(Lit.int .i64 x).wf=true)(hn:W.pn<=20) :
 Calls Tryz.prog 126 #[A0 x,.pointer (some ⟨A,0,none⟩)] w fun e w'=>∃a c,e = .returned (DI (.slice a (AI W x).dn c) (AI W x))/\BG w lo hi (.slice a (AI W x).dn c) (AI W x).dn (AI W x).ds (AI W x).db/\Below w.heap.size w w':=by
 obtain⟨M,vd,k,m,l⟩:=h;obtain⟨a,c,i,n⟩:=zA5 q l x;have d:=A4 i;have j:=A4 n;have f:=A4 (Su o);clear i n l o;unfold DI at d ⊢;generalize AI W x=S at *;have b:=AB w (.cells #[A0 0,.string ⟨#[]⟩,.string ⟨#[]⟩,A0 0,A0 0,A0 0,A0 0,A5] 41);have p:=A4 (m.A1 b);obtain⟨D,-⟩:=k.A1 b;have g:=AB w (.cells #[A0 S.id,.string S.name,.string S.set,A0 S.A8,A0 S.time,A0 S.rs,A0 S.rb,.slice a S.dn c] 41);obtain⟨⟨⟨r,-⟩,⟨s,-⟩,⟨t,-⟩,⟨u,-⟩⟩,⟨y,-⟩,⟨z,-⟩,⟨B,-⟩,⟨C,-⟩⟩:=DX.new w (A0 S.id) (.string S.name) (.string S.set) (A0 S.A8) (A0 S.time) (A0 S.rs) (A0 S.rb) (.slice a S.dn c) 41;clear m k b;go_enter Tryz.func126,Tryz.ntmps126;go_wp2_with (first
  | (at_lookup;refine zDD _ rfl _ _ 164 rfl 2 41 yg qN (zEQ _) M W.pn _ rfl p.out _ _ rfl f.out _ d.out ?_)
  | go_in)
 refine bodyPost_ret (v:=.agg #[A0 S.id,.string S.name,.string S.set,A0 S.A8,A0 S.time,A0 S.rs,A0 S.rb,.slice a S.dn c]) (by simp[results,Tryz.results126,go_sem,r,s,t,u,y,z,B,C]) rfl ⟨a,c,rfl,j.out,g⟩
theorem Yd(d v1 f g:Value)(lo hi:Nat)(W:A6)(w:World)(h:C7 w lo hi d v1 f g W)(hn:W.pn<=20)(m:Mo W.pn W.A3) :
 Calls Tryz.prog 65 #[Cc d v1 f g W] w fun e w'=>∃A,e = .returned (KK A)/\G3 w' lo hi W A/\Below w.heap.size w w':=by
 have s:=A4 h;clear h;have t:∀(fn:Fn) (first cap:Array Value) (w:World),(Instr.makeFunc fn first cap).run Tryz.prog w = .ok (.func fn first cap) w:=fun _ _ _ _=>rfl
 have k:=AB w (.cells #[d,v1,A0 W.time,A0 W.next,f,g] 30);obtain⟨u,v,x,y,z,n⟩:=(At.new w d v1 (A0 W.time) (A0 W.next) f g 30).c;go_enter Tryz.func65,Tryz.ntmps65;go_wp2_with fail;clear u v x y z n;generalize w.alloc (.cells #[d,v1,A0 W.time,A0 W.next,f,g] 30)=W0 at k ⊢;refine(zCS d v1 f g lo hi W W0 (s.out.A1 k) hn m).mono ?_;rintro e j ⟨vd,rfl,q,p,b⟩;have a:=AB j (.cells #[.map (some (W0.heap.size+1))] 164);have o:AO (j.alloc (.cells #[.map (some (W0.heap.size+1))] 164)) j.heap.size 0 (.map (some (W0.heap.size+1))):=Az (heap_alloc_new _ _) rfl;have r:=A4 (show G3 (j.alloc (.cells #[.map (some (W0.heap.size+1))] 164)) lo hi W j.heap.size from⟨_,vd,o,q.A1 a,fun i hi'=>((p i hi').A1 b).A1 a⟩);have l:=A9 (A9 k b) a;clear q p b a o;go_wp2;go_ret;exact⟨_,rfl,r.out,l⟩
end Go.Proofs.YtddigaohmfpepaaGreatDoor
