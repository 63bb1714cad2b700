/- A part of the proof. -/
import Derived.WalkKit
import Derived.WalkSpells
import Derived.WalkLawsBesides
import Derived.Laws.CopyRow
import Derived.Laws.AppendOwn
import Derived.Laws.MakeOwn
import Derived.Laws.Slices
set_option linter.unusedVariables false
set_option maxRecDepth 20000
set_option maxHeartbeats 4000000
namespace Go.Proofs.YtddigaohmfpepaaGreatDoor
open Go.RowKit
inductive Fl where | b | z | o
inductive Tr where
 | v (x:Value)
 | s (fl:Fl) (k n:Nat) (f:Nat->Nat->Tr)
inductive Ow where
 | nm (i:Nat)
 | tl (b j:Nat)
inductive Bs where
 | fz (r:Option Nat)
 | ow (o:Ow) (lim:Nat)
def Bs.ok(fl:Fl)(e:Nat):Bs->Prop
 | .fz r=>fl = .b\/∀l,r=some l->e<=l
 | .ow _ lim=>e<=lim
def Sh(w:World)(g:Nat->Bs):Tr->Value->Prop
 | .v x,y=>y=x/\x.oneCell'=true
 | .s fl k n f,y=>∃a c,y = .slice a n c/\n<=c/\(0<n->∃b o,a=some ⟨b,o,none⟩/\b<w.heap.size/\(g b).ok fl (o+n*k)/\
   ∀i j,i<n->j<k->∃u,w.cell? ⟨b,o+(i*k+j),none⟩=some u/\Sh w g (f i j) u)
structure Kp (w:World) (g:Nat->Bs) (w':World) (g':Nat->Bs):Prop where
 os:w'.os=w.os
 tape:w'.tape=w.tape
 output:w'.output=w.output
 size:w.heap.size<=w'.heap.size
 fz:∀b r,g b = .fz r->b<w.heap.size->w'.heap[b]?=w.heap[b]?/\g' b = .fz r
 ow:∀b o lim,g b = .ow o lim->b<w.heap.size->(∀j,j<lim->w'.cell? ⟨b,j,none⟩=w.cell? ⟨b,j,none⟩)/\((∃o' lim',g' b = .ow o' lim'/\lim<=lim')\/g' b = .fz none)
theorem Kp.refl(w:World)(g:Nat->Bs):Kp w g w g:=
 ⟨rfl,rfl,rfl,Nat.le_refl _,fun b r h _=>⟨rfl,h⟩,fun b o a h _=>⟨fun _ _=>rfl,.inl ⟨o,a,h,Nat.le_refl _⟩⟩⟩
variable{w:World}{g:Nat->Bs}
theorem Kp.trans{w1 w2:World}{g1 g2:Nat->Bs}(h:Kp w g w1 g1)(c:Kp w1 g1 w2 g2):Kp w g w2 g2:=by
 refine⟨c.os.trans h.os,c.tape.trans h.tape,c.output.trans h.output,Nat.le_trans h.size c.size,fun b r l i=>?_,fun b o n l i=>?_⟩
 ·obtain⟨e,d⟩:=h.fz b r l i;obtain⟨f,a⟩:=c.fz b r d (Nat.lt_of_lt_of_le i h.size);exact⟨f.trans e,a⟩
 ·obtain⟨e,d⟩:=h.ow b o n l i;have k:=Nat.lt_of_lt_of_le i h.size;rcases d with⟨u,s,d,q⟩ | d
  ·obtain⟨f,a⟩:=c.ow b u s d k;refine⟨fun j m=>(f j (by omega)).trans (e j m),?_⟩;rcases a with⟨v,t,a,p⟩ | a
   ·exact .inl ⟨v,t,a,by omega⟩
   ·exact .inr a
  ·obtain⟨f,a⟩:=c.fz b none d k;refine⟨fun j m=>?_,.inr a⟩;rw[<-e j m];exact World.cell?_of_block (w:=w1) f
theorem Bs.ok_b{s:Bs}{fl:Fl}{e:Nat}(h:s.ok fl e):s.ok .b e:=by
 cases s
 ·exact .inl rfl
 ·exact h
variable{i j:Nat}
theorem Fb{n k:Nat}(hi:i<n)(a:j<k):i*k+j<n*k:=by
 have h:=Nat.mul_le_mul_right k (show i+1<=n from hi);rw[Nat.add_mul,Nat.one_mul]at h;omega
variable{w':World}{g':Nat->Bs}
theorem Sh.kp(h:Kp w g w' g'):∀{T:Tr} {y:Value},Sh w g T y->Sh w' g' T y
 | .v x,y,hs=>hs
 | .s fl k n f,y,hs=>by
  obtain⟨a,c,e,hn,F⟩:=hs;refine⟨a,c,e,hn,fun D=>?_⟩;obtain⟨b,o,E,p,d,m⟩:=F D;refine⟨b,o,E,Nat.lt_of_lt_of_le p h.size,?_,fun i j hi A=>?_⟩
  ·cases hg:g b with
   | fz r=>
    obtain⟨_,l⟩:=h.fz b r hg p;rw[hg]at d;rw[l];exact d
   | ow q lim=>
    obtain⟨_,l⟩:=h.ow b q lim hg p;rw[hg]at d;rcases l with⟨o',l',l,z⟩ | l
    ·rw[l];exact Nat.le_trans d z
    ·rw[l];exact .inr fun _ h=>by cases h
  ·obtain⟨u,C,hs⟩:=m i j hi A;refine⟨u,?_,hs.kp h⟩;cases hg:g b with
   | fz r=>
    obtain⟨t,_⟩:=h.fz b r hg p;rw[<-C];exact World.cell?_of_block (w:=w) t
   | ow q lim=>
    obtain⟨t,_⟩:=h.ow b q lim hg p;rw[hg]at d;have:=Fb hi A;have B:o+n*k<=lim:=d;rw[t _ (by omega)];exact C
variable{y:Value}
theorem Sh.one{T:Tr}(h:Sh w g T y):y.oneCell'=true:=by
 cases T with
 | v x=>exact h.1▸h.2
 | s fl k n f=>obtain⟨a,c,rfl,_⟩:=h;rfl
def Tr.CY:Tr->Tr
 | .v x=>.v x
 | .s _ k n f=>.s .b k n fun i j=>(f i j).CY
theorem Sh.CY(h:∀b fl e,b<w.heap.size->(g b).ok fl e->(g' b).ok .b e):∀{T:Tr} {y:Value},Sh w g T y->Sh w g' T.CY y
 | .v x,y,hs=>hs
 | .s fl k n f,y,hs=>by
  obtain⟨a,c,e,hn,r⟩:=hs;refine⟨a,c,e,hn,fun p=>?_⟩;obtain⟨b,o,q,m,l,d⟩:=r p;refine⟨b,o,q,m,h b _ _ m l,fun i j hi t=>?_⟩;obtain⟨u,z,hs⟩:=d i j hi t;exact⟨u,z,hs.CY h⟩
theorem Kp.alloc(w:World)(g:Nat->Bs)(o:Obj)(s:Bs):Kp w g (w.alloc o) (fun b=>if b=w.heap.size then s else g b):=by
 refine⟨rfl,rfl,rfl,by simp,fun b r a c=>⟨Below.heap_alloc _ _ _ c,?_⟩,fun b q d a c=>⟨fun j _=>?_,.inl ⟨q,d,?_,Nat.le_refl _⟩⟩⟩
 ·rw[if_neg (by omega)];exact a
 ·exact World.cell?_of_block (w:=w) (Below.heap_alloc _ _ _ c)
 ·rw[if_neg (by omega)];exact a
theorem Kp.drew(w:World)(g:Nat->Bs):Kp w g w.drew g:=
 ⟨rfl,rfl,rfl,Nat.le_refl _,fun b r h _=>⟨rfl,h⟩,fun b o a h _=>⟨fun _ _=>rfl,.inl ⟨o,a,h,Nat.le_refl _⟩⟩⟩
theorem Fk(w:World)(g:Nat)(c:Array Value)(k:Nat)(h:k≠g):(w.setRow g c).heap[k]?=w.heap[k]?:=by
 simp only[World.setRow,Array.getElem?_modify];rw[if_neg (by omega)]
theorem Kp.setRow{B:Nat}{o:Ow}(h:g B = .ow o 0)(c:Array Value):Kp w g (w.setRow B c) g:=by
 refine⟨rfl,rfl,rfl,by simp[World.setRow],fun b r a f=>⟨Fk w B c b (fun e=>by rw[e,h]at a;cases a),a⟩,fun b q d a f=>⟨fun j i=>?_,.inl ⟨q,d,a,Nat.le_refl _⟩⟩⟩;by_cases e:b=B
 ·subst e;rw[h]at a;cases a;omega
 ·exact World.cell?_of_block (w:=w) (Fk w B c b e)
inductive Cv where
 | v (x:Value)
 | s (fl:Fl) (k n:Nat) (f:Nat->Nat->Tr)
 | h (i:Nat)
 | p (i o:Nat)
 | e (i k a j:Nat)
 | q (fl:Fl) (k n:Nat) (f:Nat->Nat->Tr) (a j:Nat)
 | hs (i k lo n:Nat)
inductive Ob where
 | var (l:List Cv)
 | row (k n:Nat) (f:Nat->Nat->Tr)
 | dead
 | tl (k n:Nat) (f:Nat->Nat->Tr)
inductive Av where
 | m (g:Bool) (l:List Cv)
 | t (l:List (Bool×List Cv))
structure St where
 tm:List (Nat×Bool×Av)
 ob:List (Nat×Ob)
def get{α : Type}:List (Nat×α)->Nat->Option α
 | [],_=>none
 | (e,x) :: r,d=>if e=d then some x else get r d
def dlO{α : Type}:List (Nat×α)->Nat->List (Nat×α)
 | [],_=>[]
 | (e,x) :: r,d=>if e=d then dlO r d else(e,x) :: dlO r d
theorem Ph{α : Type}(d e:Nat):∀l:List (Nat×α),get (dlO l d) e=if d=e then none else get l e
 | []=>by simp[dlO,get]
 | (c,x) :: r=>by
  simp only[dlO];by_cases h:c=d
  ·rw[if_pos h,Ph d e r];by_cases a:d=e
   ·simp[a]
   ·simp only[if_neg a,get];rw[if_neg (fun b=>a (h.symm.trans b))]
  ·rw[if_neg h];simp only[get];by_cases a:c=e
   ·rw[if_pos a,if_pos a,if_neg (fun b=>h (a.trans b.symm))]
   ·rw[if_neg a,if_neg a,Ph d e r]
def put{α : Type}(l:List (Nat×α))(d:Nat)(x:α):List (Nat×α):=(d,x) :: dlO l d
variable{α:Type}
theorem BD(l:List (Nat×α))(d e:Nat)(x:α):get (put l d x) e=if d=e then some x else get l e:=by
 unfold put;simp only[get];by_cases h:d=e
 ·simp[h]
 ·rw[if_neg h,if_neg h,Ph,if_neg h]
structure En where
 g:Nat->Bs
 bl:Nat->Nat
 hv:Nat->Value
def CvR(w:World)(E:En)(D:Nat->Prop):Cv->Value->Prop
 | .v x,y=>y=x/\x.oneCell'=true
 | .s fl k n f,y=>Sh w E.g (.s fl k n f) y
 | .h i,y=>D i/\y=E.hv i/\y.oneCell'=true
 | .p i o,y=>D i/\y = .pointer (some ⟨E.bl i,o,none⟩)
 | .e i k a j,y=>D i/\y = .pointer (some ⟨E.bl i,a*k+j,none⟩)
 | .q fl k n f a j,y=>a<n/\∃b o,y = .pointer (some ⟨b,o+(a*k+j),none⟩)/\Sh w E.g (.s fl k n f) (.slice (some ⟨b,o,none⟩) n n)
 | .hs i k lo n,y=>D i/\∃a c,y = .slice a n c/\(0<n->a=some ⟨E.bl i,lo*k,none⟩)
variable{E:En}{D:Nat->Prop}
theorem CvR.one{x:Cv}(h:CvR w E D x y):y.oneCell'=true:=by
 cases x with
 | v x=>exact h.1▸h.2
 | s fl k n f=>exact Sh.one h
 | h i=>exact h.2.2
 | p i o=>rw[h.2];rfl
 | e i k a j=>rw[h.2];rfl
 | q fl k n f a j=>obtain⟨_,b,o,rfl,_⟩:=h;rfl
 | hs i k lo n=>obtain⟨_,a,c,rfl,_⟩:=h;rfl
structure AX (D:Nat->Prop) (w:World) (E:En) (w':World) (E':En):Prop where
 kp:Kp w E.g w' E'.g
 bl:∀i,D i->E'.bl i=E.bl i
 hv:∀i,D i->E'.hv i=E.hv i
theorem AX.refl(D:Nat->Prop)(w:World)(E:En):AX D w E w E:=⟨Kp.refl _ _,fun _ _=>rfl,fun _ _=>rfl⟩
variable{D':Nat->Prop}{E':En}
theorem CvR.ext(h:AX D w E w' E')(g:∀i,D i->D' i){x:Cv}(d:CvR w E D x y):CvR w' E' D' x y:=by
 cases x with
 | v x=>exact d
 | s fl k n f=>exact Sh.kp h.kp d
 | h i=>exact⟨g i d.1,by rw[h.hv i d.1];exact d.2.1,d.2.2⟩
 | p i o=>exact⟨g i d.1,by rw[h.bl i d.1];exact d.2⟩
 | e i k a j=>exact⟨g i d.1,by rw[h.bl i d.1];exact d.2⟩
 | q fl k n f a j=>obtain⟨l,b,o,e,hs⟩:=d;exact⟨l,b,o,e,hs.kp h.kp⟩
 | hs i k lo n=>obtain⟨hi,a,c,e,l⟩:=d;exact⟨g i hi,a,c,e,fun m=>by rw[h.bl i hi];exact l m⟩
inductive AR {α β : Type} (R:α->β->Prop):List α->List β->Prop where
 | nil:AR R [] []
 | cons {a:α} {b:β} {l:List α} {m:List β} (h:R a b) (t:AR R l m):AR R (a :: l) (b :: m)
variable{β:Type}
theorem AR.length{R:α->β->Prop}{l:List α}{m:List β}(h:AR R l m):l.length=m.length:=by
 induction h with
 | nil=>rfl
 | cons _ _ ih=>simp[ih]
theorem AR.at{R:α->β->Prop}{l:List α}{m:List β}(h:AR R l m):∀{j:Nat} {x:α},l[j]?=some x->∃y,m[j]?=some y/\R x y:=by
 induction h with
 | nil=>intro j x a;simp at a
 | cons hab _ ih=>
  intro j x a;cases j with
  | zero=>simp at a;exact⟨_,rfl,a▸hab⟩
  | succ j=>simpa using ih (by simpa using a)
theorem AR.drop{R:α->β->Prop}{l:List α}{m:List β}(h:AR R l m):∀n,AR R (l.drop n) (m.drop n):=by
 induction h with
 | nil=>intro n;simpa using .nil
 | cons hab t ih=>
  intro n;cases n with
  | zero=>exact .cons hab t
  | succ n=>exact ih n
theorem AR.take{R:α->β->Prop}{l:List α}{m:List β}(h:AR R l m):∀n,AR R (l.take n) (m.take n):=by
 induction h with
 | nil=>intro n;simpa using .nil
 | cons hab t ih=>
  intro n;cases n with
  | zero=>exact .nil
  | succ n=>exact .cons hab (ih n)
theorem AR.append{R:α->β->Prop}{l:List α}{m:List β}(h:AR R l m){l':List α}{m':List β}(a:AR R l' m'):AR R (l ++ l') (m ++ m'):=by
 induction h with
 | nil=>exact a
 | cons hab t ih=>exact .cons hab ih
theorem AR.of{α β : Type}{R:α->β->Prop}:∀{l:List α} {m:List β},l.length=m.length->(∀(j:Nat) (x:α) (y:β),l[j]?=some x->m[j]?=some y->R x y)->AR R l m
 | [],[],_,_=>.nil
 | a :: l,b :: m,h,hr=>.cons (hr 0 a b rfl rfl) (AR.of (by simpa using h) (fun j x y c d=>hr (j+1) x y (by simpa using c) (by simpa using d)))
 | [],_ :: _,h,_=>by simp at h
 | _ :: _,[],h,_=>by simp at h
def CsR(w:World)(E:En)(D:Nat->Prop)(l:List Cv)(c:List Value):Prop:=AR (CvR w E D) l c
def VlR(w:World)(E:En)(D:Nat->Prop)(g:Bool)(l:List Cv)(y:Value):Prop:=
 match g with
 | true=>∃cs:List Value,y = .agg cs.toArray/\CsR w E D l cs
 | false=>∃x,l = [x]/\CvR w E D x y
def AvR(w:World)(E:En)(D:Nat->Prop):Av->Value->Prop
 | .m g l,y=>VlR w E D g l y
 | .t l,y=>∃vs:List Value,y = .tuple vs.toArray/\AR (fun (q:Bool×List Cv) u=>VlR w E D q.1 q.2 u) l vs
variable{l:List Cv}{c:List Value}
theorem CsR.ext(h:AX D w E w' E')(b:∀i,D i->D' i)(d:CsR w E D l c):CsR w' E' D' l c:=by
 unfold CsR at *
 induction d with
 | nil=>exact .nil
 | cons a _ ih=>exact .cons (a.ext h b) ih
variable{g:Bool}
theorem VlR.ext(h:AX D w E w' E')(b:∀i,D i->D' i)(c:VlR w E D g l y):VlR w' E' D' g l y:=by
 cases g with
 | true=>obtain⟨cs,e,a⟩:=c;exact⟨cs,e,a.ext h b⟩
 | false=>obtain⟨x,e,a⟩:=c;exact⟨x,e,a.ext h b⟩
theorem AvR.ext(h:AX D w E w' E')(b:∀i,D i->D' i){x:Av}(c:AvR w E D x y):AvR w' E' D' x y:=by
 cases x with
 | m g l=>exact VlR.ext h b c
 | t l=>
  obtain⟨vs,e,d⟩:=c;refine⟨vs,e,?_⟩;clear e
  induction d with
  | nil=>exact .nil
  | cons a _ ih=>exact .cons (a.ext h b) ih
theorem VlR.cells(h:VlR w E D g l y):CsR w E D l y.cells.toList:=by
 cases g with
 | true=>obtain⟨cs,rfl,a⟩:=h;simpa[Value.cells]using a
 | false=>
  obtain⟨x,rfl,a⟩:=h;have b:=a.one;have:y.cells=#[y]:=by cases y<;>first | rfl | (simp[Value.oneCell']at b)
  rw[this];exact AR.cons a AR.nil
theorem CsR.one(h:CsR w E D l c):∀u∈c,u.oneCell'=true:=by
 unfold CsR at h
 induction h with
 | nil=>intro u b;cases b
 | cons a _ ih=>
  intro u b;cases b with
  | head=>exact a.one
  | tail _ hm=>exact ih u hm
def CM(w:World)(g:Nat->Bs)(B j:Nat):Tr->Value->Prop
 | .s .o k n f,u=>∃a c,u = .slice a n c/\(0<c->∃b,a=some ⟨b,0,none⟩/\g b = .ow (.tl B j) (n*k)/\∃cs t,w.heap[b]?=some (.cells cs t (0,0))/\cs.size=c*k)
 | _,_=>True
def ObR(w:World)(E:En)(D:Nat->Prop)(i:Nat):Ob->Prop
 | .var l=>E.g (E.bl i) = .ow (.nm i) 0/\∃(c:List Value) (t:TypeId),w.heap[E.bl i]?=some (.cells c.toArray t (0,0))/\CsR w E D l c
 | .row k n f=>∃a cap,E.hv i = .slice a n cap/\n<=cap/\(0<cap->a=some ⟨E.bl i,0,none⟩/\E.g (E.bl i) = .ow (.nm i) 0/\∃(c:List Value) (t:TypeId),w.heap[E.bl i]?=some (.cells c.toArray t (0,0))/\c.length=cap*k/\
   ∀p j,p<n->j<k->∃u,c[p*k+j]?=some u/\Sh w E.g (f p j) u/\CM w E.g (E.bl i) (p*k+j) (f p j) u)
 | .dead=>True
 | .tl k n f=>∃a cap,E.hv i = .slice a n cap/\n<=cap/\(0<cap->a=some ⟨E.bl i,0,none⟩/\E.g (E.bl i) = .ow (.nm i) (n*k)/\∃(c:List Value) (t:TypeId),w.heap[E.bl i]?=some (.cells c.toArray t (0,0))/\c.length=cap*k/\
   ∀p j,p<n->j<k->∃u,c[p*k+j]?=some u/\Sh w E.g (f p j) u)
theorem ObR.ext(h:AX D w E w' E')(U:∀i,D i->D' i)(hi:D i){X:Nat->Prop}
 (G:∀b,b<w.heap.size->¬X b->w'.heap[b]?=w.heap[b]?/\E'.g b=E.g b) (H:∀b q,X b->E.g b≠.ow (.nm i) q) (T:E.g (E.bl i) = .ow (.nm i) 0->∀b j q,X b->E.g b≠.ow (.tl (E.bl i) j) q) {o:Ob} (M:ObR w E D i o):ObR w' E' D' i o:=by
 cases o with
 | dead=>trivial
 | var l=>
  obtain⟨e,c,t,m,B⟩:=M;obtain⟨r,y⟩:=G _ (Array.getElem?_eq_some_iff.1 m).1 (fun x=>H _ _ x e);refine⟨by rw[h.bl i hi,y];exact e,c,t,by rw[h.bl i hi,r];exact m,B.ext h U⟩
 | row k n f=>
  obtain⟨a,cap,hv,hn,B⟩:=M;refine⟨a,cap,by rw[h.hv i hi];exact hv,hn,fun A=>?_⟩;obtain⟨I,e,c,t,m,L,d⟩:=B A;obtain⟨r,y⟩:=G _ (Array.getElem?_eq_some_iff.1 m).1 (fun x=>H _ _ x e);refine⟨by rw[h.bl i hi];exact I,by rw[h.bl i hi,y];exact e,c,t,by rw[h.bl i hi,r];exact m,L,fun p j N K=>?_⟩;obtain⟨u,P,hs,W⟩:=d p j N K;refine⟨u,P,hs.kp h.kp,?_⟩;rw[h.bl i hi];revert W;cases f p j with
  | v x=>exact id
  | s fl k' n' f'=>
   cases fl with
   | b=>exact id
   | z=>exact id
   | o=>
    rintro⟨Q,c',rfl,J⟩;refine⟨Q,c',rfl,fun A=>?_⟩;obtain⟨b,V,F,cs,Y,C,O⟩:=J A;obtain⟨R,S⟩:=G b (Array.getElem?_eq_some_iff.1 C).1 (fun x=>T e _ _ _ x F);exact⟨b,V,by rw[S];exact F,cs,Y,by rw[R];exact C,O⟩
 | tl k n f=>
  obtain⟨a,cap,hv,hn,B⟩:=M;refine⟨a,cap,by rw[h.hv i hi];exact hv,hn,fun A=>?_⟩;obtain⟨I,e,c,t,m,L,d⟩:=B A;obtain⟨r,y⟩:=G _ (Array.getElem?_eq_some_iff.1 m).1 (fun x=>H _ _ x e);exact⟨by rw[h.bl i hi];exact I,by rw[h.bl i hi,y];exact e,c,t,by rw[h.bl i hi,r];exact m,L,fun p j N K=>let ⟨u,P,hs⟩:=d p j N K;⟨u,P,hs.kp h.kp⟩⟩
def dom(ob:List (Nat×Ob))(i:Nat):Prop:=(get ob i).isSome=true
def AU(w:World)(E:En)(ob:List (Nat×Ob)):Prop:=∀i o,get ob i=some o->ObR w E (dom ob) i o
def TmR(w:World)(E:En)(D:Nat->Prop)(tm:List (Nat×Bool×Av))(a:Act):Prop:=
 ∀d c av,get tm d=some (c,av)->(c=true->AvR w E D av (a.tmps.getD d undef))/\(c=false->a.tmps.getD d undef=undef)
structure Gh where
 g:Nat->Bs
 pin:Option Nat
structure FO (w0:World) (g0:Gh) (N:Nat) (S:St) (a:Act) (w:World) (E:En):Prop where
 kp:Kp w0 g0.g w E.g
 tm:TmR w E (dom S.ob) S.tm a
 ob:AU w E S.ob
 df:a.defers = []
 sz:a.tmps.size=N
 b0:∀B,g0.pin=some B->dom S.ob 0/\E.bl 0=B
def Rel(w0:World)(g0:Gh)(N:Nat)(S:St)(a:Act)(w:World):Prop:=∃E,FO w0 g0 N S a w E
variable{a:Act}
theorem zEm{d e:Nat}{v:Value}(b:d<a.tmps.size):(a.put (some d) v).tmps.getD e undef=if d=e then v else a.tmps.getD e undef:=by
 simp only[Act.put,Array.getD_eq_getD_getElem?,Array.getElem?_setIfInBounds];by_cases h:d=e
 ·subst h;simp[b]
 ·simp[h]
variable{ob:List (Nat×Ob)}
theorem BT{o:Ob}(h:dom ob j):dom (put ob i o) j:=by
 unfold dom at *;rw[BD];split
 ·rfl
 ·exact h
variable{ob':List (Nat×Ob)}
theorem FO.next{w0:World}{g0:Gh}{N:Nat}{S:St}(h:FO w0 g0 N S a w E)(l:AX (dom S.ob) w E w' E')(m:∀i,dom S.ob i->dom ob' i)(r:AU w' E' ob')
 {d:Nat} (s:d<N) {c:Bool} {av:Av} (g:c=true->AvR w' E' (dom ob') av y) (k:c=false->y=undef) :
 FO w0 g0 N ⟨put S.tm d (c,av),ob'⟩ (a.put (some d) y) w' E':=by
 refine⟨h.kp.trans l.kp,fun e c' j b=>?_,r,h.df,by simpa[Act.put]using h.sz,fun B p=>let ⟨g,k⟩:=h.b0 B p;⟨m 0 g,(l.bl 0 g).trans k⟩⟩;have hs:=h.sz;rw[zEm (by omega)];rw[BD]at b;by_cases f:d=e
 ·rw[if_pos f]at b ⊢;simp only[Option.some.injEq,Prod.mk.injEq]at b;obtain⟨rfl,rfl⟩:=b;exact⟨g,k⟩
 ·rw[if_neg f]at b ⊢;obtain⟨n,o⟩:=h.tm e c' j b;exact⟨fun q=>(n q).ext l m,o⟩
theorem FO.quiet{w0:World}{g0:Gh}{N:Nat}{S:St}(h:FO w0 g0 N S a w E)(c:AX (dom S.ob) w E w' E')(d:∀i,dom S.ob i->dom ob' i)(k:AU w' E' ob') :
 FO w0 g0 N ⟨S.tm,ob'⟩ a w' E':=
 ⟨h.kp.trans c.kp,fun e c' b f=>⟨fun j=>((h.tm e c' b f).1 j).ext c d,(h.tm e c' b f).2⟩,k,h.df,h.sz,fun B g=>let ⟨h1,h2⟩:=h.b0 B g;⟨d 0 h1,(c.bl 0 h1).trans h2⟩⟩
theorem AU.new(h:AU w E ob)(hi:get ob i=none){o:Obj}{b:Ob}{hv:Value}
 (hn:∀D,(∀j,dom ob j->D j)->AX (dom ob) w E (w.alloc o) ⟨fun b=>if b=w.heap.size then .ow (.nm i) 0 else E.g b,fun j=>if j=i then w.heap.size else E.bl j,fun j=>if j=i then hv else E.hv j⟩->
  ObR (w.alloc o) ⟨fun b=>if b=w.heap.size then .ow (.nm i) 0 else E.g b,fun j=>if j=i then w.heap.size else E.bl j,fun j=>if j=i then hv else E.hv j⟩ D i b) :
 AX (dom ob) w E (w.alloc o) ⟨fun b=>if b=w.heap.size then .ow (.nm i) 0 else E.g b,fun j=>if j=i then w.heap.size else E.bl j,fun j=>if j=i then hv else E.hv j⟩/\
 AU (w.alloc o) ⟨fun b=>if b=w.heap.size then .ow (.nm i) 0 else E.g b,fun j=>if j=i then w.heap.size else E.bl j,fun j=>if j=i then hv else E.hv j⟩ (put ob i b):=by
 have c:∀j,dom ob j->j≠i:=fun j a e=>by unfold dom at a;rw[e,hi]at a;cases a
 have d:AX (dom ob) w E (w.alloc o) ⟨fun b=>if b=w.heap.size then .ow (.nm i) 0 else E.g b,fun j=>if j=i then w.heap.size else E.bl j,fun j=>if j=i then hv else E.hv j⟩:=
  ⟨Kp.alloc _ _ _ _,fun j a=>if_neg (c j a),fun j a=>if_neg (c j a)⟩
 refine⟨d,fun j b' a=>?_⟩;rw[BD]at a;by_cases e:i=j
 ·subst e;rw[if_pos rfl]at a;cases a;exact hn _ (fun j a=>BT a) d
 ·rw[if_neg e]at a;have k:dom ob j:=(by unfold dom;rw[a];rfl);refine ObR.ext d (fun j a=>BT a) k (X:=fun _=>False) (fun b f _=>⟨Below.heap_alloc _ _ _ f,if_neg (by omega)⟩) (fun _ _ x=>x.elim) (fun _ _ _ _ x=>x.elim) (h j b' a)
theorem AU.set(h:AU w E ob)(hi:dom ob i)(l:E.g (E.bl i) = .ow (.nm i) 0){c:Array Value}{b:Ob}
 (hn:AX (dom ob) w E (w.setRow (E.bl i) c) E->ObR (w.setRow (E.bl i) c) E (dom (put ob i b)) i b) :
 AX (dom ob) w E (w.setRow (E.bl i) c) E/\AU (w.setRow (E.bl i) c) E (put ob i b):=by
 have n:AX (dom ob) w E (w.setRow (E.bl i) c) E:=⟨Kp.setRow l c,fun _ _=>rfl,fun _ _=>rfl⟩;refine⟨n,fun j b' d=>?_⟩;rw[BD]at d;by_cases e:i=j
 ·subst e;rw[if_pos rfl]at d;cases d;exact hn n
 ·rw[if_neg e]at d;have p:dom ob j:=(by unfold dom;rw[d];rfl);refine ObR.ext n (fun j d=>BT d) p (X:=fun k=>k=E.bl i) (fun k f m=>⟨Fk _ _ _ _ m,rfl⟩) (fun k o f a=>?_) (fun _ k q o f a=>?_) (h j b' d)
  ·rw[f,l]at a;cases a;exact e rfl
  ·rw[f,l]at a;cases a
structure TyD where
 k:Nat
 g:Bool
 z:List Value
 by':Nat
 fs:List (Nat×Nat)
 el:Nat
def JJ(P:Program):TypeDesc->Bool×List (Nat×Nat)×Nat
 | .struct fs=>(true,fs.toList.map (fun f=>(f.offset,((P.info? f.type).map (·.size)).getD 0)),0)
 | .array _ _=>(true,[],0)
 | .slice e=>(false,[],e)
 | _=>(false,[],0)
def qZ(P:Program)(t:Nat):Bool:=match P.underlying t with
 | some (.struct _)=>true
 | some (.array _ _)=>true
 | _=>false
def yd(P:Program):TypeDesc->Bool
 | .struct fs=>fs.toList.all fun f=>(P.underlying f.type).isSome && qZ P f.type == (((P.info? f.type).map (·.size)).getD 0 != 1)
 | _=>true
def TyD.zv(d:TyD):Value:=if d.g then .agg d.z.toArray else d.z.headD (.bool false)
structure BA (P:Program) (t:Nat) (d:TyD):Prop where
 info:(P.info? t).map (fun i=>(i.size,i.zero,i.bytes))=some (d.k,some d.zv,d.by')
 und:(P.underlying t).map (JJ P)=some (d.g,d.fs,d.el)
 fz:d.fs.all (fun q=>q.2 != 0)=true
 one:d.z.all Value.oneCell'=true
 len:d.z.length=d.k
 gk:d.g=false->d.k=1
 pos:0<d.k
 CG:d.by'<=1024
 fa:(P.underlying t).map (yd P)=some true
section
variable {P : Program} {t : Nat} {d : TyD}
theorem BA.get(h:BA P t d):∃i,P.info? t=some i/\i.size=d.k/\i.zero=some d.zv/\i.bytes=d.by':=by
 have:=h.info;cases hi:P.info? t with
 | none=>rw[hi]at this;cases this
 | some i=>
  rw[hi]at this;simp only[Option.map_some,Option.some.injEq,Prod.mk.injEq]at this;exact⟨i,rfl,this.1,this.2.1,this.2.2⟩
theorem BA.dsc(h:BA P t d):∃u,P.underlying t=some u/\JJ P u=(d.g,d.fs,d.el):=by
 have:=h.und;cases hi:P.underlying t with
 | none=>rw[hi]at this;cases this
 | some i=>
  rw[hi]at this;simp only[Option.map_some,Option.some.injEq]at this;exact⟨i,rfl,this⟩
theorem BA.slice(h:BA P t d)(a:d.el≠0):P.underlying t=some (.slice d.el):=by
 obtain⟨u,b,e⟩:=h.dsc;rw[b];cases u<;>simp only[JJ,Prod.mk.injEq]at e<;>first | (exact absurd e.2.2.symm a) | (rw[e.2.2])
theorem BA.run_size(h:BA P t d)(w:World):(sizeOf t).run P w = .ok d.k w:=by
 obtain⟨i,hi,hs,_⟩:=h.get;simp[sizeOf,typeInfo,hi,hs]
theorem BA.run_agg(h:BA P t d)(w:World):(isAgg t).run P w = .ok d.g w:=by
 obtain⟨u,a,e⟩:=h.dsc;unfold isAgg;rw[Sem.run_bind,run_underlying a];cases u<;>simp only[JJ,Prod.mk.injEq]at e<;>simp[e.1]
theorem BA.run_zero(h:BA P t d)(w:World):(zeroValue t).run P w = .ok d.zv w:=by
 obtain⟨i,hi,_,a,_⟩:=h.get;simp[zeroValue,typeInfo,hi,a]
theorem BA.zcells(h:BA P t d):d.zv.cells=d.z.toArray:=by
 unfold TyD.zv;cases hg:d.g with
 | true=>rfl
 | false=>
  have c:=h.gk hg;have b:=h.len;rw[c]at b;have a:=h.one
  match hz:d.z,b with
  | [x],_=>
   rw[hz]at a;simp only[List.all_cons,List.all_nil,Bool.and_true]at a;cases x<;>first | rfl | (simp[Value.oneCell']at a)
theorem Gc(b o j:Nat):(⟨b,o,none⟩:Addr).add j=⟨b,o+j,none⟩:=by
 unfold Addr.add;split
 ·simp_all
 ·rfl
variable{o:Nat}{cs:List Value}
theorem BA.run_load(h:BA P t d){b:Nat}(a:cs.length=d.k)(c:∀j u,cs[j]?=some u->w.cell? ⟨b,o+j,none⟩=some u) :
 (Instr.loadAt t (.pointer (some ⟨b,o,none⟩))).run P w = .ok (if d.g then .agg cs.toArray else cs.headD (.bool false)) w:=by
 unfold Instr.loadAt loadVar;simp only[Instr.sureAddr,Sem.run_bind,Sem.run_pure,Result.andThen_ok,h.run_agg];cases hg:d.g with
 | true=>
  have:=run_loadCells_list (P:=P) w ⟨b,o,none⟩ cs (fun j v f=>by rw[Gc];exact c j v f);rw[a]at this;simp[h.run_size,this]
 | false=>
  have e:=h.gk hg;rw[e]at a
  match cs,a with
  | [x],_=>
   have:=c 0 x rfl;simp only[Nat.add_zero]at this;simp[load,Sem.run,this]
theorem BA.run_store(h:BA P t d){B:Nat}{T:TypeId}(e:w.heap[B]?=some (.cells c.toArray T (0,0)))(a:y.cells.size=d.k)(f:o+d.k<=c.length)(b:∀u∈y.cells.toList,u.oneCell'=true) :
 (Instr.storeAt t (.pointer (some ⟨B,o,none⟩)) y).run P w = .ok () (w.setRow B (c.take o ++ y.cells.toList ++ c.drop (o+d.k)).toArray):=by
 have:=run_storeCells_at P B o T y.cells.toList 0 c.toArray w e (by simp[a];exact f) b;simp only[Nat.add_zero]at this;unfold Instr.storeAt storeVar;simp only[Instr.sureAddr,Sem.run_bind,Sem.run_pure,Result.andThen_ok,h.run_size,a,ne_eq,not_true_eq_false,if_false];rw[this];simp[a]
variable{q:Nat×Nat}
theorem BA.run_field(h:BA P t d){f:Nat}(g:d.fs[f]?=some q)(w:World)(b o:Nat) :
 (Instr.fieldAt t (.pointer (some ⟨b,o,none⟩)) f).run P w = .ok (.pointer (some ⟨b,o+q.1,none⟩)) w:=by
 obtain⟨u,n,e⟩:=h.dsc;have l:=h.fz;have k:d.fs≠[]:=fun m=>by rw[m]at g;cases g
 cases u<;>simp only[JJ,Prod.mk.injEq]at e<;>first | (exact absurd e.2.1.symm k) | skip
 rename_i p
 rw[<-e.2.1]at g l;simp only[List.getElem?_map,Option.map_eq_some_iff,Array.getElem?_toList]at g;obtain⟨a,j,rfl⟩:=g;have c:(((P.info? a.type).map (·.size)).getD 0 != 0)=true:=by
  rw[List.all_eq_true]at l;exact l (a.offset,((P.info? a.type).map (·.size)).getD 0) (List.mem_map.2 ⟨a,by rw[Array.mem_toList_iff];exact Array.mem_of_getElem? j,rfl⟩)
 cases hi:P.info? a.type with
 | none=>rw[hi]at c;cases c
 | some i=>
  rw[hi]at c;simp only[Option.map_some,Option.getD_some,bne_iff_ne,ne_eq]at c;unfold Instr.fieldAt;rw[Sem.run_bind,run_underlying n];simp[j,Instr.sureAddr,fieldPlace,sizeOf,typeInfo,hi,c,Gc]
theorem BA.run_part(h:BA P t d){f:Nat}(k:d.fs[f]?=some q)(w:World)(z:q.1+q.2<=cs.length) :
 (Instr.field t (.agg cs.toArray) f).run P w = .ok (if q.2=1 then cs.getD q.1 (.bool false)else .agg ((cs.drop q.1).take q.2).toArray) w:=by
 obtain⟨u,v,e⟩:=h.dsc;have r:=h.fz;have c:=h.fa;have p:d.fs≠[]:=fun x=>by rw[x]at k;cases k
 cases u<;>simp only[JJ,Prod.mk.injEq]at e<;>first | (exact absurd e.2.1.symm p) | skip
 rename_i y
 rw[v]at c;rw[<-e.2.1]at k r;simp only[List.getElem?_map,Option.map_eq_some_iff,Array.getElem?_toList]at k;obtain⟨a,l,rfl⟩:=k;have b:a∈y.toList:=by rw[Array.mem_toList_iff];exact Array.mem_of_getElem? l
 have m:(((P.info? a.type).map (·.size)).getD 0 != 0)=true:=by
  rw[List.all_eq_true]at r;exact r (a.offset,((P.info? a.type).map (·.size)).getD 0) (List.mem_map.2 ⟨a,b,rfl⟩)
 simp only[Option.map_some,Option.some.injEq,yd,List.all_eq_true]at c;have g:=c a b;simp only[Bool.and_eq_true,beq_iff_eq]at g;cases hi:P.info? a.type with
 | none=>rw[hi]at m;cases m
 | some i=>
  rw[hi]at m g;simp only[Option.map_some,Option.getD_some,bne_iff_ne,ne_eq]at m g;simp only[hi,Option.map_some,Option.getD_some]at z;cases hun:P.underlying a.type with
  | none=>rw[hun]at g;cases g.1
  | some un=>
   have n:(isAgg a.type).run P w = .ok (i.size != 1) w:=by
    rw[<-g.2];unfold isAgg qZ;rw[Sem.run_bind,run_underlying hun,hun];cases un<;>rfl
   unfold Instr.field;rw[Sem.run_bind,run_underlying v];simp only[Result.andThen_ok,l,Option.map_some,Option.getD_some];have j:(asAgg (.agg cs.toArray)).run P w = .ok cs.toArray w:=rfl;rw[Sem.run_bind,j];simp only[Result.andThen_ok,part,Sem.run_bind,n];by_cases s:i.size=1
   ·have o:a.offset<cs.length:=(by omega);simp[s,o]
   ·simp[s,sizeOf,typeInfo,hi,List.take_drop]
theorem BA.run_index(h:BA P t d)(g:d.el≠0){de:TyD}(a:BA P d.el de){b n c:Nat}{K:IntKind}{ix:Int}(e:0<=ix)(f:ix<n) :
 (Instr.indexAt t (.slice (some ⟨b,o,none⟩) n c) (.int K ix)).run P w = .ok (.pointer (some ⟨b,o+ix.toNat*de.k,none⟩)) w:=by
 unfold Instr.indexAt;simp[asIntOf,run_underlying (h.slice g),e,f,a.run_size,Gc]
theorem BA.run_alloc(h:BA P t d)(w:World):(Instr.alloc t true (.tuple #[])).run P w = .ok (.pointer (some ⟨w.heap.size,0,none⟩)) (w.alloc (.cells d.z.toArray t)):=by
 unfold Instr.alloc;simp[h.run_zero,newVar,newRow,h.zcells]
theorem zFO(t:Nat)(y:Value)(w:World):(Instr.box t y).run P w = .ok (.pointer (some ⟨w.heap.size,0,none⟩)) (w.alloc (.cells y.cells t)):=by
 simp[Instr.box,newVar,newRow]
end
structure Tb where
 ty:Nat->Option TyD
 bt:Nat
 pt:Nat
 sx:Nat
 tk:Nat
 mv:Nat
 by':Nat
 u8:Nat
 ik:Nat->Option IntKind
structure DY (P:Program) (T:Tb):Prop where
 ok:∀t d,T.ty t=some d->BA P t d
 hb:P.underlying T.bt=some .bool
 hs:P.underlying T.sx=some .string
 hp:∀(a b c d:Int) (w:World),(Op.equal T.pt (.agg #[.int .i64 a,.int .i64 b]) (.agg #[.int .i64 c,.int .i64 d])).run P w = .ok (a == c && b == d) w
 hg:P.eqGuardType P.depth T.pt=false
 hby:P.underlying T.by'=some (.slice T.u8)
 hu8:P.underlying T.u8=some (.int .u8)
 hik:∀t k,T.ik t=some k->P.underlying t=some (.int k)
structure Dl where
 c:Prop
 av:Option Av
 ob:List (Nat×Ob)
 nw:Bool
def CA(op:BinOp)(k:IntKind)(a:Int)(k':IntKind)(b:Int):Option (Prop×Value):=
 match op with
 | .shl=>some (0<=b,.int k (k.wrap (a*2 ^ (min b.toNat k.bits))))
 | .shr=>some (0<=b,.int k (a.fdiv (2 ^ (min b.toNat k.bits))))
 | .add=>if k=k' then some (True,.int k (k.wrap (a+b)))else none
 | .sub=>if k=k' then some (True,.int k (k.wrap (a - b)))else none
 | .mul=>if k=k' then some (True,.int k (k.wrap (a*b)))else none
 | .quo=>if k=k' then some (b≠0,.int k (k.wrap (a.tdiv b)))else none
 | .rem=>if k=k' then some (b≠0,.int k (a.tmod b))else none
 | .xor=>if k=k' then some (True,.int k (k.wrap ((BitVec.ofInt k.bits a ^^^ BitVec.ofInt k.bits b).toNat)))else none
 | .eql=>if k=k' then some (True,.bool (a == b))else none
 | .neq=>if k=k' then some (True,.bool (a != b))else none
 | .lss=>if k=k' then some (True,.bool (decide (a<b)))else none
 | .leq=>if k=k' then some (True,.bool (decide (a<=b)))else none
 | .gtr=>if k=k' then some (True,.bool (decide (a>b)))else none
 | .geq=>if k=k' then some (True,.bool (decide (a>=b)))else none
 | _=>none
variable{P:Program}{op:BinOp}{c:Prop}{v:Value}
theorem zGg{k k':IntKind}{a b:Int}(h:CA op k a k' b=some (c,v))(d:c)(t:Nat)(x y:Operand)(w:World) :
 (do eqGuard op t x y (.int k a) (.int k' b);binOp op t (.int k a) (.int k' b):Sem Value).run P w = .ok v w/\v.oneCell'=true:=by
 unfold CA at h;cases op<;>dsimp only at h<;>(try split at h)<;>(try (cases h;done))<;>(simp only[Option.some.injEq,Prod.mk.injEq]at h;obtain⟨rfl,rfl⟩:=h)<;>(try subst_vars)<;>(try (have e:=Int.not_lt.2 d)) <;>
  simp_all[eqGuard,binOp,Op.shift,Op.intArith,Op.intDiv,Op.intBits,Op.intCmp,Value.oneCell']<;>(intro f;omega)
def P7(op:BinOp)(a b:ByteArray):Option (Prop×Value):=
 match op with
 | .add=>some (a.size+b.size<=1000000000,.string (a ++ b))
 | .eql=>some (True,.bool (a.toList == b.toList))
 | .neq=>some (True,.bool (!(a.toList == b.toList)))
 | .lss=>some (True,.bool (Op.bytesLess a.toList b.toList))
 | .geq=>some (True,.bool (!Op.bytesLess a.toList b.toList))
 | _=>none
theorem zGh{a b:ByteArray}(h:P7 op a b=some (c,v))(d:c)(t:Nat)(x y:Operand)(w:World) :
 (do eqGuard op t x y (.string a) (.string b);binOp op t (.string a) (.string b):Sem Value).run P w = .ok v w/\v.oneCell'=true:=by
 unfold P7 at h;cases op<;>dsimp only at h<;>(try (cases h;done))<;>(simp only[Option.some.injEq,Prod.mk.injEq]at h;obtain⟨rfl,rfl⟩:=h) <;>
  simp[eqGuard,binOp,Op.stringOp,Value.oneCell']
 omega
variable{t:Nat}
theorem Y2(h:P.underlying t=some .bool)(a b:Bool)(w:World):(Op.equal t (.bool a) (.bool b)).run P w = .ok (a == b) w:=by
 show(Op.equalIn (9999+1) t (.bool a) (.bool b)).run P w=_;rw[Op.equalIn,Sem.run_bind,run_underlying h];rfl
def bin(T:Tb)(op:BinOp)(t:Nat):Av->Av->Option (Prop×Value)
 | .m false [.v (.int k a)],.m false [.v (.int k' b)]=>CA op k a k' b
 | .m false [.v (.string a)],.m false [.v (.string b)]=>P7 op a b
 | .m false [.v (.bool a)],.m false [.v (.bool b)]=>
  if t=T.bt then match op with
   | .eql=>some (True,.bool (a == b))
   | .neq=>some (True,.bool (!(a == b)))
   | _=>none
  else none
 | .m true [.v (.int .i64 a),.v (.int .i64 b)],.m true [.v (.int .i64 c),.v (.int .i64 d)]=>
  if t=T.pt then match op with
   | .eql=>some (True,.bool (a == c && b == d))
   | .neq=>some (True,.bool (!(a == c && b == d)))
   | _=>none
  else none
 | _,_=>none
variable{x:Cv}
theorem vl1(h:AvR w E D (.m false [x]) y):CvR w E D x y:=by
 obtain⟨a,e,h⟩:=h;cases e;exact h
theorem vl2{a b:Value}(h:AvR w E D (.m true [.v a,.v b]) y):y = .agg #[a,b]:=by
 obtain⟨cs,rfl,h⟩:=h;cases h with
 | cons h1 t=>
  cases t with
  | cons h2 t=>
   cases t;rw[h1.1,h2.1]
theorem zHe{T:Tb}(d:DY P T){p q:Av}(h:bin T op t p q=some (c,v))(i:c){a b:Value}(e:AvR w E D p a)(f:AvR w E D q b)(x y:Operand) :
 (do eqGuard op t x y a b;binOp op t a b:Sem Value).run P w = .ok v w/\v.oneCell'=true:=by
 unfold bin at h;split at h
 ·obtain⟨rfl,-⟩:=vl1 e;obtain⟨rfl,-⟩:=vl1 f;exact zGg h i t x y w
 ·obtain⟨rfl,-⟩:=vl1 e;obtain⟨rfl,-⟩:=vl1 f;exact zGh h i t x y w
 ·obtain⟨rfl,-⟩:=vl1 e;obtain⟨rfl,-⟩:=vl1 f;split at h
  ·rename_i g
   subst g;split at h<;>simp only[Option.some.injEq,Prod.mk.injEq,reduceCtorEq]at h
   ·obtain⟨-,rfl⟩:=h;simp[eqGuard,binOp,Y2 d.hb,Value.oneCell']
   ·obtain⟨-,rfl⟩:=h;simp[eqGuard,binOp,Y2 d.hb,Value.oneCell']
  ·cases h
 ·have j:=vl2 e;have k:=vl2 f;subst j k;split at h
  ·rename_i g
   subst g;split at h<;>simp only[Option.some.injEq,Prod.mk.injEq,reduceCtorEq]at h
   ·obtain⟨-,rfl⟩:=h;simp[eqGuard,binOp,d.hp,d.hg,Value.oneCell']
   ·obtain⟨-,rfl⟩:=h;simp[eqGuard,binOp,d.hp,d.hg,Value.oneCell']
  ·cases h
 ·cases h
def Tr.cv:Tr->Cv
 | .v x=>.v x
 | .s .b k n f=>.s .b k n f
 | .s _ k n f=>.s .z k n f
variable{T:Tr}{u:Value}
theorem Sh.cv(h:Sh w E.g T u):CvR w E D T.cv u:=by
 cases T with
 | v x=>exact h
 | s fl k n f=>
  cases fl with
  | b=>exact h
  | z=>exact h
  | o=>
   obtain⟨a,c,e,hn,p⟩:=h;refine⟨a,c,e,hn,fun j=>?_⟩;obtain⟨b,o,l,m,d,i⟩:=p j;refine⟨b,o,l,m,?_,i⟩;cases hg:E.g b with
   | fz r=>rw[hg]at d;exact .inr (d.resolve_left (by simp))
   | ow q lim=>rw[hg]at d;exact d
variable{d:TyD}{cs:List Value}
theorem VlR.of(h:CsR w E D l cs)(a:cs.length=d.k)(b:d.g=false->d.k=1):VlR w E D d.g l (if d.g then .agg cs.toArray else cs.headD (.bool false)):=by
 cases e:d.g with
 | true=>exact⟨cs,by simp,h⟩
 | false=>
  rw[b e]at a;cases h with
  | nil=>simp at a
  | cons h1 t=>
   cases t with
   | nil=>exact⟨_,rfl,h1⟩
   | cons _ _=>simp at a
theorem Od{w:World}{b o:Nat}{R:Cv->Value->Prop}(l:Nat->Cv):∀(m:Nat),(∀q,q<m->∃u,w.cell? ⟨b,o+q,none⟩=some u/\R (l q) u)->
 ∃cs:List Value,cs.length=m/\(∀j u,cs[j]?=some u->w.cell? ⟨b,o+j,none⟩=some u)/\AR R ((List.range m).map l) cs
 | 0,_=>⟨[],rfl,fun j u h=>by simp at h,.nil⟩
 | m+1,h=>by
  obtain⟨cs,c,f,e⟩:=Od l m (fun q k=>h q (by omega));obtain⟨u,i,g⟩:=h m (by omega);refine⟨cs ++ [u],by simp[c],fun j v a=>?_,?_⟩
  ·rw[List.getElem?_append]at a;split at a
   ·exact f j v a
   ·rename_i hn
    have:j=m:=by
     have d:=(List.getElem?_eq_some_iff.1 a).1;simp at d;omega
    subst this;rw[c]at a;simp at a;rw[<-a];exact i
  ·rw[List.range_succ,List.map_append];exact e.append (.cons g .nil)
def evLoad(d:TyD)(ob:List (Nat×Ob)):Cv->Option (Prop×Av)
 | .p i o=>match get ob i with
  | some (.var l)=>if o+d.k<=l.length then some (True,.m d.g ((l.drop o).take d.k))else none
  | _=>none
 | .e i k a j=>match get ob i with
  | some (.row k' n f)=>if k'=k/\j+d.k<=k then some (a<n,.m d.g ((List.range d.k).map fun c=>(f a (j+c)).cv))else none
  | _=>none
 | .q fl k n f a j=>if j+d.k<=k then some (True,.m d.g ((List.range d.k).map fun c=>(f a (j+c)).cv))else none
 | _=>none
theorem XQ(h:BA P t d)(L:AU w E ob){av:Av}(g:evLoad d ob x=some (c,av))(O:c)(J:CvR w E (dom ob) x y) :
 ∃z,(Instr.loadAt t y).run P w = .ok z w/\AvR w E (dom ob) av z:=by
 cases x with
 | v x=>cases g
 | s fl k n f=>cases g
 | h i=>cases g
 | hs i k lo n=>cases g
 | p i o=>
  simp only[evLoad]at g;split at g
  ·rename_i l hi
   split at g
   ·rename_i r
    simp only[Option.some.injEq,Prod.mk.injEq]at g;obtain⟨rfl,rfl⟩:=g;obtain⟨W,cs,T,H,B⟩:=L i _ hi;obtain⟨-,rfl⟩:=J;have K:=B.length;have A:((cs.drop o).take d.k).length=d.k:=(by simp;omega);refine⟨_,h.run_load A (fun j u C=>?_),VlR.of ((B.drop o).take d.k) A h.gk⟩;rw[cell_of_row w _ _ _ T _ H];rw[List.getElem?_take]at C;split at C
    ·rw[List.getElem?_drop]at C;simpa using C
    ·cases C
   ·cases g
  ·cases g
 | e i k a j=>
  simp only[evLoad]at g;split at g
  ·rename_i U n f hi
   split at g
   ·rename_i r
    simp only[Option.some.injEq,Prod.mk.injEq]at g;obtain⟨rfl,rfl⟩:=g;obtain⟨rfl,r⟩:=r;obtain⟨M,cap,hv,hn,D⟩:=L i _ hi;obtain⟨-,-,cs,T,H,X,m⟩:=D (by omega);obtain⟨-,rfl⟩:=J;obtain⟨vs,A,F,G⟩:=Od (w:=w) (b:=E.bl i) (o:=a*U+j) (R:=CvR w E (dom ob)) (fun c=>(f a (j+c)).cv) d.k (fun q S=>by
     obtain⟨u,I,hs,-⟩:=m a (j+q) O (by omega);refine⟨u,?_,hs.cv⟩;rw[cell_of_row w _ _ _ T _ H];simpa[Nat.add_assoc]using I)
    exact⟨_,h.run_load A F,VlR.of G A h.gk⟩
   ·cases g
  ·cases g
 | q fl k n f a j=>
  simp only[evLoad]at g;split at g
  ·rename_i r
   simp only[Option.some.injEq,Prod.mk.injEq]at g;obtain⟨rfl,rfl⟩:=g;obtain⟨N,b,o,rfl,M,c',e,-,hs⟩:=J;cases e;obtain⟨b',o',e,V,Q,m⟩:=hs (by omega);cases e;obtain⟨vs,A,F,G⟩:=Od (w:=w) (b:=b) (o:=o+(a*k+j)) (R:=CvR w E (dom ob)) (fun c=>(f a (j+c)).cv) d.k (fun q S=>by
    obtain⟨u,I,hs⟩:=m a (j+q) N (by omega);refine⟨u,?_,hs.cv⟩;simpa[Nat.add_assoc]using I)
   exact⟨_,h.run_load A F,VlR.of G A h.gk⟩
  ·cases g
def Cv.tr:Cv->Option Tr
 | .v x=>some (.v x)
 | .s .b k n f=>some (.s .b k n f)
 | .s _ k n f=>some (.s .z k n f)
 | _=>none
theorem Cv.tr_ok(h:x.tr=some T)(a:CvR w E D x u):Sh w E.g T u/\∀B j,CM w E.g B j T u:=by
 cases x with
 | v x=>cases h;exact⟨a,fun _ _=>trivial⟩
 | s fl k n f=>
  cases fl with
  | b=>cases h;exact⟨a,fun _ _=>trivial⟩
  | z=>cases h;exact⟨a,fun _ _=>trivial⟩
  | o=>cases h;exact⟨Sh.cv (D:=D) (T:=.s .o k n f) a,fun _ _=>trivial⟩
 | _=>cases h
def Ae(f:Nat->Nat->Tr)(a j:Nat)(l:List Tr):Nat->Nat->Tr:=fun p q=>if p=a/\j<=q/\q<j+l.length then l.getD (q - j) (.v (.bool false))else f p q
def trs:List Cv->Option (List Tr)
 | []=>some []
 | x :: r=>match x.tr,trs r with
  | some T,some l=>some (T :: l)
  | _,_=>none
theorem PI{w:World}{E:En}{D:Nat->Prop}:∀{l:List Cv} {m:List Tr} {ys:List Value},trs l=some m->CsR w E D l ys->AR (fun T u=>Sh w E.g T u/\∀B j,CM w E.g B j T u) m ys
 | [],m,ys,h,hy=>by cases h;cases hy;exact .nil
 | x :: r,m,ys,h,hy=>by
  simp only[trs]at h;split at h
  ·rename_i T l hT hl
   cases h;cases hy with
   | cons h1 t=>exact .cons (Cv.tr_ok hT h1) (PI hl t)
  ·cases h
def evStore(d:TyD)(ob:List (Nat×Ob))(l:List Cv):Cv->Option (Prop×List (Nat×Ob))
 | .p i o=>match get ob i with
  | some (.var m)=>if o+d.k<=m.length/\l.length=d.k then some (True,put ob i (.var (m.take o ++ l ++ m.drop (o+d.k))))else none
  | _=>none
 | .e i k a j=>match get ob i,trs l with
  | some (.row k' n f),some ts=>if k'=k/\j+d.k<=k/\l.length=d.k then some (a<n,put ob i (.row k n (Ae f a j ts)))else none
  | _,_=>none
 | _=>none
theorem zIQ(c y:List α)(o x:Nat)(h:o+y.length<=c.length):(c.take o ++ y ++ c.drop (o+y.length))[x]?=if o<=x/\x<o+y.length then y[x - o]? else c[x]?:=by
 rw[List.append_assoc,List.getElem?_append,List.getElem?_append];simp only[List.length_take,List.getElem?_take,List.getElem?_drop];have b:min o c.length=o:=by omega
 rw[b];by_cases a:x<o
 ·simp[a,show ¬(o<=x/\x<o+y.length)by omega]
 ·by_cases d:x<o+y.length
  ·simp[a,show x - o<y.length by omega,show o<=x/\x<o+y.length by omega]
  ·simp only[a,if_false,show ¬(x - o<y.length)by omega,show ¬(o<=x/\x<o+y.length)by omega];congr 1;omega
variable{k n:Nat}{f:Nat->Nat->Tr}
theorem Vg(U:AU w E ob)(hi:get ob i=some (.row k n f)){a:Nat}(ha:a<n){ts:List Tr}{us:List Value}(hl:ts.length=us.length)(hj:j+ts.length<=k)(V:0<ts.length)
 (h:∀(x:Nat) T u,ts[x]?=some T->us[x]?=some u->Sh w E.g T u/\CM w E.g (E.bl i) (a*k+j+x) T u) :
 ∃(cs:List Value) (T:TypeId),w.heap[E.bl i]?=some (.cells cs.toArray T (0,0))/\a*k+j+us.length<=cs.length/\AX (dom ob) w E (w.setRow (E.bl i) (cs.take (a*k+j) ++ us ++ cs.drop (a*k+j+us.length)).toArray) E/\
  AU (w.setRow (E.bl i) (cs.take (a*k+j) ++ us ++ cs.drop (a*k+j+us.length)).toArray) E (put ob i (.row k n (Ae f a j ts))):=by
 obtain⟨X,cap,hv,hn,G⟩:=U i _ hi;obtain⟨K,M,cs,T,S,jA,m⟩:=G (by omega);have hd:dom ob i:=by unfold dom;rw[hi];rfl
 have iA:=Fb ha (show j+ts.length - 1<k by omega);have R:=Nat.mul_le_mul_right k hn;have l:a*k+j+us.length<=cs.length:=by omega
 have d:∀(c:Array Value) (B c':Nat) (T:Tr) (u:Value),CM w E.g B c' T u->CM (w.setRow (E.bl i) c) E.g B c' T u:=fun c B c' T u=>by
  cases T with
  | v x=>exact id
  | s fl k2 n2 f2=>
   cases fl with
   | b=>exact id
   | z=>exact id
   | o=>
    rintro⟨Y,Z,rfl,L⟩;refine⟨Y,Z,rfl,fun P=>?_⟩;obtain⟨b,hb,r,I,t2,F,H⟩:=L P;exact⟨b,hb,r,I,t2,by rw[Fk _ _ _ _ (fun e=>by rw[e,M]at r;cases r)];exact F,H⟩
 obtain⟨h1,h2⟩:=U.set hd M (c:=(cs.take (a*k+j) ++ us ++ cs.drop (a*k+j+us.length)).toArray) (b:=.row k n (Ae f a j ts)) (fun W=>by
  refine⟨X,cap,hv,hn,fun P=>⟨K,M,_,T,setRow_heap _ _ _ _ _ _ S,?_,fun p q V hq=>?_⟩⟩
  ·simp;omega
  ·rw[zIQ cs us (a*k+j) (p*k+q) l];by_cases t:p=a/\j<=q/\q<j+ts.length
   ·obtain⟨rfl,h3,h4⟩:=t;rw[if_pos (by omega)];have Q:ts[q - j]?=some ts[q - j]:=List.getElem?_eq_getElem (by omega);have C:us[q - j]?=some us[q - j]:=List.getElem?_eq_getElem (by omega);obtain⟨y,A⟩:=h _ _ _ Q C;have J:Ae f p j ts p q=ts[q - j]:=by
     unfold Ae;rw[if_pos ⟨rfl,h3,h4⟩,List.getD_eq_getElem?_getD,Q];rfl
    rw[J];refine⟨us[q - j],?_,y.kp W.kp,?_⟩
    ·rw[<-C];congr 1;omega
    ·have:=d (cs.take (p*k+j) ++ us ++ cs.drop (p*k+j+us.length)).toArray _ _ _ _ A
     rwa [show p*k+j+(q - j)=p*k+q by omega]at this
   ·have N:¬(a*k+j<=p*k+q/\p*k+q<a*k+j+us.length):=by
     intro mA;apply t;have O:p=a:=by
      rcases Nat.lt_trichotomy p a with D | D | D
      ·have:=Nat.mul_le_mul_right k (show p+1<=a from D);rw[Nat.add_mul,Nat.one_mul]at this;omega
      ·exact D
      ·have:=Nat.mul_le_mul_right k (show a+1<=p from D);rw[Nat.add_mul,Nat.one_mul]at this;omega
     subst O;omega
    rw[if_neg N];obtain⟨u,hu,y,A⟩:=m p q V hq;have J:Ae f a j ts p q=f p q:=(by unfold Ae;rw[if_neg t]);rw[J];exact⟨u,hu,y.kp W.kp,d _ _ _ _ _ A⟩)
 exact⟨cs,T,S,l,h1,h2⟩
theorem Y4(h:BA P t d)(L:AU w E ob)(r:evStore d ob l x=some (c,ob'))(X:c){z:Value}(U:CvR w E (dom ob) x y)(hz:VlR w E (dom ob) g l z) :
 ∃w',(Instr.storeAt t y z).run P w = .ok () w'/\AX (dom ob) w E w' E/\(∀i,dom ob i->dom ob' i)/\AU w' E ob':=by
 have A:=hz.cells;have cA:=A.length;cases x with
 | v x=>cases r
 | s fl k n f=>cases r
 | h i=>cases r
 | hs i k lo n=>cases r
 | q fl k n f a j=>cases r
 | p i o=>
  simp only[evStore]at r;split at r
  ·rename_i m hi
   split at r
   ·rename_i D
    simp only[Option.some.injEq,Prod.mk.injEq]at r;obtain⟨rfl,rfl⟩:=r;obtain⟨Q,cs,T,J,C⟩:=L i _ hi;obtain⟨-,rfl⟩:=U;have R:=C.length;have Y:dom ob i:=(by unfold dom;rw[hi];rfl);have hs:z.cells.size=d.k:=(by rw[<-Array.length_toList];omega);refine⟨_,h.run_store J hs (by omega) A.one,?_⟩;obtain⟨H,I⟩:=L.set Y Q (c:=(cs.take o ++ z.cells.toList ++ cs.drop (o+d.k)).toArray) (b:=.var (m.take o ++ l ++ m.drop (o+d.k))) (fun N=>⟨Q,_,T,setRow_heap _ _ _ _ _ _ J,CsR.ext N (fun j F=>BT F) (AR.append (AR.append (AR.take C o) A) (AR.drop C (o+d.k)))⟩);exact⟨H,fun j F=>BT F,I⟩
   ·cases r
  ·cases r
 | e i k a j=>
  simp only[evStore]at r;split at r
  ·rename_i k' n f ts hi hts
   split at r
   ·rename_i D
    simp only[Option.some.injEq,Prod.mk.injEq]at r;obtain⟨rfl,rfl⟩:=r;obtain⟨rfl,D,Z⟩:=D;obtain⟨-,rfl⟩:=U;have hs:z.cells.size=d.k:=(by rw[<-Array.length_toList];omega);have O:=PI hts A;have K:=O.length;have M:z.cells.toList.length=d.k:=(by simpa using hs);have S:=h.pos;obtain⟨cs,T,J,B,H,I⟩:=Vg L hi X (ts:=ts) (us:=z.cells.toList) (j:=j) K (by omega) (by omega) (fun x T u N hu=>by
     obtain⟨u',G,V,W⟩:=O.at N;rw[hu]at G;cases G;exact⟨V,W _ _⟩)
    rw[M]at B H I;exact⟨_,h.run_store J hs B A.one,H,fun j F=>BT F,I⟩
   ·cases r
  ·cases r
def rowE(ob:List (Nat×Ob))(r:Nat):Option (Nat×Nat×(Nat->Nat->Tr)):=
 match get ob r with
 | some (.row k n f)=>some (k,n,f)
 | some (.tl k n f)=>some (k,n,f)
 | _=>none
variable{r:Nat}
theorem Kc(x:AU w E ob)(b:rowE ob r=some (k,n,f)):dom ob r/\∃a cap,E.hv r = .slice a n cap/\n<=cap/\(0<cap->a=some ⟨E.bl r,0,none⟩/\(∃d,E.g (E.bl r) = .ow (.nm r) d/\d<=n*k)/\∃(c:List Value) (t:TypeId),w.heap[E.bl r]?=some (.cells c.toArray t (0,0))/\c.length=cap*k/\
 ∀p j,p<n->j<k->∃u,c[p*k+j]?=some u/\Sh w E.g (f p j) u):=by
 unfold rowE at b;split at b
 ·rename_i A n' f' hi
  cases b;obtain⟨a,cap,q,s,v⟩:=x _ _ hi;refine⟨by unfold dom;rw[hi];rfl,a,cap,q,s,fun o=>?_⟩;obtain⟨e,h,c,t,i,l,m⟩:=v o;exact⟨e,⟨0,h,Nat.zero_le _⟩,c,t,i,l,fun p j z y=>let ⟨u,hu,hs,_⟩:=m p j z y;⟨u,hu,hs⟩⟩
 ·rename_i A n' f' hi
  cases b;obtain⟨a,cap,q,s,v⟩:=x _ _ hi;refine⟨by unfold dom;rw[hi];rfl,a,cap,q,s,fun o=>?_⟩;obtain⟨e,h,c,t,i,l,m⟩:=v o;exact⟨e,⟨_,h,Nat.le_refl _⟩,c,t,i,l,m⟩
 ·cases b
theorem qM(G:AU w E ob)(O:rowE ob r=some (k,n,f)){s:Bs}(hs:s = .fz none\/∃o,s = .ow o (n*k)) :
 ∃m,m.bl=E.bl/\m.hv=E.hv/\(∀b,b≠E.bl r->m.g b=E.g b)/\AX (dom ob) w E w m/\AU w m (put ob r .dead)/\Sh w m.g (.s .z k n f) (E.hv r)/\(∀B c,s = .ow (.tl B c) (n*k)->CM w m.g B c (.s .o k n f) (E.hv r))/\
  ∀a cap,E.hv r = .slice a n cap->0<cap->m.g (E.bl r)=s:=by
 obtain⟨S,a,cap,hv,hn,L⟩:=Kc G O;rcases Nat.eq_zero_or_pos cap with e0 | e0
 ·refine⟨E,rfl,rfl,fun _ _=>rfl,AX.refl _ _ _,fun j o d=>?_,⟨a,cap,hv,hn,fun C=>by omega⟩,fun B c e=>⟨a,cap,hv,fun C=>by omega⟩,fun R c' e C=>?_⟩
  ·rw[BD]at d;by_cases e:r=j
   ·rw[if_pos e]at d;cases d;trivial
   ·rw[if_neg e]at d;exact ObR.ext (AX.refl _ _ _) (fun j d=>BT d) (by unfold dom;rw[d];rfl) (X:=fun _=>False) (fun _ _ _=>⟨rfl,rfl⟩) (fun _ _ x=>x.elim) (fun _ _ _ _ x=>x.elim) (G j o d)
  ·rw[hv]at e;cases e;omega
 ·obtain⟨I,⟨Q,A,y⟩,c,t,D,M,v⟩:=L e0;have J:Kp w E.g w (fun b=>if b=E.bl r then s else E.g b):=by
   refine⟨rfl,rfl,rfl,Nat.le_refl _,fun b q h _=>⟨rfl,?_⟩,fun b o l h _=>⟨fun _ _=>rfl,?_⟩⟩
   ·have F:b≠E.bl r:=fun e=>by rw[e,A]at h;cases h
    rw[if_neg F];exact h
   ·by_cases e:b=E.bl r
    ·rcases hs with rfl | ⟨o',rfl⟩
     ·exact .inr (if_pos e)
     ·refine .inl ⟨o',_,if_pos e,?_⟩;rw[e,A]at h;cases h;exact y
    ·exact .inl ⟨o,l,by rw[if_neg e];exact h,Nat.le_refl _⟩
  have K:AX (dom ob) w E w ⟨fun b=>if b=E.bl r then s else E.g b,E.bl,E.hv⟩:=⟨J,fun _ _=>rfl,fun _ _=>rfl⟩;refine⟨⟨fun b=>if b=E.bl r then s else E.g b,E.bl,E.hv⟩,rfl,rfl,fun b h=>if_neg h,K,fun j o d=>?_,⟨a,cap,hv,hn,fun C=>⟨E.bl r,0,I,(Array.getElem?_eq_some_iff.1 D).1,?_,fun p j N d=>?_⟩⟩,fun B c' e=>⟨a,cap,hv,fun _=>⟨E.bl r,I,by simpa using e,_,t,D,by simpa using M⟩⟩,fun _ _ _ _=>if_pos rfl⟩
  ·rw[BD]at d;by_cases e:r=j
   ·rw[if_pos e]at d;cases d;trivial
   ·rw[if_neg e]at d;refine ObR.ext K (fun j d=>BT d) (by unfold dom;rw[d];rfl) (X:=fun b=>b=E.bl r) (fun b _ h=>⟨rfl,if_neg h⟩) (fun b l h i=>?_) (fun _ b T l h i=>?_) (G j o d)
    ·rw[h,A]at i;cases i;exact e rfl
    ·rw[h,A]at i;cases i
  ·rcases hs with rfl | ⟨o',rfl⟩
   ·simp[Bs.ok]
   ·simp[Bs.ok]
  ·obtain⟨u,P,H⟩:=v p j N d;refine⟨u,?_,H.kp J⟩;rw[Nat.zero_add];simp[World.cell?,D,P]
def evStoreH(d:TyD)(ob:List (Nat×Ob))(r:Nat):Cv->Option (Prop×List (Nat×Ob))
 | .e i k a j=>match get ob i,rowE ob r with
  | some (.row k' n f),some (kk,m,h)=>if k'=k/\j+1<=k/\d.k=1/\r≠i then some (a<n,put (put ob r .dead) i (.row k n (Ae f a j [.s .o kk m h])))else none
  | _,_=>none
 | _=>none
theorem zBd(h:BA P t d)(ho:AU w E ob)(C:evStoreH d ob r x=some (c,ob'))(hc:c){z:Value}(hy:CvR w E (dom ob) x y)(hz:VlR w E (dom ob) g [.h r] z) :
 ∃w' W,(Instr.storeAt t y z).run P w = .ok () w'/\AX (dom ob) w E w' W/\(∀i,dom ob i->dom ob' i)/\AU w' W ob':=by
 have B:=hz.cells;have S:=B.length;cases x with
 | e i k a j=>
  simp only[evStoreH]at C;split at C
  ·rename_i k' n f kk m h' hi hr
   split at C
   ·rename_i G
    simp only[Option.some.injEq,Prod.mk.injEq]at C;obtain⟨rfl,rfl⟩:=C;obtain⟨rfl,G,A,N⟩:=G;obtain⟨-,rfl⟩:=hy;obtain⟨X,Y,e2,e3,V,o1,s1,t1,-⟩:=qM ho hr (s:=.ow (.tl (E.bl i) (a*k'+j)) (m*kk)) (.inr ⟨_,rfl⟩);have L:get (put ob r .dead) i=some (.row k' n f):=(by rw[BD,if_neg N];exact hi);have hs:z.cells.size=d.k:=(by rw[<-Array.length_toList,<-S,A];rfl);have p:z.cells.toList.length=d.k:=(by simpa using hs);obtain⟨cs,T,Z,D,H,J⟩:=Vg o1 L hc (ts:=[.s .o kk m h']) (us:=z.cells.toList) (j:=j) (A.symm.trans p.symm) (by simpa using G) (by simp) (fun x T u Q O=>by
     have R:x=0:=by
      have:=(List.getElem?_eq_some_iff.1 Q).1;simp at this;exact this
     subst R;simp at Q;subst Q;have U:z.cells.toList = [u]:=by
      match hzz:z.cells.toList,p with
      | [v],_=>rw[hzz]at O;simp at O;rw[O]
      | [],p=>rw[A]at p;cases p
      | _ :: _ :: _,p=>rw[A]at p;simp at p
     rw[U]at B;cases B with
     | cons h3 _=>
      rw[h3.2.1];refine⟨?_,?_⟩
      ·have:=s1;obtain⟨a1,c1,I,M,K⟩:=this;exact⟨a1,c1,I,M,fun h0=>by
        obtain⟨b,o,g1,g2,g3,g4⟩:=K h0;refine⟨b,o,g1,g2,?_,g4⟩;revert g3;cases X.g b with
        | fz r=>rintro(h | h);exact absurd h (by simp);exact .inr h
        | ow q l=>exact id⟩
      ·have:=t1 _ _ rfl;rw[Y];simpa using this)
    rw[p]at D H J;rw[Y]at Z H J;refine⟨_,X,h.run_store Z hs D B.one,⟨V.kp.trans H.kp,fun j F=>(H.bl j (BT F)).trans (V.bl j F),fun j F=>(H.hv j (BT F)).trans (V.hv j F)⟩,fun j F=>BT (BT F),J⟩
   ·cases C
  ·cases C
 | _=>cases C
section
variable {P : Program} {t : Nat} {d : TyD}
theorem OF(w:World)(o:Obj):(w.alloc o).heap[w.heap.size]?=some o:=by
 show(w.heap.push o)[w.heap.size]?=_;simp
theorem TN(g:AU w E ob)(hi:get ob i=none)(f:CsR w E (dom ob) l cs)(T:TypeId) :
 ∃a,AX (dom ob) w E (w.alloc (.cells cs.toArray T)) a/\AU (w.alloc (.cells cs.toArray T)) a (put ob i (.var l))/\AvR (w.alloc (.cells cs.toArray T)) a (dom (put ob i (.var l))) (.m false [.p i 0]) (.pointer (some ⟨w.heap.size,0,none⟩)):=by
 obtain⟨c,d⟩:=g.new hi (o:=.cells cs.toArray T) (b:=.var l) (hv:=.bool false) (fun D e h=>⟨by simp,cs,T,by simpa using OF w _,f.ext h e⟩);exact⟨_,c,d,.p i 0,rfl,by unfold dom;rw[BD,if_pos rfl];rfl,by simp⟩
def evAlloc(d:TyD)(ob:List (Nat×Ob))(i:Nat):Option (List (Nat×Ob)):=
 match get ob i with
 | none=>some (put ob i (.var (d.z.map .v)))
 | some _=>none
theorem O8{w:World}{E:En}{D:Nat->Prop}:∀(z:List Value),z.all Value.oneCell'=true->CsR w E D (z.map .v) z
 | [],_=>.nil
 | x :: r,h=>by
  simp only[List.all_cons,Bool.and_eq_true]at h;exact AR.cons ⟨rfl,h.1⟩ (O8 r h.2)
theorem zAQ(h:BA P t d)(k:AU w E ob)(b:evAlloc d ob i=some ob') :
 ∃z w' a,(Instr.alloc t true (.tuple #[])).run P w = .ok z w'/\AX (dom ob) w E w' a/\(∀j,dom ob j->dom ob' j)/\AU w' a ob'/\AvR w' a (dom ob') (.m false [.p i 0]) z:=by
 unfold evAlloc at b;split at b
 ·rename_i hi
  cases b;obtain⟨a,c,e,f⟩:=TN k hi (O8 (w:=w) (E:=E) (D:=dom ob) d.z h.one) t;exact⟨_,_,a,h.run_alloc w,c,fun j g=>BT g,e,f⟩
 ·cases b
def KB(ob:List (Nat×Ob))(i:Nat)(l:List Cv):Option (List (Nat×Ob)):=
 match get ob i with
 | none=>some (put ob i (.var l))
 | some _=>none
theorem zEh(h:AU w E ob)(b:KB ob i l=some ob')(k:VlR w E (dom ob) g l y) :
 ∃z w' a,(Instr.box t y).run P w = .ok z w'/\AX (dom ob) w E w' a/\(∀j,dom ob j->dom ob' j)/\AU w' a ob'/\AvR w' a (dom ob') (.m false [.p i 0]) z:=by
 unfold KB at b;split at b
 ·rename_i hi
  cases b;obtain⟨a,c,d,e⟩:=TN h hi k.cells t;simp only[Array.toArray_toList]at c d e;exact⟨_,_,a,zFO t y w,c,fun j f=>BT f,d,e⟩
 ·cases b
variable{cap:Nat}
theorem V1(C:AU w E ob)(hi:get ob i=none)(hn:n<=cap)(A:cs.length=cap*k)
 (y:∀p j,p<n->j<k->∃u,cs[p*k+j]?=some u/\Sh w E.g (f p j) u/\∀B o,CM w E.g B o (f p j) u) (F:∀p j,p<n->j<k->∀c d f',f p j≠.s .o c d f') (T:TypeId) :
 ∃a,AX (dom ob) w E (w.alloc (.cells cs.toArray T)) a/\AU (w.alloc (.cells cs.toArray T)) a (put ob i (.row k n f))/\AvR (w.alloc (.cells cs.toArray T)) a (dom (put ob i (.row k n f))) (.m false [.h i]) (.slice (some ⟨w.heap.size,0,none⟩) n cap)/\∀b,b<w.heap.size->(w.alloc (.cells cs.toArray T)).heap[b]?=w.heap[b]?/\a.g b=E.g b:=by
 obtain⟨q,r⟩:=C.new hi (o:=.cells cs.toArray T) (b:=.row k n f) (hv:=.slice (some ⟨w.heap.size,0,none⟩) n cap) (fun D J H=>by
  refine⟨some ⟨w.heap.size,0,none⟩,cap,by simp,hn,fun I=>⟨by simp,by simp,cs,T,by simpa using OF w _,A,fun p j l e=>?_⟩⟩;obtain⟨u,G,hs,_⟩:=y p j l e;refine⟨u,G,hs.kp H.kp,?_⟩;have:=F p j l e;revert this;cases f p j with
  | v x=>exact fun _=>trivial
  | s fl c d f'=>
   cases fl with
   | b=>exact fun _=>trivial
   | z=>exact fun _=>trivial
   | o=>exact fun h=>absurd rfl (h c d f'))
 exact⟨_,q,r,⟨.h i,rfl,by unfold dom;rw[BD,if_pos rfl];rfl,by simp,rfl⟩,fun b t=>⟨Below.heap_alloc _ _ _ t,if_neg (by omega)⟩⟩
theorem TM(q:AU w E ob)(hi:get ob i=none)(hn:n<=cap)(l:cs.length=cap*k)
 (e:∀p j,p<n->j<k->∃u,cs[p*k+j]?=some u/\Sh w E.g (f p j) u/\∀B o,CM w E.g B o (f p j) u) (r:∀p j,p<n->j<k->∀t v f',f p j≠.s .o t v f') (T:TypeId) :
 ∃a,AX (dom ob) w E (w.alloc (.cells cs.toArray T)) a/\AU (w.alloc (.cells cs.toArray T)) a (put ob i (.row k n f))/\AvR (w.alloc (.cells cs.toArray T)) a (dom (put ob i (.row k n f))) (.m false [.h i]) (.slice (some ⟨w.heap.size,0,none⟩) n cap):=by
 obtain⟨a,b,c,d,-⟩:=V1 q hi hn l e r T;exact⟨a,b,c,d⟩
theorem UY:∀(l:List Value) (i off:Nat) (c:Array Value),off+i+l.length<=c.size->
 (l.zipIdx i).foldl (fun cs q=>cs.setIfInBounds (off+q.2) q.1) c=(c.toList.take (off+i) ++ l ++ c.toList.drop (off+i+l.length)).toArray
 | [],i,off,c,_=>by simp
 | x :: r,i,off,c,h=>by
  simp only[List.zipIdx_cons,List.foldl_cons];simp only[List.length_cons]at h;rw[UY r (i+1) off (c.setIfInBounds (off+i) x) (by simp;omega)];congr 1;have e:=list_seg_step c.toList (off+i) x r (by simp;omega);simpa[Array.toList_setIfInBounds,Nat.add_assoc]using e
def fillC(C9:Nat->Option (Nat×Nat))(c:List Cv):List (Nat×List Cv)->Option (List Cv)
 | []=>some c
 | (f,l) :: r=>match C9 f with
  | some q=>if l.length=q.2/\q.1+q.2<=c.length then fillC C9 (c.take q.1 ++ l ++ c.drop (q.1+q.2)) r else none
  | none=>none
theorem QO{w:World}{E:En}{D:Nat->Prop}{C9:Nat->Option (Nat×Nat)}:∀{ps:List (Nat×List Cv)} {vs:List (Nat×Value)} {c c':List Cv} {cs:List Value},AR (fun (p:Nat×List Cv) (q:Nat×Value)=>p.1=q.1/\CsR w E D p.2 q.2.cells.toList) ps vs->CsR w E D c cs->fillC C9 c ps=some c'->
 ∃a,Instr.fill C9 cs.toArray vs=some a.toArray/\CsR w E D c' a
 | [],vs,c,c',cs,hp,hc,h=>by cases hp;cases h;exact⟨cs,rfl,hc⟩
 | (f,l) :: r,vs,c,c',cs,hp,hc,h=>by
  cases hp with
  | @cons _ q _ m h1 t1=>
   obtain⟨i,v⟩:=q;obtain⟨rfl,g⟩:=h1;replace g:CsR w E D l v.cells.toList:=g;simp only[fillC]at h;split at h
   ·rename_i q hq
    split at h
    ·rename_i n
     have j:=g.length;have k:=hc.length;have b:v.cells.size=q.2:=(by rw[<-Array.length_toList];omega);obtain⟨a,e,d⟩:=QO (cs:=cs.take q.1 ++ v.cells.toList ++ cs.drop (q.1+q.2)) t1 (AR.append (AR.append (AR.take hc q.1) g) (AR.drop hc (q.1+q.2))) h;refine⟨a,?_,d⟩;rw[<-e];simp only[Instr.fill,hq];rw[if_neg (by simp[b];omega)];congr 1;have:=UY v.cells.toList 0 q.1 cs.toArray (by simp[b];omega);simp only[Nat.add_zero,Array.length_toList,b]at this;rw[<-Array.foldl_toList,Array.toList_zipIdx];simpa using this
    ·cases h
   ·cases h
theorem BA.places(h:BA P t d):∀(a:List Field),(a.map (fun f=>(f.offset,((P.info? f.type).map (·.size)).getD 0))).all (fun q=>q.2 != 0)=true->
 a.mapM (fun f=>(P.info? f.type).map fun i=>(f.offset,i.size))=some (a.map (fun f=>(f.offset,((P.info? f.type).map (·.size)).getD 0)))
 | [],_=>rfl
 | f :: r,hz=>by
  simp only[List.map_cons,List.all_cons,Bool.and_eq_true,bne_iff_ne,ne_eq]at hz;have b:=h.places r hz.2;cases hi:P.info? f.type with
  | none=>rw[hi]at hz;exact absurd rfl hz.1
  | some i=>simp[List.mapM_cons,hi,b]
variable{ps:List (Nat×List Cv)}{vs:List (Nat×Value)}
theorem zAR(h:BA P t d)(l:d.fs≠[]){c:List Cv}(n:AR (fun (p:Nat×List Cv) (q:Nat×Value)=>p.1=q.1/\CsR w E (dom ob) p.2 q.2.cells.toList) ps vs)
 (k:fillC (fun f=>d.fs[f]?) (d.z.map .v) ps=some c):∃z,(Instr.build t vs.toArray).run P w = .ok z w/\AvR w E (dom ob) (.m true c) z:=by
 obtain⟨cs,b,j⟩:=QO n (O8 (w:=w) (E:=E) (D:=dom ob) d.z h.one) k;refine⟨.agg cs.toArray,run_build w t _ _ ?_,cs,rfl,j⟩;obtain⟨i,hi,_,r,_⟩:=h.get;obtain⟨u,o,e⟩:=h.dsc;have a:=h.fz;unfold Program.built;rw[hi,o];cases u<;>simp only[JJ,Prod.mk.injEq]at e<;>first | (exact absurd e.2.1.symm l) | skip
 rename_i g
 rw[<-e.2.1]at a b;dsimp only;rw[r];simp only[h.places g.toList a,h.zcells];simpa using b
end
def zc(d:TyD)(n:Nat):List Cv:=(List.range (n*d.k)).map (fun q=>.v (d.z.getD (q % d.k) (.bool false)))
section
variable {P : Program} {t : Nat} {d de : TyD}
theorem BA.zget(h:BA P t d)(q:Nat):d.z.toArray[q % d.z.toArray.size]! = d.z.getD (q % d.k) (.bool false)/\(d.z.getD (q % d.k) (.bool false)).oneCell'=true:=by
 have f:=h.pos;have e:=h.len;have g:=Nat.mod_lt q f;have b:d.z.toArray.size=d.k:=by simpa using e
 rw[b];have c:d.z.toArray[q % d.k]! = d.z[q % d.k]:=by rw[getElem!_pos d.z.toArray (q % d.k) (by omega)];simp
 have a:d.z.getD (q % d.k) (.bool false)=d.z[q % d.k]:=by rw[List.getD_eq_getElem?_getD,List.getElem?_eq_getElem (by omega)];rfl
 refine⟨c.trans a.symm,?_⟩;rw[a];exact List.all_eq_true.1 h.one _ (List.getElem_mem _)
theorem BA.zcs(h:BA P t d)(m:Nat):CsR w E D ((List.range m).map (fun q=>.v (d.z.getD (q % d.k) (.bool false)))) ((List.range m).map (fun q=>d.z.toArray[q % d.z.toArray.size]!)):=by
 refine AR.of (by simp) (fun j x y b c=>?_);simp only[List.getElem?_map,Option.map_eq_some_iff]at b c;obtain⟨q,g,rfl⟩:=b;obtain⟨i,a,rfl⟩:=c;rw[g]at a;cases a;obtain⟨e,f⟩:=h.zget q;exact⟨e,f⟩
def evMakeSlice(de:TyD)(ob:List (Nat×Ob))(i:Nat)(l:Int):Option (List (Nat×Ob)):=
 match get ob i with
 | none=>some (put ob i (.row de.k l.toNat (fun _ q=>.v (de.z.getD q (.bool false)))))
 | some _=>none
theorem TL{p:Nat}(h:j<k):(p*k+j) % k=j:=by
 rw[Nat.add_comm,Nat.add_mul_mod_self_right,Nat.mod_eq_of_lt h]
theorem zCv(h:BA P t d)(J:d.el≠0)(o:BA P d.el de)(K:AU w E ob){kl kc:IntKind}{l:Int}(x:0<=l)(G:l<=1000000)(a:evMakeSlice de ob i l=some ob') :
 ∃z w' e,(Instr.makeSlice t (.int kl l) (.int kc l)).run P w = .ok z w'/\AX (dom ob) w E w' e/\(∀j,dom ob j->dom ob' j)/\AU w' e ob'/\AvR w' e (dom ob') (.m false [.h i]) z:=by
 unfold evMakeSlice at a;split at a
 ·rename_i hi
  cases a;obtain⟨b,g,s,M,I⟩:=o.get;have L:=o.CG;have H:(b.bytes:Int)*l<=281474976710656:=by
   have:=Int.mul_le_mul (show(b.bytes:Int)<=1024 by omega) G x (by omega);omega
  have A:=run_make (P:=P) w t d.el b _ (h.slice J) g M kl kc l l x (Int.le_refl _) H (by omega);have r:madeCells de.zv.cells (l.toNat*b.size)=((List.range (l.toNat*de.k)).map (fun q=>de.z.toArray[q % de.z.toArray.size]!)).toArray:=by
   unfold madeCells;rw[s,o.zcells];apply Array.ext';simp[Array.toList_range]
  rw[r]at A;obtain⟨e,C,D,F⟩:=TM K hi (k:=de.k) (n:=l.toNat) (cap:=l.toNat) (f:=fun _ q=>.v (de.z.getD q (.bool false))) (cs:=(List.range (l.toNat*de.k)).map (fun q=>de.z.toArray[q % de.z.toArray.size]!)) (Nat.le_refl _) (by simp) (fun p j y c=>by
   obtain⟨B,u⟩:=o.zget (p*de.k+j);refine⟨de.z.toArray[(p*de.k+j) % de.z.toArray.size]!,?_,?_,fun _ _=>trivial⟩
   ·rw[List.getElem?_map,List.getElem?_range (Fb y c)];rfl
   ·rw[B,TL c];rw[TL c]at u;exact⟨rfl,u⟩) (fun p j y c N O f' h=>by cases h) d.el
  exact⟨_,_,e,A,C,fun j c=>BT c,D,F⟩
 ·cases a
def evBuildSlice(de:TyD)(ob:List (Nat×Ob))(i len:Nat)(ps:List (Nat×List Cv)):Option (List (Nat×Ob)):=
 match get ob i,(fillC (fun x=>some (x*de.k,de.k)) (zc de len) ps).bind trs with
 | none,some ts=>if len*de.k<=1000 then some (put ob i (.row de.k len (fun p q=>ts.getD (p*de.k+q) (.v (.bool false)))))else none
 | _,_=>none
theorem XR{C9:Nat->Option (Nat×Nat)}:∀{ps:List (Nat×List Cv)} {c c':List Cv},fillC C9 c ps=some c'->c'.length=c.length
 | [],c,c',h=>by cases h;rfl
 | (f,l) :: r,c,c',h=>by
  simp only[fillC]at h;split at h
  ·split at h
   ·rename_i a
    rw[XR h];simp;omega
   ·cases h
  ·cases h
variable{ps:List (Nat×List Cv)}{vs:List (Nat×Value)}
theorem zD0(h:BA P t d)(he:d.el≠0)(F:BA P d.el de)(ho:AU w E ob){len:Nat}
 (I:AR (fun (p:Nat×List Cv) (q:Nat×Value)=>p.1=q.1/\CsR w E (dom ob) p.2 q.2.cells.toList) ps vs) (a:evBuildSlice de ob i len ps=some ob') :
 ∃z w' C,(Instr.buildSlice t len vs.toArray).run P w = .ok z w'/\AX (dom ob) w E w' C/\(∀j,dom ob j->dom ob' j)/\AU w' C ob'/\AvR w' C (dom ob') (.m false [.h i]) z:=by
 unfold evBuildSlice at a;split at a
 ·rename_i ts hi hb
  rw[Option.bind_eq_some_iff]at hb;obtain⟨c,U,K⟩:=hb;split at a
  ·rename_i bA
   cases a;obtain⟨cs,R,S⟩:=QO I (F.zcs (w:=w) (E:=E) (D:=dom ob) (len*de.k)) U;have M:=PI K S;have H:cs.length=len*de.k:=by
    have:=S.length;have:=XR U;simp[zc]at this;omega
   have J:(Instr.buildSlice t len vs.toArray).run P w = .ok (.slice (some ⟨w.heap.size,0,none⟩) len len) (w.alloc (.cells cs.toArray d.el)):=by
    have V:=F.pos;have Q:((Array.range (len*de.k)).map (de.zv.cells[· % de.zv.cells.size]!))=((List.range (len*de.k)).map (fun q=>de.z.toArray[q % de.z.toArray.size]!)).toArray:=by
     rw[F.zcells];apply Array.ext';simp[Array.toList_range]
    unfold Instr.buildSlice;simp only[Sem.run_bind,run_underlying (h.slice he),Result.andThen_ok,F.run_size];by_cases L:len*de.k=0
    ·have b:Instr.fill (fun i=>some (i*de.k,de.k)) (Array.map (fun x=>(#[]:Array Value)[x % (#[]:Array Value).size]!) (Array.range (len*de.k))) vs=some cs.toArray:=by
      rw[<-R,L];have e:(Array.map (fun x=>(#[]:Array Value)[x % (#[]:Array Value).size]!) (Array.range 0))=(List.map (fun q=>de.z.toArray[q % de.z.toArray.size]!) (List.range 0)).toArray:=(by apply Array.ext';simp[Array.toList_range]);rw[e]
     rw[L]at b ⊢;simp at b;simp[b,newRow]
    ·have b:Instr.fill (fun i=>some (i*de.k,de.k)) (Array.map (fun x=>de.zv.cells[x % de.zv.cells.size]!) (Array.range (len*de.k))) vs=some cs.toArray:=(by rw[Q];exact R);have y:¬(16777216<len*de.k):=(by omega);simp[L,y,F.run_zero,b,newRow]
   obtain⟨C,W,X,Y⟩:=TM ho hi (k:=de.k) (n:=len) (cap:=len) (f:=fun p q=>ts.getD (p*de.k+q) (.v (.bool false))) (cs:=cs) (Nat.le_refl _) H (fun p j I G=>by
    have:=Fb I G;have O:=M.length;have y:ts[p*de.k+j]?=some ts[p*de.k+j]:=List.getElem?_eq_getElem (by omega);obtain⟨u,hu,hs,ht⟩:=M.at y;have Z:ts.getD (p*de.k+j) (.v (.bool false))=ts[p*de.k+j]:=(by rw[List.getD_eq_getElem?_getD,y];rfl);rw[Z];exact⟨u,hu,hs,ht⟩) (fun p j I G A B f' e=>by
    have:=Fb I G;have O:=M.length;have y:ts[p*de.k+j]?=some (.s .o A B f'):=by
     rw[<-e];rw[List.getD_eq_getElem?_getD,List.getElem?_eq_getElem (by omega)];rfl
    have:∀{l:List Cv} {m:List Tr},trs l=some m->∀T∈m,∀A B f',T≠.s .o A B f':=by
     intro l
     induction l with
     | nil=>intro m g T N;cases g;cases N
     | cons x r ih=>
      intro m g T N A B f';simp only[trs]at g;split at g
      ·rename_i T' l' hT' hl'
       cases g;cases N with
       | head=>
        intro e;subst e;cases x with
        | v x=>cases hT'
        | s fl k n f=>cases fl<;>cases hT'
        | _=>cases hT'
       | tail _ g=>exact ih hl' T g A B f'
      ·cases g
    exact this K _ (List.mem_of_getElem? y) A B f' rfl) d.el
   exact⟨_,_,C,J,W,fun j G=>BT G,X,Y⟩
  ·cases a
 ·cases a
theorem AX.trans{w1 w2:World}{E1 E2:En}(h:AX D w E w1 E1)(a:AX D' w1 E1 w2 E2)(b:∀j,D j->D' j):AX D w E w2 E2:=
 ⟨h.kp.trans a.kp,fun i hi=>(a.bl i (b i hi)).trans (h.bl i hi),fun i hi=>(a.hv i (b i hi)).trans (h.hv i hi)⟩
theorem zG9(e:AU w E ob)(h:rowE ob r=some (k,n,f)):∃a,AX (dom ob) w E w a/\AU w a (put ob r .dead)/\Sh w a.g (.s .z k n f) (E.hv r):=by
 obtain⟨a,-,-,-,b,c,d,-,-⟩:=qM e h (s:=.fz none) (.inl rfl);exact⟨a,b,c,d⟩
def frz1(ob:List (Nat×Ob)):Cv->Cv×List (Nat×Ob)
 | .h r=>match rowE ob r with
  | some (k,n,f)=>(.s .z k n f,put ob r .dead)
  | none=>(.h r,ob)
 | x=>(x,ob)
def frz:List Cv->List (Nat×Ob)->List Cv×List (Nat×Ob)
 | [],ob=>([],ob)
 | x :: l,ob=>((frz1 ob x).1 :: (frz l (frz1 ob x).2).1,(frz l (frz1 ob x).2).2)
def Ek:List (Nat×List Cv)->List (Nat×Ob)->List (Nat×List Cv)×List (Nat×Ob)
 | [],ob=>([],ob)
 | x :: l,ob=>((x.1,(frz x.2 ob).1) :: (Ek l (frz x.2 ob).2).1,(Ek l (frz x.2 ob).2).2)
theorem zEe(a:dom ob r)(j:Nat):dom ob j↔dom (put ob r .dead) j:=by
 refine⟨fun h=>BT h,fun h=>?_⟩;unfold dom at *;rw[BD]at h;split at h
 ·rename_i e;exact e▸a
 ·exact h
theorem zGA(c:AU w E ob)(b:CvR w E (dom ob) x u) :
 ∃a,AX (dom ob) w E w a/\AU w a (frz1 ob x).2/\CvR w a (dom (frz1 ob x).2) (frz1 ob x).1 u/\∀j,dom ob j↔dom (frz1 ob x).2 j:=by
 cases x with
 | h r=>
  simp only[frz1];split
  ·rename_i k n f hr
   obtain⟨a,d,e,g⟩:=zG9 c hr;refine⟨a,d,e,?_,zEe b.1⟩;rw[b.2.1];exact g
  ·exact⟨E,AX.refl _ _ _,c,b,fun _=>Iff.rfl⟩
 | _=>exact⟨E,AX.refl _ _ _,c,b,fun _=>Iff.rfl⟩
theorem LR{w:World}:∀{l:List Cv} {us:List Value} {E:En} {ob:List (Nat×Ob)},AU w E ob->CsR w E (dom ob) l us->
 ∃b,AX (dom ob) w E w b/\AU w b (frz l ob).2/\CsR w b (dom (frz l ob).2) (frz l ob).1 us/\∀j,dom ob j↔dom (frz l ob).2 j
 | [],us,E,ob,ho,h=>⟨E,AX.refl _ _ _,ho,h,fun _=>Iff.rfl⟩
 | x :: l,us,E,ob,ho,h=>by
  cases h with
  | cons hx ht=>
   obtain⟨o,d,i,k,c⟩:=zGA ho hx;obtain⟨g,e,m,n,f⟩:=LR (l:=l) i (CsR.ext d (fun j a=>(c j).1 a) ht);exact⟨g,d.trans e (fun j a=>(c j).1 a),m,AR.cons (k.ext e (fun j a=>(f j).1 a)) n,fun j=>(c j).trans (f j)⟩
theorem Tl{w:World}:∀{l:List (Nat×List Cv)} {us:List (Nat×Value)} {E:En} {ob:List (Nat×Ob)},AU w E ob->AR (fun (p:Nat×List Cv) (q:Nat×Value)=>p.1=q.1/\CsR w E (dom ob) p.2 q.2.cells.toList) l us->
 ∃b,AX (dom ob) w E w b/\AU w b (Ek l ob).2/\AR (fun (p:Nat×List Cv) (q:Nat×Value)=>p.1=q.1/\CsR w b (dom (Ek l ob).2) p.2 q.2.cells.toList) (Ek l ob).1 us/\∀j,dom ob j↔dom (Ek l ob).2 j
 | [],us,E,ob,ho,h=>by cases h;exact⟨E,AX.refl _ _ _,ho,.nil,fun _=>Iff.rfl⟩
 | x :: l,us,E,ob,ho,h=>by
  cases h with
  | cons hx ht=>
   obtain⟨i,e,m,n,c⟩:=LR ho hx.2;have d:∀{l:List (Nat×List Cv)} {us:List (Nat×Value)},AR (fun (p:Nat×List Cv) (q:Nat×Value)=>p.1=q.1/\CsR w E (dom ob) p.2 q.2.cells.toList) l us->AR (fun (p:Nat×List Cv) (q:Nat×Value)=>p.1=q.1/\CsR w i (dom (frz x.2 ob).2) p.2 q.2.cells.toList) l us:=fun h=>by
    induction h with
    | nil=>exact .nil
    | cons h _ ih=>exact .cons ⟨h.1,CsR.ext e (fun j a=>(c j).1 a) h.2⟩ ih
   obtain⟨k,f,o,r,g⟩:=Tl (l:=l) m (d ht);exact⟨k,e.trans f (fun j a=>(c j).1 a),o,.cons ⟨hx.1,CsR.ext f (fun j a=>(g j).1 a) n⟩ r,fun j=>(c j).trans (g j)⟩
def MF(de:TyD)(ob:List (Nat×Ob))(i len:Nat)(ps:List (Nat×List Cv)):Option (List (Nat×Ob)):=evBuildSlice de (Ek ps ob).2 i len (Ek ps ob).1
theorem zCq(h:BA P t d)(v:d.el≠0)(u:BA P d.el de)(x:AU w E ob){len:Nat}
 (y:AR (fun (p:Nat×List Cv) (q:Nat×Value)=>p.1=q.1/\CsR w E (dom ob) p.2 q.2.cells.toList) ps vs) (b:MF de ob i len ps=some ob') :
 ∃z w' a,(Instr.buildSlice t len vs.toArray).run P w = .ok z w'/\AX (dom ob) w E w' a/\(∀j,dom ob j->dom ob' j)/\AU w' a ob'/\AvR w' a (dom ob') (.m false [.h i]) z:=by
 obtain⟨A,f,g,k,e⟩:=Tl x y;obtain⟨z,w',a,l,n,o,r,s⟩:=zD0 h v u g k b;exact⟨z,w',a,l,f.trans n (fun j c=>(e j).1 c),fun j c=>o j ((e j).1 c),r,s⟩
def evLen(ob:List (Nat×Ob)):Cv->Option Nat
 | .s _ _ n _=>some n
 | .h i=>match rowE ob i with
  | some q=>some q.2.1
  | none=>none
 | .hs _ _ _ n=>some n
 | .v (.slice none 0 0)=>some 0
 | _=>none
theorem zEi(h:BA P t d)(i:d.el≠0)(j:AU w E ob)(b:evLen ob x=some n)(g:CvR w E (dom ob) x y)(ty:Nat) :
 (Builtin.len_ #[t] ty #[y]).run P w = .ok (.int .i64 n) w:=by
 have:∃a c,y = .slice a n c:=by
  unfold evLen at b;split at b
  ·cases b;obtain⟨a,c,e,_⟩:=g;exact⟨a,c,e⟩
  ·split at b
   ·rename_i q hi
    obtain⟨k,m,f⟩:=q;cases b;obtain⟨_,a,c,e,_⟩:=Kc j hi;exact⟨a,c,g.2.1.trans e⟩
   ·cases b
  ·cases b;obtain⟨_,a,c,e,_⟩:=g;exact⟨a,c,e⟩
  ·cases b;exact⟨none,0,g.1⟩
  ·cases b
 obtain⟨a,c,rfl⟩:=this;simp[Builtin.len_,run_underlying (h.slice i),goInt]
def oOf:Tr->Option (Nat×Nat×(Nat->Nat->Tr))
 | .s .o k n f=>some (k,n,f)
 | _=>none
theorem zII(h:oOf T=some (k,n,f)):T = .s .o k n f:=by
 cases T with
 | v x=>cases h
 | s fl k n f=>cases fl<;>cases h;rfl
def evTake(ob:List (Nat×Ob))(r:Nat):Cv->Option (Prop×List (Nat×Ob))
 | .e i k a j=>match get ob i,get ob r with
  | some (.row k' n F),none=>match oOf (F a j)with
   | some (kk,m,h)=>if k'=k/\j+1<=k then some (a<n,put (put ob i (.row k n (Ae F a j [.s .z kk m h]))) r (.tl kk m h))else none
   | none=>none
  | _,_=>none
 | _=>none
theorem zGj{p q a:Nat}(e:q<k)(d:j<k)(h:p*k+q=a*k+j):p=a/\q=j:=by
 have c:p=a:=by
  rcases Nat.lt_trichotomy p a with b | b | b
  ·have:=Nat.mul_le_mul_right k (show p+1<=a from b);rw[Nat.add_mul,Nat.one_mul]at this;omega
  ·exact b
  ·have:=Nat.mul_le_mul_right k (show a+1<=p from b);rw[Nat.add_mul,Nat.one_mul]at this;omega
 subst c;exact⟨rfl,by omega⟩
theorem ze(h:BA P t d)(lB:d.k=1)(jB:d.g=false)(ho:AU w E ob)(K:evTake ob r x=some (c,ob'))(hc:c)(hy:CvR w E (dom ob) x y) :
 ∃z E',(Instr.loadAt t y).run P w = .ok z w/\AX (dom ob) w E w E'/\(∀j,dom ob j->dom ob' j)/\AU w E' ob'/\AvR w E' (dom ob') (.m false [.h r]) z:=by
 cases x with
 | e i k a j=>
  simp only[evTake]at K;split at K
  ·rename_i k' n F hi hr
   split at K
   ·rename_i R m f hT
    split at K
    ·rename_i iA
     cases K;obtain⟨rfl,iA⟩:=iA;replace hT:=zII hT;obtain⟨-,rfl⟩:=hy;obtain⟨a',cap,hv,hn,jA⟩:=ho i _ hi;obtain⟨bA,hg,cs,T,hh,hl,B⟩:=jA (by omega);obtain⟨u,hu,lA,nA⟩:=B a j hc (by omega);rw[hT]at lA nA;obtain⟨Z,J,rfl,fB⟩:=nA;obtain⟨a3,c3,e3,hm,kA⟩:=lA;cases e3;have Q:(Instr.loadAt t (.pointer (some ⟨E.bl i,a*k'+j,none⟩))).run P w = .ok (.slice Z m J) w:=by
      have:=h.run_load (w:=w) (b:=E.bl i) (o:=a*k'+j) (cs:=[.slice Z m J]) (by simp[lB]) (fun q v A=>by
       have:q=0:=by
        have:=(List.getElem?_eq_some_iff.1 A).1;simpa using this
       subst this;simp at A;subst A;rw[cell_of_row w _ _ _ T _ hh];simpa using hu)
      rw[jB]at this;simpa using this
     have iB:dom ob i:=(by unfold dom;rw[hi];rfl);have M:∀q,dom ob q->q≠r:=fun q A e=>by unfold dom at A;rw[e,hr]at A;cases A
     have I:i≠r:=M i iB;rcases Nat.eq_zero_or_pos J with e0 | e0
     ·have em:m=0:=(by omega);subst em;have hx:AX (dom ob) w E w ⟨E.g,E.bl,fun q=>if q=r then .slice Z 0 J else E.hv q⟩:=⟨Kp.refl _ _,fun _ _=>rfl,fun q A=>if_neg (M q A)⟩;refine⟨_,⟨E.g,E.bl,fun q=>if q=r then .slice Z 0 J else E.hv q⟩,Q,hx,fun q A=>BT (BT A),fun q o A=>?_,.h r,rfl,by unfold dom;rw[BD,if_pos rfl];rfl,by simp,rfl⟩;rw[BD,BD]at A;by_cases e:r=q
      ·rw[if_pos e]at A;cases A;subst e;exact⟨Z,J,by simp,by omega,fun O=>by omega⟩
      ·rw[if_neg e]at A;by_cases N:i=q
       ·rw[if_pos N]at A;cases A;subst N;refine⟨a',cap,by simp[I];exact hv,hn,fun O=>⟨bA,hg,cs,T,hh,hl,fun p q V A=>?_⟩⟩;obtain⟨u,C,W,Y⟩:=B p q V A;by_cases H:p=a/\j<=q/\q<j+1
        ·obtain⟨rfl,h3,h4⟩:=H;cases (show q=j by omega);rw[hu]at C;cases C;rw[show Ae F p j [.s .z R 0 f] p j = .s .z R 0 f by unfold Ae;rw[if_pos ⟨rfl,h3,h4⟩];simp];exact⟨_,hu,⟨Z,J,rfl,by omega,fun O=>by omega⟩,trivial⟩
        ·rw[show Ae F a j [.s .z R 0 f] p q=F p q by unfold Ae;rw[if_neg (by simpa using H)]];exact⟨u,C,W,Y⟩
       ·rw[if_neg N]at A;exact ObR.ext hx (fun q A=>BT (BT A)) (by unfold dom;rw[A];rfl) (X:=fun _=>False) (fun _ _ _=>⟨rfl,rfl⟩) (fun _ _ x=>x.elim) (fun _ _ _ _ x=>x.elim) (ho q o A)
     ·obtain⟨b,rfl,D,cc,tt,gA,mA⟩:=fB e0;have hk:Kp w E.g w (fun q=>if q=b then .ow (.nm r) (m*R)else E.g q):=by
       refine⟨rfl,rfl,rfl,Nat.le_refl _,fun q x S _=>⟨rfl,?_⟩,fun q o l S _=>⟨fun _ _=>rfl,.inl ?_⟩⟩
       ·rw[if_neg (fun e=>by rw[e,D]at S;cases S)];exact S
       ·by_cases e:q=b
        ·rw[e,D]at S;cases S;exact⟨_,_,if_pos e,Nat.le_refl _⟩
        ·exact⟨o,l,by rw[if_neg e];exact S,Nat.le_refl _⟩
      have hx:AX (dom ob) w E w ⟨fun q=>if q=b then .ow (.nm r) (m*R)else E.g q,fun q=>if q=r then b else E.bl q,fun q=>if q=r then .slice (some ⟨b,0,none⟩) m J else E.hv q⟩:=⟨hk,fun q A=>if_neg (M q A),fun q A=>if_neg (M q A)⟩;have eB:E.bl i≠b:=fun e=>by rw[e,D]at hg;cases hg
      refine⟨_,_,Q,hx,fun q A=>BT (BT A),fun q o A=>?_,.h r,rfl,by unfold dom;rw[BD,if_pos rfl];rfl,by simp,rfl⟩;rw[BD,BD]at A;by_cases e:r=q
      ·rw[if_pos e]at A;cases A;subst e;refine⟨some ⟨b,0,none⟩,J,by simp,hm,fun O=>⟨by simp,by simp,cc.toList,tt,by simpa using gA,by simpa using mA,fun p q V A=>?_⟩⟩;obtain⟨b',o',e4,cA,nB,U⟩:=kA (by omega);cases e4;obtain⟨v,pA,oB⟩:=U p q V A;refine⟨v,?_,oB.kp hk⟩;rw[Nat.zero_add,cell_of_row w _ _ _ tt _ gA]at pA;simpa using pA
      ·rw[if_neg e]at A;by_cases N:i=q
       ·rw[if_pos N]at A;cases A;subst N;refine⟨a',cap,by simp[I];exact hv,hn,fun O=>⟨by simp[I];exact bA,by simp[I,eB];exact hg,cs,T,by simp[I];exact hh,hl,fun p q V A=>?_⟩⟩;obtain⟨u,C,W,Y⟩:=B p q V A;by_cases H:p=a/\j<=q/\q<j+1
        ·obtain⟨rfl,h3,h4⟩:=H;cases (show q=j by omega);rw[hu]at C;cases C;rw[show Ae F p j [.s .z R m f] p j = .s .z R m f by unfold Ae;rw[if_pos ⟨rfl,h3,h4⟩];simp];refine⟨_,hu,⟨_,J,rfl,hm,fun O=>?_⟩,trivial⟩;obtain⟨b',o',e4,cA,nB,U⟩:=kA O;cases e4;refine⟨b,0,rfl,cA,by simp[Bs.ok],fun p q V A=>let ⟨v,hv,hs⟩:=U p q V A;⟨v,hv,hs.kp hk⟩⟩
        ·rw[show Ae F a j [.s .z R m f] p q=F p q by unfold Ae;rw[if_neg (by simpa using H)]];refine⟨u,C,W.kp hk,?_⟩;simp only[if_neg I];revert Y;cases F p q with
         | v x=>exact id
         | s fl k2 n2 f2=>
          cases fl with
          | b=>exact id
          | z=>exact id
          | o=>
           rintro⟨a4,c4,rfl,gB⟩;refine⟨a4,c4,rfl,fun O=>?_⟩;obtain⟨b4,e4,L,dA⟩:=gB O;refine⟨b4,e4,?_,dA⟩;show(if b4=b then _ else _)=_;rw[if_neg ?_]
           ·exact L
           ·intro e;rw[e,D]at L;simp only[Bs.ow.injEq,Ow.tl.injEq,true_and]at L;obtain⟨rfl,rfl⟩:=zGj A (by omega) L.1.symm;exact H ⟨rfl,Nat.le_refl _,by omega⟩
       ·rw[if_neg N]at A;refine ObR.ext hx (fun q A=>BT (BT A)) (by unfold dom;rw[A];rfl) (X:=fun z=>z=b) (fun z _ hz=>⟨rfl,if_neg hz⟩) (fun z l hz G=>?_) (fun fA z j' l hz G=>?_) (ho q o A)
        ·rw[hz,D]at G;cases G
        ·rw[hz,D]at G;simp only[Bs.ow.injEq,Ow.tl.injEq]at G;rw[<-G.1.1,hg]at fA;cases fA;exact N rfl
    ·cases K
   ·cases K
  ·cases K
 | _=>cases K
end
section
variable {P : Program} {t : Nat} {d de : TyD}
variable{cap b o m c':Nat}{c:List Value}
theorem V9(h:BA P t d)(x:d.el≠0)(r:BA P d.el de){B:Nat}{T:TypeId}(y:w.heap[B]?=some (.cells c.toArray T (0,0)))(v:c.length=cap*de.k){a:List Value}
 (q:a.length=m*de.k) (f:∀(j:Nat) u,a[j]?=some u->w.cell? ⟨b,o+j,none⟩=some u) (s:∀u∈a,u.oneCell'=true) (e:n+m<=cap) (ty:Nat) :
 (Builtin.append_ #[t,t] ty #[.slice (some ⟨B,0,none⟩) n cap,.slice (some ⟨b,o,none⟩) m c']).run P w = .ok (.slice (some ⟨B,0,none⟩) (n+m) cap) (w.setRow B (c.take (n*de.k) ++ a ++ c.drop (n*de.k+a.length)).toArray):=by
 obtain⟨i,hi,hs,C,A⟩:=r.get;have g:n*de.k+a.length<=c.length:=by
  rw[q,v,<-Nat.add_mul];exact Nat.mul_le_mul_right _ e
 have p:=run_firstCells_some (P:=P) w i.size m ⟨b,o,none⟩ m c' a (by rw[hs];exact q) (fun j u z=>by rw[Gc];exact f j u z);have l:=run_storeCells_at P B (n*de.k) T a 0 c.toArray w y (by simpa using g) s;simp only[Nat.add_zero]at l;rw[hs]at p;simp[Builtin.append_,run_underlying (h.slice x),sizeOf,typeInfo,hi,hs,Builtin.lenOf,e,p,Gc,l]
variable{a:Option Addr}
theorem O4(h:BA P t d)(c:d.el≠0)(e:BA P d.el de){a':Option Addr}(hn:n<=cap)(ty:Nat) :
 (Builtin.append_ #[t,t] ty #[.slice a n cap,.slice a' 0 c']).run P w = .ok (.slice a n cap) w:=by
 obtain⟨i,hi,hs,g,f⟩:=e.get;cases a' with
 | none=>cases a<;>simp[Builtin.append_,run_underlying (h.slice c),sizeOf,typeInfo,hi,Builtin.lenOf,hn,Builtin.firstCells,storeCells]
 | some b=>cases a<;>simp[Builtin.append_,run_underlying (h.slice c),sizeOf,typeInfo,hi,Builtin.lenOf,hn,Builtin.firstCells,loadCells,loadCellsFrom,storeCells]
theorem QZ(h:BA P t d)(F:d.el≠0)(s:BA P d.el de){olds:List Value}(D:olds.length=n*de.k)(holds:0<n->∃B,a=some ⟨B,0,none⟩/\∀(j:Nat) u,olds[j]?=some u->w.cell? ⟨B,j,none⟩=some u)
 (I:c.length=m*de.k) (g:∀(j:Nat) u,c[j]?=some u->w.cell? ⟨b,o+j,none⟩=some u) (hn:n<=cap) (G:cap<n+m) (q:n+m<=1000000000) (ty:Nat) :
 ∃f rest,n+m<=f/\rest.length=(f - (n+m))*de.k/\
  (Builtin.append_ #[t,t] ty #[.slice a n cap,.slice (some ⟨b,o,none⟩) m c']).run P w = .ok (.slice (some ⟨w.heap.size,0,none⟩) (n+m) f) (w.drew.alloc (.cells (olds ++ c ++ rest).toArray d.el)):=by
 obtain⟨i,hi,hs,J,O⟩:=s.get;have N:=s.CG;have l:=growslice_fits G (show(n+m)*i.bytes<=140737488355328 by
  have:=Nat.mul_le_mul q (show i.bytes<=1024 by omega);omega)
 have r:de.zv.cells.size=de.k:=by rw[s.zcells];simpa using s.len
 cases a with
 | none=>
  have C:n=0:=by
   rcases Nat.eq_zero_or_pos n with e | e
   ·exact e
   ·obtain⟨B,K,_⟩:=holds e;cases K
  subst C;have p:olds = []:=(by simpa using D);subst p;simp only[Nat.zero_add]at *;refine⟨grownCap w m cap d.el,(Builtin.zeroCells de.zv.cells (grownCap w m cap d.el - m)).toList,grownCap_ge _ _ _ _,by rw[Array.length_toList,size_zeroCells,r],?_⟩;have x:=run_firstCells_some (P:=P) w.drew i.size m ⟨b,o,none⟩ m c' c (by rw[hs];exact I) (fun j u E=>by rw[Gc];simpa using g j u E);rw[hs]at x;have hn:¬(m<=cap):=(by omega);have y:¬(281474976710656<Builtin.nextslicecap m cap*i.bytes):=(by omega);have z:¬(9223372036854775807<(m:Int)):=(by omega);simp[Builtin.append_,run_underlying (h.slice F),sizeOf,typeInfo,zeroValue,hi,hs,J,Builtin.lenOf,hn,z,y,Question.forced,run_firstCells_none,x,newRow,grownCap];congr 2;apply Array.ext';simp
 | some A=>
  have x:=run_append_grow (P:=P) w t ty d.el i de.zv (h.slice F) hi J A n cap olds (by rw[hs];exact D) (fun j v H=>by
   have L:0<n:=by
    rcases Nat.eq_zero_or_pos n with e | e
    ·subst e;have p:olds = []:=(by simpa using D);subst p;simp at H
    ·exact e
   obtain⟨B,e,M⟩:=holds L;cases e;rw[Gc,Nat.zero_add];exact M j v H) ⟨b,o,none⟩ m c' c (by rw[hs];exact I) (fun j u E=>by rw[Gc];exact g j u E) G (by omega) l
  refine⟨grownCap w (n+m) cap d.el,(Builtin.zeroCells de.zv.cells (grownCap w (n+m) cap d.el - (n+m))).toList,grownCap_ge _ _ _ _,by rw[Array.length_toList,size_zeroCells,r],?_⟩;rw[x];congr 3;apply Array.ext';simp
end
def Tr.nt:Tr->Tr
 | .s .o k n f=>.s .z k n f
 | T=>T
variable{g:Nat->Bs}
theorem Sh.nt(h:Sh w g T u):Sh w g T.nt u:=by
 cases T with
 | v x=>exact h
 | s fl k n f=>
  cases fl with
  | b=>exact h
  | z=>exact h
  | o=>exact Sh.cv (E:=⟨g,fun _=>0,fun _=>.bool false⟩) (D:=fun _=>True) h
theorem Tr.nt_tail{B:Nat}:CM w g B j T.nt u:=by
 cases T with
 | v x=>trivial
 | s fl k n f=>cases fl<;>trivial
def srcOf(k:Nat)(ob:List (Nat×Ob)):Cv->Option (Prop×Nat×(Nat->Nat->Tr))
 | .s _ k' n f=>if k'=k then some (True,n,fun p q=>(f p q).nt)else none
 | .h i=>match rowE ob i with
  | some (k',n,f)=>if k'=k then some (True,n,fun p q=>(f p q).nt)else none
  | none=>none
 | .hs i k' lo m=>match rowE ob i with
  | some (k2,n,f)=>if k'=k/\k2=k then some (lo+m<=n,m,fun p q=>(f (lo+p) q).nt)else none
  | none=>none
 | .v (.slice none 0 0)=>some (True,0,fun _ _=>.v (.bool false))
 | _=>none
def ZW(w:World)(g:Nat->Bs)(k m:Nat)(f:Nat->Nat->Tr)(y:Value):Prop:=
 ∃a c,y = .slice a m c/\(0<m->∃b o,a=some ⟨b,o,none⟩/\∀i j,i<m->j<k->∃u,w.cell? ⟨b,o+(i*k+j),none⟩=some u/\Sh w g (f i j) u)
theorem UD(F:AU w E ob){m:Nat}{C:Prop}(h:srcOf k ob x=some (C,m,f))(J:C)(z:CvR w E (dom ob) x y) :
 (∀p q,∀B j u,CM w E.g B j (f p q) u)/\ZW w E.g k m f y:=by
 unfold srcOf at h;split at h
 ·split at h
  ·rename_i e
   subst e;cases h;obtain⟨a,c,e,hn,r⟩:=z;refine⟨fun p q B j u=>Tr.nt_tail,a,c,e,fun l=>?_⟩;obtain⟨b,o,v,_,_,d⟩:=r l;exact⟨b,o,v,fun i j hi s=>let ⟨u,t,hs⟩:=d i j hi s;⟨u,t,hs.nt⟩⟩
  ·cases h
 ·rename_i i
  split at h
  ·rename_i I n f' hi
   split at h
   ·rename_i e
    subst e;cases h;obtain⟨-,a,cap,hv,hn,r⟩:=Kc F hi;refine⟨fun p q B j u=>Tr.nt_tail,a,cap,z.2.1.trans hv,fun l=>?_⟩;obtain⟨v,_,cs,T,D,_,d⟩:=r (by omega);refine⟨E.bl i,0,v,fun p j G s=>?_⟩;obtain⟨u,t,hs⟩:=d p j G s;refine⟨u,?_,hs.nt⟩;rw[Nat.zero_add,cell_of_row w _ _ _ T _ D];simpa using t
   ·cases h
  ·cases h
 ·rename_i i I lo m'
  split at h
  ·rename_i K n f' hi
   split at h
   ·rename_i e
    obtain⟨rfl,rfl⟩:=e;cases h;obtain⟨-,a,cap,hv,hn,r⟩:=Kc F hi;obtain⟨-,H,c',e,A⟩:=z;refine⟨fun p q B j u=>Tr.nt_tail,H,c',e,fun l=>?_⟩;obtain⟨v,_,cs,T,D,_,d⟩:=r (by omega);refine⟨E.bl i,_,A l,fun p j G s=>?_⟩;obtain⟨u,t,hs⟩:=d (lo+p) j (by omega) s;refine⟨u,?_,hs.nt⟩;rw[cell_of_row w _ _ _ T _ D,<-Nat.add_assoc,<-Nat.add_mul];simpa using t
   ·cases h
  ·cases h
 ·cases h;exact⟨fun p q B j u=>trivial,none,0,z.1,fun l=>by omega⟩
 ·cases h
theorem Y7{b o:Nat}:∀(m:Nat),(∀i j,i<m->j<k->∃u,w.cell? ⟨b,o+(i*k+j),none⟩=some u)->∃cs:List Value,cs.length=m*k/\∀(j:Nat) u,cs[j]?=some u->w.cell? ⟨b,o+j,none⟩=some u:=by
 intro m h;obtain⟨cs,c,d,_⟩:=Od (w:=w) (b:=b) (o:=o) (R:=fun _ _=>True) (fun _=>.h 0) (m*k) (fun q f=>by
  rcases Nat.eq_zero_or_pos k with e | e
  ·subst e;omega
  ·obtain⟨u,a⟩:=h (q / k) (q % k) ((Nat.div_lt_iff_lt_mul e).2 f) (Nat.mod_lt _ e);rw[Nat.mul_comm,Nat.div_add_mod]at a;exact⟨u,a,trivial⟩)
 exact⟨cs,c,d⟩
def Ai(f:Nat->Nat->Tr)(n:Nat)(f':Nat->Nat->Tr):Nat->Nat->Tr:=fun p q=>if p<n then f p q else f' (p - n) q
end Go.Proofs.YtddigaohmfpepaaGreatDoor
