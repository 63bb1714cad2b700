/- A part of the proof. -/
import Derived.WalkKit
import Derived.WalkSpells
import Derived.WalkLawsBesides
import Derived.Laws.CopyRow
import Derived.Laws.AppendOwn
import Derived.Laws.MakeOwn
import Derived.Laws.Slices
set_option linter.unusedVariables false
set_option maxRecDepth 20000
set_option maxHeartbeats 4000000
namespace Go.Proofs.YtibhefllijahkaaGreatDoor
open Go.RowKit
inductive Fl where | b | z | o
inductive Tr where
 | v (x:Value)
 | s (fl:Fl) (k n:Nat) (f:Nat->Nat->Tr)
inductive Ow where
 | nm (i:Nat)
 | tl (b j:Nat)
inductive Bs where
 | fz (r:Option Nat)
 | ow (o:Ow) (lim:Nat)
def Bs.ok(fl:Fl)(e:Nat):Bs->Prop
 | .fz r=>fl = .b\/∀l,r=some l->e<=l
 | .ow _ lim=>e<=lim
def Sh(w:World)(g:Nat->Bs):Tr->Value->Prop
 | .v x,y=>y=x/\x.oneCell'=true
 | .s fl k n f,y=>∃a c,y = .slice a n c/\n<=c/\(0<n->∃b o,a=some ⟨b,o,none⟩/\b<w.heap.size/\(g b).ok fl (o+n*k)/\
   ∀i j,i<n->j<k->∃u,w.cell? ⟨b,o+(i*k+j),none⟩=some u/\Sh w g (f i j) u)
structure Kp (w:World) (g:Nat->Bs) (w':World) (g':Nat->Bs):Prop where
 os:w'.os=w.os
 tape:w'.tape=w.tape
 output:w'.output=w.output
 size:w.heap.size<=w'.heap.size
 fz:∀b r,g b = .fz r->b<w.heap.size->w'.heap[b]?=w.heap[b]?/\g' b = .fz r
 ow:∀b o lim,g b = .ow o lim->b<w.heap.size->(∀j,j<lim->w'.cell? ⟨b,j,none⟩=w.cell? ⟨b,j,none⟩)/\((∃o' lim',g' b = .ow o' lim'/\lim<=lim')\/g' b = .fz none)
theorem Kp.refl(w:World)(g:Nat->Bs):Kp w g w g:=
 ⟨rfl,rfl,rfl,Nat.le_refl _,fun b r h _=>⟨rfl,h⟩,fun b o a h _=>⟨fun _ _=>rfl,.inl ⟨o,a,h,Nat.le_refl _⟩⟩⟩
variable{w:World}{g:Nat->Bs}
theorem Kp.trans{w1 w2:World}{g1 g2:Nat->Bs}(h:Kp w g w1 g1)(c:Kp w1 g1 w2 g2):Kp w g w2 g2:=by
 refine⟨c.os.trans h.os,c.tape.trans h.tape,c.output.trans h.output,Nat.le_trans h.size c.size,fun b r m k=>?_,fun b o p m k=>?_⟩
 ·obtain⟨e,d⟩:=h.fz b r m k;obtain⟨i,a⟩:=c.fz b r d (Nat.lt_of_lt_of_le k h.size);exact⟨i.trans e,a⟩
 ·obtain⟨e,d⟩:=h.ow b o p m k;have l:=Nat.lt_of_lt_of_le k h.size;rcases d with⟨v,t,d,s⟩ | d
  ·obtain⟨i,a⟩:=c.ow b v t d l;refine⟨fun j n=>(i j (by omega)).trans (e j n),?_⟩;rcases a with⟨x,u,a,q⟩ | a
   ·exact .inl ⟨x,u,a,by omega⟩
   ·exact .inr a
  ·obtain⟨i,a⟩:=c.fz b none d l;refine⟨fun j n=>?_,.inr a⟩;rw[<-e j n];exact World.cell?_of_block (w:=w1) i
theorem Bs.ok_b{s:Bs}{fl:Fl}{e:Nat}(h:s.ok fl e):s.ok .b e:=by
 cases s
 ·exact .inl rfl
 ·exact h
variable{i j:Nat}
theorem Fg{n k:Nat}(hi:i<n)(a:j<k):i*k+j<n*k:=by
 have h:=Nat.mul_le_mul_right k (show i+1<=n from hi);rw[Nat.add_mul,Nat.one_mul]at h;omega
variable{w':World}{g':Nat->Bs}
theorem Sh.kp(h:Kp w g w' g'):∀{T:Tr} {y:Value},Sh w g T y->Sh w' g' T y
 | .v x,y,hs=>hs
 | .s fl k n f,y,hs=>by
  obtain⟨a,c,e,hn,F⟩:=hs;refine⟨a,c,e,hn,fun D=>?_⟩;obtain⟨b,o,E,p,d,m⟩:=F D;refine⟨b,o,E,Nat.lt_of_lt_of_le p h.size,?_,fun i j hi A=>?_⟩
  ·cases hg:g b with
   | fz r=>
    obtain⟨_,l⟩:=h.fz b r hg p;rw[hg]at d;rw[l];exact d
   | ow q lim=>
    obtain⟨_,l⟩:=h.ow b q lim hg p;rw[hg]at d;rcases l with⟨o',G,l,z⟩ | l
    ·rw[l];exact Nat.le_trans d z
    ·rw[l];exact .inr fun _ h=>by cases h
  ·obtain⟨u,C,hs⟩:=m i j hi A;refine⟨u,?_,hs.kp h⟩;cases hg:g b with
   | fz r=>
    obtain⟨t,_⟩:=h.fz b r hg p;rw[<-C];exact World.cell?_of_block (w:=w) t
   | ow q lim=>
    obtain⟨t,_⟩:=h.ow b q lim hg p;rw[hg]at d;have:=Fg hi A;have B:o+n*k<=lim:=d;rw[t _ (by omega)];exact C
variable{y:Value}
theorem Sh.one{T:Tr}(h:Sh w g T y):y.oneCell'=true:=by
 cases T with
 | v x=>exact h.1▸h.2
 | s fl k n f=>obtain⟨a,c,rfl,_⟩:=h;rfl
def Tr.lend:Tr->Tr
 | .v x=>.v x
 | .s _ k n f=>.s .b k n fun i j=>(f i j).lend
theorem Sh.lend(h:∀b fl e,b<w.heap.size->(g b).ok fl e->(g' b).ok .b e):∀{T:Tr} {y:Value},Sh w g T y->Sh w g' T.lend y
 | .v x,y,hs=>hs
 | .s fl k n f,y,hs=>by
  obtain⟨a,c,e,hn,r⟩:=hs;refine⟨a,c,e,hn,fun p=>?_⟩;obtain⟨b,o,q,m,l,d⟩:=r p;refine⟨b,o,q,m,h b _ _ m l,fun i j hi t=>?_⟩;obtain⟨u,z,hs⟩:=d i j hi t;exact⟨u,z,hs.lend h⟩
theorem Kp.alloc(w:World)(g:Nat->Bs)(o:Obj)(s:Bs):Kp w g (w.alloc o) (fun b=>if b=w.heap.size then s else g b):=by
 refine⟨rfl,rfl,rfl,by simp,fun b r a c=>⟨Below.heap_alloc _ _ _ c,?_⟩,fun b q d a c=>⟨fun j _=>?_,.inl ⟨q,d,?_,Nat.le_refl _⟩⟩⟩
 ·rw[if_neg (by omega)];exact a
 ·exact World.cell?_of_block (w:=w) (Below.heap_alloc _ _ _ c)
 ·rw[if_neg (by omega)];exact a
theorem Kp.drew(w:World)(g:Nat->Bs):Kp w g w.drew g:=
 ⟨rfl,rfl,rfl,Nat.le_refl _,fun b r h _=>⟨rfl,h⟩,fun b o a h _=>⟨fun _ _=>rfl,.inl ⟨o,a,h,Nat.le_refl _⟩⟩⟩
theorem Fu(w:World)(g:Nat)(c:Array Value)(k:Nat)(h:k≠g):(w.setRow g c).heap[k]?=w.heap[k]?:=by
 simp only[World.setRow,Array.getElem?_modify];rw[if_neg (by omega)]
theorem Kp.setRow{B:Nat}{o:Ow}(h:g B = .ow o 0)(c:Array Value):Kp w g (w.setRow B c) g:=by
 refine⟨rfl,rfl,rfl,by simp[World.setRow],fun b r a i=>⟨Fu w B c b (fun e=>by rw[e,h]at a;cases a),a⟩,fun b q d a i=>⟨fun j k=>?_,.inl ⟨q,d,a,Nat.le_refl _⟩⟩⟩;by_cases e:b=B
 ·subst e;rw[h]at a;cases a;omega
 ·exact World.cell?_of_block (w:=w) (Fu w B c b e)
inductive Cv where
 | v (x:Value)
 | s (fl:Fl) (k n:Nat) (f:Nat->Nat->Tr)
 | h (i:Nat)
 | p (i o:Nat)
 | e (i k a j:Nat)
 | q (fl:Fl) (k n:Nat) (f:Nat->Nat->Tr) (a j:Nat)
 | hs (i k lo n:Nat)
inductive Ob where
 | var (l:List Cv)
 | row (k n:Nat) (f:Nat->Nat->Tr)
 | dead
 | tl (k n:Nat) (f:Nat->Nat->Tr)
inductive Av where
 | m (g:Bool) (l:List Cv)
 | t (l:List (Bool×List Cv))
structure St where
 tm:List (Nat×Bool×Av)
 ob:List (Nat×Ob)
def get{α : Type}:List (Nat×α)->Nat->Option α
 | [],_=>none
 | (e,x) :: r,d=>if e=d then some x else get r d
def dlO{α : Type}:List (Nat×α)->Nat->List (Nat×α)
 | [],_=>[]
 | (e,x) :: r,d=>if e=d then dlO r d else(e,x) :: dlO r d
theorem Q6{α : Type}(d e:Nat):∀l:List (Nat×α),get (dlO l d) e=if d=e then none else get l e
 | []=>by simp[dlO,get]
 | (c,x) :: r=>by
  simp only[dlO];by_cases h:c=d
  ·rw[if_pos h,Q6 d e r];by_cases a:d=e
   ·simp[a]
   ·simp only[if_neg a,get];rw[if_neg (fun b=>a (h.symm.trans b))]
  ·rw[if_neg h];simp only[get];by_cases a:c=e
   ·rw[if_pos a,if_pos a,if_neg (fun b=>h (a.trans b.symm))]
   ·rw[if_neg a,if_neg a,Q6 d e r]
def put{α : Type}(l:List (Nat×α))(d:Nat)(x:α):List (Nat×α):=(d,x) :: dlO l d
variable{α:Type}
theorem B8(l:List (Nat×α))(d e:Nat)(x:α):get (put l d x) e=if d=e then some x else get l e:=by
 unfold put;simp only[get];by_cases h:d=e
 ·simp[h]
 ·rw[if_neg h,if_neg h,Q6,if_neg h]
structure En where
 g:Nat->Bs
 bl:Nat->Nat
 hv:Nat->Value
def CvR(w:World)(E:En)(D:Nat->Prop):Cv->Value->Prop
 | .v x,y=>y=x/\x.oneCell'=true
 | .s fl k n f,y=>Sh w E.g (.s fl k n f) y
 | .h i,y=>D i/\y=E.hv i/\y.oneCell'=true
 | .p i o,y=>D i/\y = .pointer (some ⟨E.bl i,o,none⟩)
 | .e i k a j,y=>D i/\y = .pointer (some ⟨E.bl i,a*k+j,none⟩)
 | .q fl k n f a j,y=>a<n/\∃b o,y = .pointer (some ⟨b,o+(a*k+j),none⟩)/\Sh w E.g (.s fl k n f) (.slice (some ⟨b,o,none⟩) n n)
 | .hs i k lo n,y=>D i/\∃a c,y = .slice a n c/\(0<n->a=some ⟨E.bl i,lo*k,none⟩)
variable{E:En}{D:Nat->Prop}
theorem CvR.one{x:Cv}(h:CvR w E D x y):y.oneCell'=true:=by
 cases x with
 | v x=>exact h.1▸h.2
 | s fl k n f=>exact Sh.one h
 | h i=>exact h.2.2
 | p i o=>rw[h.2];rfl
 | e i k a j=>rw[h.2];rfl
 | q fl k n f a j=>obtain⟨_,b,o,rfl,_⟩:=h;rfl
 | hs i k lo n=>obtain⟨_,a,c,rfl,_⟩:=h;rfl
structure AV (D:Nat->Prop) (w:World) (E:En) (w':World) (E':En):Prop where
 kp:Kp w E.g w' E'.g
 bl:∀i,D i->E'.bl i=E.bl i
 hv:∀i,D i->E'.hv i=E.hv i
theorem AV.refl(D:Nat->Prop)(w:World)(E:En):AV D w E w E:=⟨Kp.refl _ _,fun _ _=>rfl,fun _ _=>rfl⟩
variable{D':Nat->Prop}{E':En}
theorem CvR.ext(h:AV D w E w' E')(g:∀i,D i->D' i){x:Cv}(d:CvR w E D x y):CvR w' E' D' x y:=by
 cases x with
 | v x=>exact d
 | s fl k n f=>exact Sh.kp h.kp d
 | h i=>exact⟨g i d.1,by rw[h.hv i d.1];exact d.2.1,d.2.2⟩
 | p i o=>exact⟨g i d.1,by rw[h.bl i d.1];exact d.2⟩
 | e i k a j=>exact⟨g i d.1,by rw[h.bl i d.1];exact d.2⟩
 | q fl k n f a j=>obtain⟨l,b,o,e,hs⟩:=d;exact⟨l,b,o,e,hs.kp h.kp⟩
 | hs i k lo n=>obtain⟨hi,a,c,e,l⟩:=d;exact⟨g i hi,a,c,e,fun m=>by rw[h.bl i hi];exact l m⟩
inductive AN {α β : Type} (R:α->β->Prop):List α->List β->Prop where
 | nil:AN R [] []
 | cons {a:α} {b:β} {l:List α} {m:List β} (h:R a b) (t:AN R l m):AN R (a :: l) (b :: m)
variable{β:Type}
theorem AN.length{R:α->β->Prop}{l:List α}{m:List β}(h:AN R l m):l.length=m.length:=by
 induction h with
 | nil=>rfl
 | cons _ _ ih=>simp[ih]
theorem AN.at{R:α->β->Prop}{l:List α}{m:List β}(h:AN R l m):∀{j:Nat} {x:α},l[j]?=some x->∃y,m[j]?=some y/\R x y:=by
 induction h with
 | nil=>intro j x a;simp at a
 | cons hab _ ih=>
  intro j x a;cases j with
  | zero=>simp at a;exact⟨_,rfl,a▸hab⟩
  | succ j=>simpa using ih (by simpa using a)
theorem AN.drop{R:α->β->Prop}{l:List α}{m:List β}(h:AN R l m):∀n,AN R (l.drop n) (m.drop n):=by
 induction h with
 | nil=>intro n;simpa using .nil
 | cons hab t ih=>
  intro n;cases n with
  | zero=>exact .cons hab t
  | succ n=>exact ih n
theorem AN.take{R:α->β->Prop}{l:List α}{m:List β}(h:AN R l m):∀n,AN R (l.take n) (m.take n):=by
 induction h with
 | nil=>intro n;simpa using .nil
 | cons hab t ih=>
  intro n;cases n with
  | zero=>exact .nil
  | succ n=>exact .cons hab (ih n)
theorem AN.append{R:α->β->Prop}{l:List α}{m:List β}(h:AN R l m){l':List α}{m':List β}(a:AN R l' m'):AN R (l ++ l') (m ++ m'):=by
 induction h with
 | nil=>exact a
 | cons hab t ih=>exact .cons hab ih
theorem AN.of{α β : Type}{R:α->β->Prop}:∀{l:List α} {m:List β},l.length=m.length->(∀(j:Nat) (x:α) (y:β),l[j]?=some x->m[j]?=some y->R x y)->AN R l m
 | [],[],_,_=>.nil
 | a :: l,b :: m,h,hr=>.cons (hr 0 a b rfl rfl) (AN.of (by simpa using h) (fun j x y c d=>hr (j+1) x y (by simpa using c) (by simpa using d)))
 | [],_ :: _,h,_=>by simp at h
 | _ :: _,[],h,_=>by simp at h
def CsR(w:World)(E:En)(D:Nat->Prop)(l:List Cv)(c:List Value):Prop:=AN (CvR w E D) l c
def VlR(w:World)(E:En)(D:Nat->Prop)(g:Bool)(l:List Cv)(y:Value):Prop:=
 match g with
 | true=>∃cs:List Value,y = .agg cs.toArray/\CsR w E D l cs
 | false=>∃x,l = [x]/\CvR w E D x y
def AvR(w:World)(E:En)(D:Nat->Prop):Av->Value->Prop
 | .m g l,y=>VlR w E D g l y
 | .t l,y=>∃vs:List Value,y = .tuple vs.toArray/\AN (fun (q:Bool×List Cv) u=>VlR w E D q.1 q.2 u) l vs
variable{l:List Cv}{c:List Value}
theorem CsR.ext(h:AV D w E w' E')(b:∀i,D i->D' i)(d:CsR w E D l c):CsR w' E' D' l c:=by
 unfold CsR at *
 induction d with
 | nil=>exact .nil
 | cons a _ ih=>exact .cons (a.ext h b) ih
variable{g:Bool}
theorem VlR.ext(h:AV D w E w' E')(b:∀i,D i->D' i)(c:VlR w E D g l y):VlR w' E' D' g l y:=by
 cases g with
 | true=>obtain⟨cs,e,a⟩:=c;exact⟨cs,e,a.ext h b⟩
 | false=>obtain⟨x,e,a⟩:=c;exact⟨x,e,a.ext h b⟩
theorem AvR.ext(h:AV D w E w' E')(b:∀i,D i->D' i){x:Av}(c:AvR w E D x y):AvR w' E' D' x y:=by
 cases x with
 | m g l=>exact VlR.ext h b c
 | t l=>
  obtain⟨vs,e,d⟩:=c;refine⟨vs,e,?_⟩;clear e
  induction d with
  | nil=>exact .nil
  | cons a _ ih=>exact .cons (a.ext h b) ih
theorem VlR.cells(h:VlR w E D g l y):CsR w E D l y.cells.toList:=by
 cases g with
 | true=>obtain⟨cs,rfl,a⟩:=h;simpa[Value.cells]using a
 | false=>
  obtain⟨x,rfl,a⟩:=h;have b:=a.one;have:y.cells=#[y]:=by cases y<;>first | rfl | (simp[Value.oneCell']at b)
  rw[this];exact AN.cons a AN.nil
theorem CsR.one(h:CsR w E D l c):∀u∈c,u.oneCell'=true:=by
 unfold CsR at h
 induction h with
 | nil=>intro u b;cases b
 | cons a _ ih=>
  intro u b;cases b with
  | head=>exact a.one
  | tail _ hm=>exact ih u hm
def By(w:World)(g:Nat->Bs)(B j:Nat):Tr->Value->Prop
 | .s .o k n f,u=>∃a c,u = .slice a n c/\(0<c->∃b,a=some ⟨b,0,none⟩/\g b = .ow (.tl B j) (n*k)/\∃cs t,w.heap[b]?=some (.cells cs t (0,0))/\cs.size=c*k)
 | _,_=>True
def ObR(w:World)(E:En)(D:Nat->Prop)(i:Nat):Ob->Prop
 | .var l=>E.g (E.bl i) = .ow (.nm i) 0/\∃(c:List Value) (t:TypeId),w.heap[E.bl i]?=some (.cells c.toArray t (0,0))/\CsR w E D l c
 | .row k n f=>∃a cap,E.hv i = .slice a n cap/\n<=cap/\(0<cap->a=some ⟨E.bl i,0,none⟩/\E.g (E.bl i) = .ow (.nm i) 0/\∃(c:List Value) (t:TypeId),w.heap[E.bl i]?=some (.cells c.toArray t (0,0))/\c.length=cap*k/\
   ∀p j,p<n->j<k->∃u,c[p*k+j]?=some u/\Sh w E.g (f p j) u/\By w E.g (E.bl i) (p*k+j) (f p j) u)
 | .dead=>True
 | .tl k n f=>∃a cap,E.hv i = .slice a n cap/\n<=cap/\(0<cap->a=some ⟨E.bl i,0,none⟩/\E.g (E.bl i) = .ow (.nm i) (n*k)/\∃(c:List Value) (t:TypeId),w.heap[E.bl i]?=some (.cells c.toArray t (0,0))/\c.length=cap*k/\
   ∀p j,p<n->j<k->∃u,c[p*k+j]?=some u/\Sh w E.g (f p j) u)
theorem ObR.ext(h:AV D w E w' E')(U:∀i,D i->D' i)(hi:D i){X:Nat->Prop}
 (G:∀b,b<w.heap.size->¬X b->w'.heap[b]?=w.heap[b]?/\E'.g b=E.g b) (H:∀b q,X b->E.g b≠.ow (.nm i) q) (T:E.g (E.bl i) = .ow (.nm i) 0->∀b j q,X b->E.g b≠.ow (.tl (E.bl i) j) q) {o:Ob} (M:ObR w E D i o):ObR w' E' D' i o:=by
 cases o with
 | dead=>trivial
 | var l=>
  obtain⟨e,c,t,m,B⟩:=M;obtain⟨r,y⟩:=G _ (Array.getElem?_eq_some_iff.1 m).1 (fun x=>H _ _ x e);refine⟨by rw[h.bl i hi,y];exact e,c,t,by rw[h.bl i hi,r];exact m,B.ext h U⟩
 | row k n f=>
  obtain⟨a,cap,hv,hn,B⟩:=M;refine⟨a,cap,by rw[h.hv i hi];exact hv,hn,fun A=>?_⟩;obtain⟨I,e,c,t,m,L,d⟩:=B A;obtain⟨r,y⟩:=G _ (Array.getElem?_eq_some_iff.1 m).1 (fun x=>H _ _ x e);refine⟨by rw[h.bl i hi];exact I,by rw[h.bl i hi,y];exact e,c,t,by rw[h.bl i hi,r];exact m,L,fun p j N K=>?_⟩;obtain⟨u,P,hs,W⟩:=d p j N K;refine⟨u,P,hs.kp h.kp,?_⟩;rw[h.bl i hi];revert W;cases f p j with
  | v x=>exact id
  | s fl k' n' f'=>
   cases fl with
   | b=>exact id
   | z=>exact id
   | o=>
    rintro⟨Q,c',rfl,J⟩;refine⟨Q,c',rfl,fun A=>?_⟩;obtain⟨b,V,F,cs,Y,C,O⟩:=J A;obtain⟨R,S⟩:=G b (Array.getElem?_eq_some_iff.1 C).1 (fun x=>T e _ _ _ x F);exact⟨b,V,by rw[S];exact F,cs,Y,by rw[R];exact C,O⟩
 | tl k n f=>
  obtain⟨a,cap,hv,hn,B⟩:=M;refine⟨a,cap,by rw[h.hv i hi];exact hv,hn,fun A=>?_⟩;obtain⟨I,e,c,t,m,L,d⟩:=B A;obtain⟨r,y⟩:=G _ (Array.getElem?_eq_some_iff.1 m).1 (fun x=>H _ _ x e);exact⟨by rw[h.bl i hi];exact I,by rw[h.bl i hi,y];exact e,c,t,by rw[h.bl i hi,r];exact m,L,fun p j N K=>let ⟨u,P,hs⟩:=d p j N K;⟨u,P,hs.kp h.kp⟩⟩
def dom(ob:List (Nat×Ob))(i:Nat):Prop:=(get ob i).isSome=true
def AR(w:World)(E:En)(ob:List (Nat×Ob)):Prop:=∀i o,get ob i=some o->ObR w E (dom ob) i o
def TmR(w:World)(E:En)(D:Nat->Prop)(tm:List (Nat×Bool×Av))(a:Act):Prop:=
 ∀d c av,get tm d=some (c,av)->(c=true->AvR w E D av (a.tmps.getD d undef))/\(c=false->a.tmps.getD d undef=undef)
structure Gh where
 g:Nat->Bs
 pin:Option Nat
structure FS (w0:World) (g0:Gh) (N:Nat) (S:St) (a:Act) (w:World) (E:En):Prop where
 kp:Kp w0 g0.g w E.g
 tm:TmR w E (dom S.ob) S.tm a
 ob:AR w E S.ob
 df:a.defers = []
 sz:a.tmps.size=N
 b0:∀B,g0.pin=some B->dom S.ob 0/\E.bl 0=B
def Rel(w0:World)(g0:Gh)(N:Nat)(S:St)(a:Act)(w:World):Prop:=∃E,FS w0 g0 N S a w E
variable{a:Act}
theorem zFN{d e:Nat}{v:Value}(b:d<a.tmps.size):(a.put (some d) v).tmps.getD e undef=if d=e then v else a.tmps.getD e undef:=by
 simp only[Act.put,Array.getD_eq_getD_getElem?,Array.getElem?_setIfInBounds];by_cases h:d=e
 ·subst h;simp[b]
 ·simp[h]
variable{ob:List (Nat×Ob)}
theorem BI{o:Ob}(h:dom ob j):dom (put ob i o) j:=by
 unfold dom at *;rw[B8];split
 ·rfl
 ·exact h
variable{ob':List (Nat×Ob)}
theorem FS.next{w0:World}{g0:Gh}{N:Nat}{S:St}(h:FS w0 g0 N S a w E)(m:AV (dom S.ob) w E w' E')(n:∀i,dom S.ob i->dom ob' i)(s:AR w' E' ob')
 {d:Nat} (t:d<N) {c:Bool} {av:Av} (j:c=true->AvR w' E' (dom ob') av y) (l:c=false->y=undef) :
 FS w0 g0 N ⟨put S.tm d (c,av),ob'⟩ (a.put (some d) y) w' E':=by
 refine⟨h.kp.trans m.kp,fun e c' k b=>?_,s,h.df,by simpa[Act.put]using h.sz,fun B q=>let ⟨j,l⟩:=h.b0 B q;⟨n 0 j,(m.bl 0 j).trans l⟩⟩;have hs:=h.sz;rw[zFN (by omega)];rw[B8]at b;by_cases g:d=e
 ·rw[if_pos g]at b ⊢;simp only[Option.some.injEq,Prod.mk.injEq]at b;obtain⟨rfl,rfl⟩:=b;exact⟨j,l⟩
 ·rw[if_neg g]at b ⊢;obtain⟨o,p⟩:=h.tm e c' k b;exact⟨fun r=>(o r).ext m n,p⟩
theorem FS.quiet{w0:World}{g0:Gh}{N:Nat}{S:St}(h:FS w0 g0 N S a w E)(c:AV (dom S.ob) w E w' E')(d:∀i,dom S.ob i->dom ob' i)(l:AR w' E' ob') :
 FS w0 g0 N ⟨S.tm,ob'⟩ a w' E':=
 ⟨h.kp.trans c.kp,fun e c' b g=>⟨fun k=>((h.tm e c' b g).1 k).ext c d,(h.tm e c' b g).2⟩,l,h.df,h.sz,fun B j=>let ⟨h1,h2⟩:=h.b0 B j;⟨d 0 h1,(c.bl 0 h1).trans h2⟩⟩
theorem AR.new(h:AR w E ob)(hi:get ob i=none){o:Obj}{b:Ob}{hv:Value}
 (hn:∀D,(∀j,dom ob j->D j)->AV (dom ob) w E (w.alloc o) ⟨fun b=>if b=w.heap.size then .ow (.nm i) 0 else E.g b,fun j=>if j=i then w.heap.size else E.bl j,fun j=>if j=i then hv else E.hv j⟩->
  ObR (w.alloc o) ⟨fun b=>if b=w.heap.size then .ow (.nm i) 0 else E.g b,fun j=>if j=i then w.heap.size else E.bl j,fun j=>if j=i then hv else E.hv j⟩ D i b) :
 AV (dom ob) w E (w.alloc o) ⟨fun b=>if b=w.heap.size then .ow (.nm i) 0 else E.g b,fun j=>if j=i then w.heap.size else E.bl j,fun j=>if j=i then hv else E.hv j⟩/\
 AR (w.alloc o) ⟨fun b=>if b=w.heap.size then .ow (.nm i) 0 else E.g b,fun j=>if j=i then w.heap.size else E.bl j,fun j=>if j=i then hv else E.hv j⟩ (put ob i b):=by
 have c:∀j,dom ob j->j≠i:=fun j a e=>by unfold dom at a;rw[e,hi]at a;cases a
 have d:AV (dom ob) w E (w.alloc o) ⟨fun b=>if b=w.heap.size then .ow (.nm i) 0 else E.g b,fun j=>if j=i then w.heap.size else E.bl j,fun j=>if j=i then hv else E.hv j⟩:=
  ⟨Kp.alloc _ _ _ _,fun j a=>if_neg (c j a),fun j a=>if_neg (c j a)⟩
 refine⟨d,fun j b' a=>?_⟩;rw[B8]at a;by_cases e:i=j
 ·subst e;rw[if_pos rfl]at a;cases a;exact hn _ (fun j a=>BI a) d
 ·rw[if_neg e]at a;have l:dom ob j:=(by unfold dom;rw[a];rfl);refine ObR.ext d (fun j a=>BI a) l (X:=fun _=>False) (fun b k _=>⟨Below.heap_alloc _ _ _ k,if_neg (by omega)⟩) (fun _ _ x=>x.elim) (fun _ _ _ _ x=>x.elim) (h j b' a)
theorem AR.set(h:AR w E ob)(hi:dom ob i)(m:E.g (E.bl i) = .ow (.nm i) 0){c:Array Value}{b:Ob}
 (hn:AV (dom ob) w E (w.setRow (E.bl i) c) E->ObR (w.setRow (E.bl i) c) E (dom (put ob i b)) i b) :
 AV (dom ob) w E (w.setRow (E.bl i) c) E/\AR (w.setRow (E.bl i) c) E (put ob i b):=by
 have o:AV (dom ob) w E (w.setRow (E.bl i) c) E:=⟨Kp.setRow m c,fun _ _=>rfl,fun _ _=>rfl⟩;refine⟨o,fun j b' d=>?_⟩;rw[B8]at d;by_cases e:i=j
 ·subst e;rw[if_pos rfl]at d;cases d;exact hn o
 ·rw[if_neg e]at d;have q:dom ob j:=(by unfold dom;rw[d];rfl);refine ObR.ext o (fun j d=>BI d) q (X:=fun k=>k=E.bl i) (fun k l n=>⟨Fu _ _ _ _ n,rfl⟩) (fun k p l a=>?_) (fun _ k r p l a=>?_) (h j b' d)
  ·rw[l,m]at a;cases a;exact e rfl
  ·rw[l,m]at a;cases a
structure TyD where
 k:Nat
 g:Bool
 z:List Value
 by':Nat
 fs:List (Nat×Nat)
 el:Nat
def JN(P:Program):TypeDesc->Bool×List (Nat×Nat)×Nat
 | .struct fs=>(true,fs.toList.map (fun f=>(f.offset,((P.info? f.type).map (·.size)).getD 0)),0)
 | .array _ _=>(true,[],0)
 | .slice e=>(false,[],e)
 | _=>(false,[],0)
def qy(P:Program)(t:Nat):Bool:=match P.underlying t with
 | some (.struct _)=>true
 | some (.array _ _)=>true
 | _=>false
def yv(P:Program):TypeDesc->Bool
 | .struct fs=>fs.toList.all fun f=>(P.underlying f.type).isSome && qy P f.type == (((P.info? f.type).map (·.size)).getD 0 != 1)
 | _=>true
def TyD.zv(d:TyD):Value:=if d.g then .agg d.z.toArray else d.z.headD (.bool false)
structure B1 (P:Program) (t:Nat) (d:TyD):Prop where
 info:(P.info? t).map (fun i=>(i.size,i.zero,i.bytes))=some (d.k,some d.zv,d.by')
 und:(P.underlying t).map (JN P)=some (d.g,d.fs,d.el)
 fz:d.fs.all (fun q=>q.2 != 0)=true
 one:d.z.all Value.oneCell'=true
 len:d.z.length=d.k
 gk:d.g=false->d.k=1
 pos:0<d.k
 Bo:d.by'<=1024
 fa:(P.underlying t).map (yv P)=some true
section
variable {P : Program} {t : Nat} {d : TyD}
theorem B1.get(h:B1 P t d):∃i,P.info? t=some i/\i.size=d.k/\i.zero=some d.zv/\i.bytes=d.by':=by
 have:=h.info;cases hi:P.info? t with
 | none=>rw[hi]at this;cases this
 | some i=>
  rw[hi]at this;simp only[Option.map_some,Option.some.injEq,Prod.mk.injEq]at this;exact⟨i,rfl,this.1,this.2.1,this.2.2⟩
theorem B1.dsc(h:B1 P t d):∃u,P.underlying t=some u/\JN P u=(d.g,d.fs,d.el):=by
 have:=h.und;cases hi:P.underlying t with
 | none=>rw[hi]at this;cases this
 | some i=>
  rw[hi]at this;simp only[Option.map_some,Option.some.injEq]at this;exact⟨i,rfl,this⟩
theorem B1.slice(h:B1 P t d)(a:d.el≠0):P.underlying t=some (.slice d.el):=by
 obtain⟨u,b,e⟩:=h.dsc;rw[b];cases u<;>simp only[JN,Prod.mk.injEq]at e<;>first | (exact absurd e.2.2.symm a) | (rw[e.2.2])
theorem B1.run_size(h:B1 P t d)(w:World):(sizeOf t).run P w = .ok d.k w:=by
 obtain⟨i,hi,hs,_⟩:=h.get;simp[sizeOf,typeInfo,hi,hs]
theorem B1.run_agg(h:B1 P t d)(w:World):(isAgg t).run P w = .ok d.g w:=by
 obtain⟨u,a,e⟩:=h.dsc;unfold isAgg;rw[Sem.run_bind,run_underlying a];cases u<;>simp only[JN,Prod.mk.injEq]at e<;>simp[e.1]
theorem B1.run_zero(h:B1 P t d)(w:World):(zeroValue t).run P w = .ok d.zv w:=by
 obtain⟨i,hi,_,a,_⟩:=h.get;simp[zeroValue,typeInfo,hi,a]
theorem B1.zcells(h:B1 P t d):d.zv.cells=d.z.toArray:=by
 unfold TyD.zv;cases hg:d.g with
 | true=>rfl
 | false=>
  have c:=h.gk hg;have b:=h.len;rw[c]at b;have a:=h.one
  match hz:d.z,b with
  | [x],_=>
   rw[hz]at a;simp only[List.all_cons,List.all_nil,Bool.and_true]at a;cases x<;>first | rfl | (simp[Value.oneCell']at a)
theorem Gf(b o j:Nat):(⟨b,o,none⟩:Addr).add j=⟨b,o+j,none⟩:=by
 unfold Addr.add;split
 ·simp_all
 ·rfl
variable{o:Nat}{cs:List Value}
theorem B1.run_load(h:B1 P t d){b:Nat}(a:cs.length=d.k)(c:∀j u,cs[j]?=some u->w.cell? ⟨b,o+j,none⟩=some u) :
 (Instr.loadAt t (.pointer (some ⟨b,o,none⟩))).run P w = .ok (if d.g then .agg cs.toArray else cs.headD (.bool false)) w:=by
 unfold Instr.loadAt loadVar;simp only[Instr.sureAddr,Sem.run_bind,Sem.run_pure,Result.andThen_ok,h.run_agg];cases hg:d.g with
 | true=>
  have:=run_loadCells_list (P:=P) w ⟨b,o,none⟩ cs (fun j v i=>by rw[Gf];exact c j v i);rw[a]at this;simp[h.run_size,this]
 | false=>
  have e:=h.gk hg;rw[e]at a
  match cs,a with
  | [x],_=>
   have:=c 0 x rfl;simp only[Nat.add_zero]at this;simp[load,Sem.run,this]
theorem B1.run_store(h:B1 P t d){B:Nat}{T:TypeId}(e:w.heap[B]?=some (.cells c.toArray T (0,0)))(a:y.cells.size=d.k)(g:o+d.k<=c.length)(b:∀u∈y.cells.toList,u.oneCell'=true) :
 (Instr.storeAt t (.pointer (some ⟨B,o,none⟩)) y).run P w = .ok () (w.setRow B (c.take o ++ y.cells.toList ++ c.drop (o+d.k)).toArray):=by
 have:=run_storeCells_at P B o T y.cells.toList 0 c.toArray w e (by simp[a];exact g) b;simp only[Nat.add_zero]at this;unfold Instr.storeAt storeVar;simp only[Instr.sureAddr,Sem.run_bind,Sem.run_pure,Result.andThen_ok,h.run_size,a,ne_eq,not_true_eq_false,if_false];rw[this];simp[a]
variable{q:Nat×Nat}
theorem B1.run_field(h:B1 P t d){f:Nat}(g:d.fs[f]?=some q)(w:World)(b o:Nat) :
 (Instr.fieldAt t (.pointer (some ⟨b,o,none⟩)) f).run P w = .ok (.pointer (some ⟨b,o+q.1,none⟩)) w:=by
 obtain⟨u,n,e⟩:=h.dsc;have l:=h.fz;have k:d.fs≠[]:=fun m=>by rw[m]at g;cases g
 cases u<;>simp only[JN,Prod.mk.injEq]at e<;>first | (exact absurd e.2.1.symm k) | skip
 rename_i p
 rw[<-e.2.1]at g l;simp only[List.getElem?_map,Option.map_eq_some_iff,Array.getElem?_toList]at g;obtain⟨a,j,rfl⟩:=g;have c:(((P.info? a.type).map (·.size)).getD 0 != 0)=true:=by
  rw[List.all_eq_true]at l;exact l (a.offset,((P.info? a.type).map (·.size)).getD 0) (List.mem_map.2 ⟨a,by rw[Array.mem_toList_iff];exact Array.mem_of_getElem? j,rfl⟩)
 cases hi:P.info? a.type with
 | none=>rw[hi]at c;cases c
 | some i=>
  rw[hi]at c;simp only[Option.map_some,Option.getD_some,bne_iff_ne,ne_eq]at c;unfold Instr.fieldAt;rw[Sem.run_bind,run_underlying n];simp[j,Instr.sureAddr,fieldPlace,sizeOf,typeInfo,hi,c,Gf]
theorem B1.run_part(h:B1 P t d){f:Nat}(k:d.fs[f]?=some q)(w:World)(z:q.1+q.2<=cs.length) :
 (Instr.field t (.agg cs.toArray) f).run P w = .ok (if q.2=1 then cs.getD q.1 (.bool false)else .agg ((cs.drop q.1).take q.2).toArray) w:=by
 obtain⟨u,v,e⟩:=h.dsc;have r:=h.fz;have c:=h.fa;have p:d.fs≠[]:=fun x=>by rw[x]at k;cases k
 cases u<;>simp only[JN,Prod.mk.injEq]at e<;>first | (exact absurd e.2.1.symm p) | skip
 rename_i y
 rw[v]at c;rw[<-e.2.1]at k r;simp only[List.getElem?_map,Option.map_eq_some_iff,Array.getElem?_toList]at k;obtain⟨a,l,rfl⟩:=k;have b:a∈y.toList:=by rw[Array.mem_toList_iff];exact Array.mem_of_getElem? l
 have m:(((P.info? a.type).map (·.size)).getD 0 != 0)=true:=by
  rw[List.all_eq_true]at r;exact r (a.offset,((P.info? a.type).map (·.size)).getD 0) (List.mem_map.2 ⟨a,b,rfl⟩)
 simp only[Option.map_some,Option.some.injEq,yv,List.all_eq_true]at c;have g:=c a b;simp only[Bool.and_eq_true,beq_iff_eq]at g;cases hi:P.info? a.type with
 | none=>rw[hi]at m;cases m
 | some i=>
  rw[hi]at m g;simp only[Option.map_some,Option.getD_some,bne_iff_ne,ne_eq]at m g;simp only[hi,Option.map_some,Option.getD_some]at z;cases hun:P.underlying a.type with
  | none=>rw[hun]at g;cases g.1
  | some un=>
   have n:(isAgg a.type).run P w = .ok (i.size != 1) w:=by
    rw[<-g.2];unfold isAgg qy;rw[Sem.run_bind,run_underlying hun,hun];cases un<;>rfl
   unfold Instr.field;rw[Sem.run_bind,run_underlying v];simp only[Result.andThen_ok,l,Option.map_some,Option.getD_some];have j:(asAgg (.agg cs.toArray)).run P w = .ok cs.toArray w:=rfl;rw[Sem.run_bind,j];simp only[Result.andThen_ok,part,Sem.run_bind,n];by_cases s:i.size=1
   ·have o:a.offset<cs.length:=(by omega);simp[s,o]
   ·simp[s,sizeOf,typeInfo,hi,List.take_drop]
theorem B1.run_index(h:B1 P t d)(i:d.el≠0){de:TyD}(a:B1 P d.el de){b n c:Nat}{K:IntKind}{ix:Int}(e:0<=ix)(g:ix<n) :
 (Instr.indexAt t (.slice (some ⟨b,o,none⟩) n c) (.int K ix)).run P w = .ok (.pointer (some ⟨b,o+ix.toNat*de.k,none⟩)) w:=by
 unfold Instr.indexAt;simp[asIntOf,run_underlying (h.slice i),e,g,a.run_size,Gf]
theorem B1.run_alloc(h:B1 P t d)(w:World):(Instr.alloc t true (.tuple #[])).run P w = .ok (.pointer (some ⟨w.heap.size,0,none⟩)) (w.alloc (.cells d.z.toArray t)):=by
 unfold Instr.alloc;simp[h.run_zero,newVar,newRow,h.zcells]
theorem zGg(t:Nat)(y:Value)(w:World):(Instr.box t y).run P w = .ok (.pointer (some ⟨w.heap.size,0,none⟩)) (w.alloc (.cells y.cells t)):=by
 simp[Instr.box,newVar,newRow]
end
structure Tb where
 ty:Nat->Option TyD
 bt:Nat
 pt:Nat
 sx:Nat
 tk:Nat
 mv:Nat
 by':Nat
 u8:Nat
 ik:Nat->Option IntKind
structure DI (P:Program) (T:Tb):Prop where
 ok:∀t d,T.ty t=some d->B1 P t d
 hb:P.underlying T.bt=some .bool
 hs:P.underlying T.sx=some .string
 hp:∀(a b c d:Int) (w:World),(Op.equal T.pt (.agg #[.int .i64 a,.int .i64 b]) (.agg #[.int .i64 c,.int .i64 d])).run P w = .ok (a == c && b == d) w
 hg:P.eqGuardType P.depth T.pt=false
 hby:P.underlying T.by'=some (.slice T.u8)
 hu8:P.underlying T.u8=some (.int .u8)
 hik:∀t k,T.ik t=some k->P.underlying t=some (.int k)
structure Dl where
 c:Prop
 av:Option Av
 ob:List (Nat×Ob)
 nw:Bool
def Bj(op:BinOp)(k:IntKind)(a:Int)(k':IntKind)(b:Int):Option (Prop×Value):=
 match op with
 | .shl=>some (0<=b,.int k (k.wrap (a*2 ^ (min b.toNat k.bits))))
 | .shr=>some (0<=b,.int k (a.fdiv (2 ^ (min b.toNat k.bits))))
 | .add=>if k=k' then some (True,.int k (k.wrap (a+b)))else none
 | .sub=>if k=k' then some (True,.int k (k.wrap (a - b)))else none
 | .mul=>if k=k' then some (True,.int k (k.wrap (a*b)))else none
 | .quo=>if k=k' then some (b≠0,.int k (k.wrap (a.tdiv b)))else none
 | .rem=>if k=k' then some (b≠0,.int k (a.tmod b))else none
 | .xor=>if k=k' then some (True,.int k (k.wrap ((BitVec.ofInt k.bits a ^^^ BitVec.ofInt k.bits b).toNat)))else none
 | .eql=>if k=k' then some (True,.bool (a == b))else none
 | .neq=>if k=k' then some (True,.bool (a != b))else none
 | .lss=>if k=k' then some (True,.bool (decide (a<b)))else none
 | .leq=>if k=k' then some (True,.bool (decide (a<=b)))else none
 | .gtr=>if k=k' then some (True,.bool (decide (a>b)))else none
 | .geq=>if k=k' then some (True,.bool (decide (a>=b)))else none
 | _=>none
variable{P:Program}{op:BinOp}{c:Prop}{v:Value}
theorem zHD{k k':IntKind}{a b:Int}(h:Bj op k a k' b=some (c,v))(d:c)(t:Nat)(x y:Operand)(w:World) :
 (do eqGuard op t x y (.int k a) (.int k' b);binOp op t (.int k a) (.int k' b):Sem Value).run P w = .ok v w/\v.oneCell'=true:=by
 unfold Bj at h;cases op<;>dsimp only at h<;>(try split at h)<;>(try (cases h;done))<;>(simp only[Option.some.injEq,Prod.mk.injEq]at h;obtain⟨rfl,rfl⟩:=h)<;>(try subst_vars)<;>(try (have e:=Int.not_lt.2 d)) <;>
  simp_all[eqGuard,binOp,Op.shift,Op.intArith,Op.intDiv,Op.intBits,Op.intCmp,Value.oneCell']<;>(intro g;omega)
def PA(op:BinOp)(a b:ByteArray):Option (Prop×Value):=
 match op with
 | .add=>some (a.size+b.size<=1000000000,.string (a ++ b))
 | .eql=>some (True,.bool (a.toList == b.toList))
 | .neq=>some (True,.bool (!(a.toList == b.toList)))
 | .lss=>some (True,.bool (Op.bytesLess a.toList b.toList))
 | .geq=>some (True,.bool (!Op.bytesLess a.toList b.toList))
 | _=>none
theorem zHE{a b:ByteArray}(h:PA op a b=some (c,v))(d:c)(t:Nat)(x y:Operand)(w:World) :
 (do eqGuard op t x y (.string a) (.string b);binOp op t (.string a) (.string b):Sem Value).run P w = .ok v w/\v.oneCell'=true:=by
 unfold PA at h;cases op<;>dsimp only at h<;>(try (cases h;done))<;>(simp only[Option.some.injEq,Prod.mk.injEq]at h;obtain⟨rfl,rfl⟩:=h) <;>
  simp[eqGuard,binOp,Op.stringOp,Value.oneCell']
 omega
variable{t:Nat}
theorem YJ(h:P.underlying t=some .bool)(a b:Bool)(w:World):(Op.equal t (.bool a) (.bool b)).run P w = .ok (a == b) w:=by
 show(Op.equalIn (9999+1) t (.bool a) (.bool b)).run P w=_;rw[Op.equalIn,Sem.run_bind,run_underlying h];rfl
def bin(T:Tb)(op:BinOp)(t:Nat):Av->Av->Option (Prop×Value)
 | .m false [.v (.int k a)],.m false [.v (.int k' b)]=>Bj op k a k' b
 | .m false [.v (.string a)],.m false [.v (.string b)]=>PA op a b
 | .m false [.v (.bool a)],.m false [.v (.bool b)]=>
  if t=T.bt then match op with
   | .eql=>some (True,.bool (a == b))
   | .neq=>some (True,.bool (!(a == b)))
   | _=>none
  else none
 | .m true [.v (.int .i64 a),.v (.int .i64 b)],.m true [.v (.int .i64 c),.v (.int .i64 d)]=>
  if t=T.pt then match op with
   | .eql=>some (True,.bool (a == c && b == d))
   | .neq=>some (True,.bool (!(a == c && b == d)))
   | _=>none
  else none
 | _,_=>none
variable{x:Cv}
theorem vl1(h:AvR w E D (.m false [x]) y):CvR w E D x y:=by
 obtain⟨a,e,h⟩:=h;cases e;exact h
theorem vl2{a b:Value}(h:AvR w E D (.m true [.v a,.v b]) y):y = .agg #[a,b]:=by
 obtain⟨cs,rfl,h⟩:=h;cases h with
 | cons h1 t=>
  cases t with
  | cons h2 t=>
   cases t;rw[h1.1,h2.1]
theorem zIM{T:Tb}(d:DI P T){p q:Av}(h:bin T op t p q=some (c,v))(j:c){a b:Value}(e:AvR w E D p a)(g:AvR w E D q b)(x y:Operand) :
 (do eqGuard op t x y a b;binOp op t a b:Sem Value).run P w = .ok v w/\v.oneCell'=true:=by
 unfold bin at h;split at h
 ·obtain⟨rfl,-⟩:=vl1 e;obtain⟨rfl,-⟩:=vl1 g;exact zHD h j t x y w
 ·obtain⟨rfl,-⟩:=vl1 e;obtain⟨rfl,-⟩:=vl1 g;exact zHE h j t x y w
 ·obtain⟨rfl,-⟩:=vl1 e;obtain⟨rfl,-⟩:=vl1 g;split at h
  ·rename_i i
   subst i;split at h<;>simp only[Option.some.injEq,Prod.mk.injEq,reduceCtorEq]at h
   ·obtain⟨-,rfl⟩:=h;simp[eqGuard,binOp,YJ d.hb,Value.oneCell']
   ·obtain⟨-,rfl⟩:=h;simp[eqGuard,binOp,YJ d.hb,Value.oneCell']
  ·cases h
 ·have k:=vl2 e;have l:=vl2 g;subst k l;split at h
  ·rename_i i
   subst i;split at h<;>simp only[Option.some.injEq,Prod.mk.injEq,reduceCtorEq]at h
   ·obtain⟨-,rfl⟩:=h;simp[eqGuard,binOp,d.hp,d.hg,Value.oneCell']
   ·obtain⟨-,rfl⟩:=h;simp[eqGuard,binOp,d.hp,d.hg,Value.oneCell']
  ·cases h
 ·cases h
def Tr.cv:Tr->Cv
 | .v x=>.v x
 | .s .b k n f=>.s .b k n f
 | .s _ k n f=>.s .z k n f
theorem Sh.cv{T:Tr}{u:Value}(h:Sh w E.g T u):CvR w E D T.cv u:=by
 cases T with
 | v x=>exact h
 | s fl k n f=>
  cases fl with
  | b=>exact h
  | z=>exact h
  | o=>
   obtain⟨a,c,e,hn,p⟩:=h;refine⟨a,c,e,hn,fun j=>?_⟩;obtain⟨b,o,l,m,d,i⟩:=p j;refine⟨b,o,l,m,?_,i⟩;cases hg:E.g b with
   | fz r=>rw[hg]at d;exact .inr (d.resolve_left (by simp))
   | ow q lim=>rw[hg]at d;exact d
variable{d:TyD}
theorem VlR.of{cs:List Value}(h:CsR w E D l cs)(a:cs.length=d.k)(b:d.g=false->d.k=1):VlR w E D d.g l (if d.g then .agg cs.toArray else cs.headD (.bool false)):=by
 cases e:d.g with
 | true=>exact⟨cs,by simp,h⟩
 | false=>
  rw[b e]at a;cases h with
  | nil=>simp at a
  | cons h1 t=>
   cases t with
   | nil=>exact⟨_,rfl,h1⟩
   | cons _ _=>simp at a
theorem Oj{w:World}{b o:Nat}{R:Cv->Value->Prop}(l:Nat->Cv):∀(m:Nat),(∀q,q<m->∃u,w.cell? ⟨b,o+q,none⟩=some u/\R (l q) u)->
 ∃cs:List Value,cs.length=m/\(∀j u,cs[j]?=some u->w.cell? ⟨b,o+j,none⟩=some u)/\AN R ((List.range m).map l) cs
 | 0,_=>⟨[],rfl,fun j u h=>by simp at h,.nil⟩
 | m+1,h=>by
  obtain⟨cs,c,g,e⟩:=Oj l m (fun q n=>h q (by omega));obtain⟨u,k,i⟩:=h m (by omega);refine⟨cs ++ [u],by simp[c],fun j v a=>?_,?_⟩
  ·rw[List.getElem?_append]at a;split at a
   ·exact g j v a
   ·rename_i hn
    have:j=m:=by
     have d:=(List.getElem?_eq_some_iff.1 a).1;simp at d;omega
    subst this;rw[c]at a;simp at a;rw[<-a];exact k
  ·rw[List.range_succ,List.map_append];exact e.append (.cons i .nil)
def evLoad(d:TyD)(ob:List (Nat×Ob)):Cv->Option (Prop×Av)
 | .p i o=>match get ob i with
  | some (.var l)=>if o+d.k<=l.length then some (True,.m d.g ((l.drop o).take d.k))else none
  | _=>none
 | .e i k a j=>match get ob i with
  | some (.row k' n f)=>if k'=k/\j+d.k<=k then some (a<n,.m d.g ((List.range d.k).map fun c=>(f a (j+c)).cv))else none
  | _=>none
 | .q fl k n f a j=>if j+d.k<=k then some (True,.m d.g ((List.range d.k).map fun c=>(f a (j+c)).cv))else none
 | _=>none
theorem Vl(h:B1 P t d)(L:AR w E ob){av:Av}(g:evLoad d ob x=some (c,av))(O:c)(J:CvR w E (dom ob) x y) :
 ∃z,(Instr.loadAt t y).run P w = .ok z w/\AvR w E (dom ob) av z:=by
 cases x with
 | v x=>cases g
 | s fl k n f=>cases g
 | h i=>cases g
 | hs i k lo n=>cases g
 | p i o=>
  simp only[evLoad]at g;split at g
  ·rename_i l hi
   split at g
   ·rename_i r
    simp only[Option.some.injEq,Prod.mk.injEq]at g;obtain⟨rfl,rfl⟩:=g;obtain⟨W,cs,T,H,B⟩:=L i _ hi;obtain⟨-,rfl⟩:=J;have K:=B.length;have A:((cs.drop o).take d.k).length=d.k:=(by simp;omega);refine⟨_,h.run_load A (fun j u C=>?_),VlR.of ((B.drop o).take d.k) A h.gk⟩;rw[cell_of_row w _ _ _ T _ H];rw[List.getElem?_take]at C;split at C
    ·rw[List.getElem?_drop]at C;simpa using C
    ·cases C
   ·cases g
  ·cases g
 | e i k a j=>
  simp only[evLoad]at g;split at g
  ·rename_i U n f hi
   split at g
   ·rename_i r
    simp only[Option.some.injEq,Prod.mk.injEq]at g;obtain⟨rfl,rfl⟩:=g;obtain⟨rfl,r⟩:=r;obtain⟨M,cap,hv,hn,D⟩:=L i _ hi;obtain⟨-,-,cs,T,H,X,m⟩:=D (by omega);obtain⟨-,rfl⟩:=J;obtain⟨vs,A,F,G⟩:=Oj (w:=w) (b:=E.bl i) (o:=a*U+j) (R:=CvR w E (dom ob)) (fun c=>(f a (j+c)).cv) d.k (fun q S=>by
     obtain⟨u,I,hs,-⟩:=m a (j+q) O (by omega);refine⟨u,?_,hs.cv⟩;rw[cell_of_row w _ _ _ T _ H];simpa[Nat.add_assoc]using I)
    exact⟨_,h.run_load A F,VlR.of G A h.gk⟩
   ·cases g
  ·cases g
 | q fl k n f a j=>
  simp only[evLoad]at g;split at g
  ·rename_i r
   simp only[Option.some.injEq,Prod.mk.injEq]at g;obtain⟨rfl,rfl⟩:=g;obtain⟨N,b,o,rfl,M,c',e,-,hs⟩:=J;cases e;obtain⟨b',o',e,V,Q,m⟩:=hs (by omega);cases e;obtain⟨vs,A,F,G⟩:=Oj (w:=w) (b:=b) (o:=o+(a*k+j)) (R:=CvR w E (dom ob)) (fun c=>(f a (j+c)).cv) d.k (fun q S=>by
    obtain⟨u,I,hs⟩:=m a (j+q) N (by omega);refine⟨u,?_,hs.cv⟩;simpa[Nat.add_assoc]using I)
   exact⟨_,h.run_load A F,VlR.of G A h.gk⟩
  ·cases g
def Cv.tr:Cv->Option Tr
 | .v x=>some (.v x)
 | .s .b k n f=>some (.s .b k n f)
 | .s _ k n f=>some (.s .z k n f)
 | _=>none
theorem Cv.tr_ok{T:Tr}{u:Value}(h:x.tr=some T)(a:CvR w E D x u):Sh w E.g T u/\∀B j,By w E.g B j T u:=by
 cases x with
 | v x=>cases h;exact⟨a,fun _ _=>trivial⟩
 | s fl k n f=>
  cases fl with
  | b=>cases h;exact⟨a,fun _ _=>trivial⟩
  | z=>cases h;exact⟨a,fun _ _=>trivial⟩
  | o=>cases h;exact⟨Sh.cv (D:=D) (T:=.s .o k n f) a,fun _ _=>trivial⟩
 | _=>cases h
def Ab(f:Nat->Nat->Tr)(a j:Nat)(l:List Tr):Nat->Nat->Tr:=fun p q=>if p=a/\j<=q/\q<j+l.length then l.getD (q - j) (.v (.bool false))else f p q
def trs:List Cv->Option (List Tr)
 | []=>some []
 | x :: r=>match x.tr,trs r with
  | some T,some l=>some (T :: l)
  | _,_=>none
theorem PR{w:World}{E:En}{D:Nat->Prop}:∀{l:List Cv} {m:List Tr} {ys:List Value},trs l=some m->CsR w E D l ys->AN (fun T u=>Sh w E.g T u/\∀B j,By w E.g B j T u) m ys
 | [],m,ys,h,hy=>by cases h;cases hy;exact .nil
 | x :: r,m,ys,h,hy=>by
  simp only[trs]at h;split at h
  ·rename_i T l hT hl
   cases h;cases hy with
   | cons h1 t=>exact .cons (Cv.tr_ok hT h1) (PR hl t)
  ·cases h
def evStore(d:TyD)(ob:List (Nat×Ob))(l:List Cv):Cv->Option (Prop×List (Nat×Ob))
 | .p i o=>match get ob i with
  | some (.var m)=>if o+d.k<=m.length/\l.length=d.k then some (True,put ob i (.var (m.take o ++ l ++ m.drop (o+d.k))))else none
  | _=>none
 | .e i k a j=>match get ob i,trs l with
  | some (.row k' n f),some ts=>if k'=k/\j+d.k<=k/\l.length=d.k then some (a<n,put ob i (.row k n (Ab f a j ts)))else none
  | _,_=>none
 | _=>none
theorem zIs(c y:List α)(o x:Nat)(h:o+y.length<=c.length):(c.take o ++ y ++ c.drop (o+y.length))[x]?=if o<=x/\x<o+y.length then y[x - o]? else c[x]?:=by
 rw[List.append_assoc,List.getElem?_append,List.getElem?_append];simp only[List.length_take,List.getElem?_take,List.getElem?_drop];have b:min o c.length=o:=by omega
 rw[b];by_cases a:x<o
 ·simp[a,show ¬(o<=x/\x<o+y.length)by omega]
 ·by_cases d:x<o+y.length
  ·simp[a,show x - o<y.length by omega,show o<=x/\x<o+y.length by omega]
  ·simp only[a,if_false,show ¬(x - o<y.length)by omega,show ¬(o<=x/\x<o+y.length)by omega];congr 1;omega
variable{k n:Nat}{f:Nat->Nat->Tr}
theorem XQ(U:AR w E ob)(hi:get ob i=some (.row k n f)){a:Nat}(ha:a<n){ts:List Tr}{us:List Value}(hl:ts.length=us.length)(hj:j+ts.length<=k)(V:0<ts.length)
 (h:∀(x:Nat) T u,ts[x]?=some T->us[x]?=some u->Sh w E.g T u/\By w E.g (E.bl i) (a*k+j+x) T u) :
 ∃(cs:List Value) (T:TypeId),w.heap[E.bl i]?=some (.cells cs.toArray T (0,0))/\a*k+j+us.length<=cs.length/\AV (dom ob) w E (w.setRow (E.bl i) (cs.take (a*k+j) ++ us ++ cs.drop (a*k+j+us.length)).toArray) E/\
  AR (w.setRow (E.bl i) (cs.take (a*k+j) ++ us ++ cs.drop (a*k+j+us.length)).toArray) E (put ob i (.row k n (Ab f a j ts))):=by
 obtain⟨X,cap,hv,hn,G⟩:=U i _ hi;obtain⟨K,M,cs,T,S,jA,m⟩:=G (by omega);have hd:dom ob i:=by unfold dom;rw[hi];rfl
 have iA:=Fg ha (show j+ts.length - 1<k by omega);have R:=Nat.mul_le_mul_right k hn;have l:a*k+j+us.length<=cs.length:=by omega
 have d:∀(c:Array Value) (B c':Nat) (T:Tr) (u:Value),By w E.g B c' T u->By (w.setRow (E.bl i) c) E.g B c' T u:=fun c B c' T u=>by
  cases T with
  | v x=>exact id
  | s fl k2 n2 f2=>
   cases fl with
   | b=>exact id
   | z=>exact id
   | o=>
    rintro⟨Y,Z,rfl,L⟩;refine⟨Y,Z,rfl,fun P=>?_⟩;obtain⟨b,hb,r,I,t2,F,H⟩:=L P;exact⟨b,hb,r,I,t2,by rw[Fu _ _ _ _ (fun e=>by rw[e,M]at r;cases r)];exact F,H⟩
 obtain⟨h1,h2⟩:=U.set hd M (c:=(cs.take (a*k+j) ++ us ++ cs.drop (a*k+j+us.length)).toArray) (b:=.row k n (Ab f a j ts)) (fun W=>by
  refine⟨X,cap,hv,hn,fun P=>⟨K,M,_,T,setRow_heap _ _ _ _ _ _ S,?_,fun p q V hq=>?_⟩⟩
  ·simp;omega
  ·rw[zIs cs us (a*k+j) (p*k+q) l];by_cases t:p=a/\j<=q/\q<j+ts.length
   ·obtain⟨rfl,h3,h4⟩:=t;rw[if_pos (by omega)];have Q:ts[q - j]?=some ts[q - j]:=List.getElem?_eq_getElem (by omega);have C:us[q - j]?=some us[q - j]:=List.getElem?_eq_getElem (by omega);obtain⟨y,A⟩:=h _ _ _ Q C;have J:Ab f p j ts p q=ts[q - j]:=by
     unfold Ab;rw[if_pos ⟨rfl,h3,h4⟩,List.getD_eq_getElem?_getD,Q];rfl
    rw[J];refine⟨us[q - j],?_,y.kp W.kp,?_⟩
    ·rw[<-C];congr 1;omega
    ·have:=d (cs.take (p*k+j) ++ us ++ cs.drop (p*k+j+us.length)).toArray _ _ _ _ A
     rwa [show p*k+j+(q - j)=p*k+q by omega]at this
   ·have N:¬(a*k+j<=p*k+q/\p*k+q<a*k+j+us.length):=by
     intro mA;apply t;have O:p=a:=by
      rcases Nat.lt_trichotomy p a with D | D | D
      ·have:=Nat.mul_le_mul_right k (show p+1<=a from D);rw[Nat.add_mul,Nat.one_mul]at this;omega
      ·exact D
      ·have:=Nat.mul_le_mul_right k (show a+1<=p from D);rw[Nat.add_mul,Nat.one_mul]at this;omega
     subst O;omega
    rw[if_neg N];obtain⟨u,hu,y,A⟩:=m p q V hq;have J:Ab f a j ts p q=f p q:=(by unfold Ab;rw[if_neg t]);rw[J];exact⟨u,hu,y.kp W.kp,d _ _ _ _ _ A⟩)
 exact⟨cs,T,S,l,h1,h2⟩
theorem YL(h:B1 P t d)(L:AR w E ob)(r:evStore d ob l x=some (c,ob'))(X:c){z:Value}(U:CvR w E (dom ob) x y)(hz:VlR w E (dom ob) g l z) :
 ∃w',(Instr.storeAt t y z).run P w = .ok () w'/\AV (dom ob) w E w' E/\(∀i,dom ob i->dom ob' i)/\AR w' E ob':=by
 have A:=hz.cells;have cA:=A.length;cases x with
 | v x=>cases r
 | s fl k n f=>cases r
 | h i=>cases r
 | hs i k lo n=>cases r
 | q fl k n f a j=>cases r
 | p i o=>
  simp only[evStore]at r;split at r
  ·rename_i m hi
   split at r
   ·rename_i D
    simp only[Option.some.injEq,Prod.mk.injEq]at r;obtain⟨rfl,rfl⟩:=r;obtain⟨Q,cs,T,J,C⟩:=L i _ hi;obtain⟨-,rfl⟩:=U;have R:=C.length;have Y:dom ob i:=(by unfold dom;rw[hi];rfl);have hs:z.cells.size=d.k:=(by rw[<-Array.length_toList];omega);refine⟨_,h.run_store J hs (by omega) A.one,?_⟩;obtain⟨H,I⟩:=L.set Y Q (c:=(cs.take o ++ z.cells.toList ++ cs.drop (o+d.k)).toArray) (b:=.var (m.take o ++ l ++ m.drop (o+d.k))) (fun N=>⟨Q,_,T,setRow_heap _ _ _ _ _ _ J,CsR.ext N (fun j F=>BI F) (AN.append (AN.append (AN.take C o) A) (AN.drop C (o+d.k)))⟩);exact⟨H,fun j F=>BI F,I⟩
   ·cases r
  ·cases r
 | e i k a j=>
  simp only[evStore]at r;split at r
  ·rename_i k' n f ts hi hts
   split at r
   ·rename_i D
    simp only[Option.some.injEq,Prod.mk.injEq]at r;obtain⟨rfl,rfl⟩:=r;obtain⟨rfl,D,Z⟩:=D;obtain⟨-,rfl⟩:=U;have hs:z.cells.size=d.k:=(by rw[<-Array.length_toList];omega);have O:=PR hts A;have K:=O.length;have M:z.cells.toList.length=d.k:=(by simpa using hs);have S:=h.pos;obtain⟨cs,T,J,B,H,I⟩:=XQ L hi X (ts:=ts) (us:=z.cells.toList) (j:=j) K (by omega) (by omega) (fun x T u N hu=>by
     obtain⟨u',G,V,W⟩:=O.at N;rw[hu]at G;cases G;exact⟨V,W _ _⟩)
    rw[M]at B H I;exact⟨_,h.run_store J hs B A.one,H,fun j F=>BI F,I⟩
   ·cases r
  ·cases r
def rowE(ob:List (Nat×Ob))(r:Nat):Option (Nat×Nat×(Nat->Nat->Tr)):=
 match get ob r with
 | some (.row k n f)=>some (k,n,f)
 | some (.tl k n f)=>some (k,n,f)
 | _=>none
variable{r:Nat}
theorem Ku(x:AR w E ob)(b:rowE ob r=some (k,n,f)):dom ob r/\∃a cap,E.hv r = .slice a n cap/\n<=cap/\(0<cap->a=some ⟨E.bl r,0,none⟩/\(∃d,E.g (E.bl r) = .ow (.nm r) d/\d<=n*k)/\∃(c:List Value) (t:TypeId),w.heap[E.bl r]?=some (.cells c.toArray t (0,0))/\c.length=cap*k/\
 ∀p j,p<n->j<k->∃u,c[p*k+j]?=some u/\Sh w E.g (f p j) u):=by
 unfold rowE at b;split at b
 ·rename_i A n' f' hi
  cases b;obtain⟨a,cap,q,s,v⟩:=x _ _ hi;refine⟨by unfold dom;rw[hi];rfl,a,cap,q,s,fun o=>?_⟩;obtain⟨e,h,c,t,i,l,m⟩:=v o;exact⟨e,⟨0,h,Nat.zero_le _⟩,c,t,i,l,fun p j z y=>let ⟨u,hu,hs,_⟩:=m p j z y;⟨u,hu,hs⟩⟩
 ·rename_i A n' f' hi
  cases b;obtain⟨a,cap,q,s,v⟩:=x _ _ hi;refine⟨by unfold dom;rw[hi];rfl,a,cap,q,s,fun o=>?_⟩;obtain⟨e,h,c,t,i,l,m⟩:=v o;exact⟨e,⟨_,h,Nat.le_refl _⟩,c,t,i,l,m⟩
 ·cases b
theorem qV(G:AR w E ob)(O:rowE ob r=some (k,n,f)){s:Bs}(hs:s = .fz none\/∃o,s = .ow o (n*k)) :
 ∃m,m.bl=E.bl/\m.hv=E.hv/\(∀b,b≠E.bl r->m.g b=E.g b)/\AV (dom ob) w E w m/\AR w m (put ob r .dead)/\Sh w m.g (.s .z k n f) (E.hv r)/\(∀B c,s = .ow (.tl B c) (n*k)->By w m.g B c (.s .o k n f) (E.hv r))/\
  ∀a cap,E.hv r = .slice a n cap->0<cap->m.g (E.bl r)=s:=by
 obtain⟨S,a,cap,hv,hn,L⟩:=Ku G O;rcases Nat.eq_zero_or_pos cap with e0 | e0
 ·refine⟨E,rfl,rfl,fun _ _=>rfl,AV.refl _ _ _,fun j o d=>?_,⟨a,cap,hv,hn,fun C=>by omega⟩,fun B c e=>⟨a,cap,hv,fun C=>by omega⟩,fun R c' e C=>?_⟩
  ·rw[B8]at d;by_cases e:r=j
   ·rw[if_pos e]at d;cases d;trivial
   ·rw[if_neg e]at d;exact ObR.ext (AV.refl _ _ _) (fun j d=>BI d) (by unfold dom;rw[d];rfl) (X:=fun _=>False) (fun _ _ _=>⟨rfl,rfl⟩) (fun _ _ x=>x.elim) (fun _ _ _ _ x=>x.elim) (G j o d)
  ·rw[hv]at e;cases e;omega
 ·obtain⟨I,⟨Q,A,y⟩,c,t,D,M,v⟩:=L e0;have J:Kp w E.g w (fun b=>if b=E.bl r then s else E.g b):=by
   refine⟨rfl,rfl,rfl,Nat.le_refl _,fun b q h _=>⟨rfl,?_⟩,fun b o l h _=>⟨fun _ _=>rfl,?_⟩⟩
   ·have F:b≠E.bl r:=fun e=>by rw[e,A]at h;cases h
    rw[if_neg F];exact h
   ·by_cases e:b=E.bl r
    ·rcases hs with rfl | ⟨o',rfl⟩
     ·exact .inr (if_pos e)
     ·refine .inl ⟨o',_,if_pos e,?_⟩;rw[e,A]at h;cases h;exact y
    ·exact .inl ⟨o,l,by rw[if_neg e];exact h,Nat.le_refl _⟩
  have K:AV (dom ob) w E w ⟨fun b=>if b=E.bl r then s else E.g b,E.bl,E.hv⟩:=⟨J,fun _ _=>rfl,fun _ _=>rfl⟩;refine⟨⟨fun b=>if b=E.bl r then s else E.g b,E.bl,E.hv⟩,rfl,rfl,fun b h=>if_neg h,K,fun j o d=>?_,⟨a,cap,hv,hn,fun C=>⟨E.bl r,0,I,(Array.getElem?_eq_some_iff.1 D).1,?_,fun p j N d=>?_⟩⟩,fun B c' e=>⟨a,cap,hv,fun _=>⟨E.bl r,I,by simpa using e,_,t,D,by simpa using M⟩⟩,fun _ _ _ _=>if_pos rfl⟩
  ·rw[B8]at d;by_cases e:r=j
   ·rw[if_pos e]at d;cases d;trivial
   ·rw[if_neg e]at d;refine ObR.ext K (fun j d=>BI d) (by unfold dom;rw[d];rfl) (X:=fun b=>b=E.bl r) (fun b _ h=>⟨rfl,if_neg h⟩) (fun b l h i=>?_) (fun _ b T l h i=>?_) (G j o d)
    ·rw[h,A]at i;cases i;exact e rfl
    ·rw[h,A]at i;cases i
  ·rcases hs with rfl | ⟨o',rfl⟩
   ·simp[Bs.ok]
   ·simp[Bs.ok]
  ·obtain⟨u,P,H⟩:=v p j N d;refine⟨u,?_,H.kp J⟩;rw[Nat.zero_add];simp[World.cell?,D,P]
def evStoreH(d:TyD)(ob:List (Nat×Ob))(r:Nat):Cv->Option (Prop×List (Nat×Ob))
 | .e i k a j=>match get ob i,rowE ob r with
  | some (.row k' n f),some (kk,m,h)=>if k'=k/\j+1<=k/\d.k=1/\r≠i then some (a<n,put (put ob r .dead) i (.row k n (Ab f a j [.s .o kk m h])))else none
  | _,_=>none
 | _=>none
theorem zBV(h:B1 P t d)(ho:AR w E ob)(C:evStoreH d ob r x=some (c,ob'))(hc:c){z:Value}(hy:CvR w E (dom ob) x y)(hz:VlR w E (dom ob) g [.h r] z) :
 ∃w' W,(Instr.storeAt t y z).run P w = .ok () w'/\AV (dom ob) w E w' W/\(∀i,dom ob i->dom ob' i)/\AR w' W ob':=by
 have B:=hz.cells;have S:=B.length;cases x with
 | e i k a j=>
  simp only[evStoreH]at C;split at C
  ·rename_i k' n f kk m h' hi hr
   split at C
   ·rename_i G
    simp only[Option.some.injEq,Prod.mk.injEq]at C;obtain⟨rfl,rfl⟩:=C;obtain⟨rfl,G,A,N⟩:=G;obtain⟨-,rfl⟩:=hy;obtain⟨X,Y,e2,e3,V,o1,s1,t1,-⟩:=qV ho hr (s:=.ow (.tl (E.bl i) (a*k'+j)) (m*kk)) (.inr ⟨_,rfl⟩);have L:get (put ob r .dead) i=some (.row k' n f):=(by rw[B8,if_neg N];exact hi);have hs:z.cells.size=d.k:=(by rw[<-Array.length_toList,<-S,A];rfl);have p:z.cells.toList.length=d.k:=(by simpa using hs);obtain⟨cs,T,Z,D,H,J⟩:=XQ o1 L hc (ts:=[.s .o kk m h']) (us:=z.cells.toList) (j:=j) (A.symm.trans p.symm) (by simpa using G) (by simp) (fun x T u Q O=>by
     have R:x=0:=by
      have:=(List.getElem?_eq_some_iff.1 Q).1;simp at this;exact this
     subst R;simp at Q;subst Q;have U:z.cells.toList = [u]:=by
      match hzz:z.cells.toList,p with
      | [v],_=>rw[hzz]at O;simp at O;rw[O]
      | [],p=>rw[A]at p;cases p
      | _ :: _ :: _,p=>rw[A]at p;simp at p
     rw[U]at B;cases B with
     | cons h3 _=>
      rw[h3.2.1];refine⟨?_,?_⟩
      ·have:=s1;obtain⟨a1,c1,I,M,K⟩:=this;exact⟨a1,c1,I,M,fun h0=>by
        obtain⟨b,o,g1,g2,g3,g4⟩:=K h0;refine⟨b,o,g1,g2,?_,g4⟩;revert g3;cases X.g b with
        | fz r=>rintro(h | h);exact absurd h (by simp);exact .inr h
        | ow q l=>exact id⟩
      ·have:=t1 _ _ rfl;rw[Y];simpa using this)
    rw[p]at D H J;rw[Y]at Z H J;refine⟨_,X,h.run_store Z hs D B.one,⟨V.kp.trans H.kp,fun j F=>(H.bl j (BI F)).trans (V.bl j F),fun j F=>(H.hv j (BI F)).trans (V.hv j F)⟩,fun j F=>BI (BI F),J⟩
   ·cases C
  ·cases C
 | _=>cases C
end Go.Proofs.YtibhefllijahkaaGreatDoor
