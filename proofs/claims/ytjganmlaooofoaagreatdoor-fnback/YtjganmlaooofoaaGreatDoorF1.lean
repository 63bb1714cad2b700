/- A part of the proof. -/
import Derived.WalkKit
import Derived.WalkSpells
import Derived.WalkLawsBesides
import Derived.Laws.CopyRow
import Derived.Laws.AppendOwn
import Derived.Laws.MakeOwn
import Derived.Laws.Slices
set_option linter.unusedVariables false
set_option maxRecDepth 20000
set_option maxHeartbeats 4000000
namespace Go.Proofs.YtjganmlaooofoaaGreatDoor
open Go.RowKit
inductive Fl where | b | z | o
inductive Tr where
 | v (x:Value)
 | s (fl:Fl) (k n:Nat) (f:Nat->Nat->Tr)
inductive Ow where
 | nm (i:Nat)
 | tl (b j:Nat)
inductive Bs where
 | fz (r:Option Nat)
 | ow (o:Ow) (lim:Nat)
def Bs.ok(fl:Fl)(e:Nat):Bs->Prop
 | .fz r=>fl = .b\/∀l,r=some l->e<=l
 | .ow _ lim=>e<=lim
def Sh(w:World)(g:Nat->Bs):Tr->Value->Prop
 | .v x,y=>y=x/\x.oneCell'=true
 | .s fl k n f,y=>∃a c,y = .slice a n c/\n<=c/\(0<n->∃b o,a=some ⟨b,o,none⟩/\b<w.heap.size/\(g b).ok fl (o+n*k)/\
   ∀i j,i<n->j<k->∃u,w.cell? ⟨b,o+(i*k+j),none⟩=some u/\Sh w g (f i j) u)
structure Kp (w:World) (g:Nat->Bs) (w':World) (g':Nat->Bs):Prop where
 os:w'.os=w.os
 tape:w'.tape=w.tape
 output:w'.output=w.output
 size:w.heap.size<=w'.heap.size
 fz:∀b r,g b = .fz r->b<w.heap.size->w'.heap[b]?=w.heap[b]?/\g' b = .fz r
 ow:∀b o lim,g b = .ow o lim->b<w.heap.size->(∀j,j<lim->w'.cell? ⟨b,j,none⟩=w.cell? ⟨b,j,none⟩)/\((∃o' lim',g' b = .ow o' lim'/\lim<=lim')\/g' b = .fz none)
theorem Kp.refl(w:World)(g:Nat->Bs):Kp w g w g:=
 ⟨rfl,rfl,rfl,Nat.le_refl _,fun b r h _=>⟨rfl,h⟩,fun b o aA h _=>⟨fun _ _=>rfl,.inl ⟨o,aA,h,Nat.le_refl _⟩⟩⟩
theorem Kp.trans{w w1 w2:World}{g g1 g2:Nat->Bs}(h:Kp w g w1 g1)(h':Kp w1 g1 w2 g2):Kp w g w2 g2:=by
 refine⟨h'.os.trans h.os,h'.tape.trans h.tape,h'.output.trans h.output,Nat.le_trans h.size h'.size,fun b r hb hl=>?_,fun b o cA hb hl=>?_⟩
 ·obtain⟨e,h1⟩:=h.fz b r hb hl;obtain⟨e',h2⟩:=h'.fz b r h1 (Nat.lt_of_lt_of_le hl h.size);exact⟨e'.trans e,h2⟩
 ·obtain⟨e,h1⟩:=h.ow b o cA hb hl;have aA:=Nat.lt_of_lt_of_le hl h.size;rcases h1 with⟨o1,l1,h1,dA⟩ | h1
  ·obtain⟨e',h2⟩:=h'.ow b o1 l1 h1 aA;refine⟨fun j hj=>(e' j (by omega)).trans (e j hj),?_⟩;rcases h2 with⟨o2,l2,h2,bA⟩ | h2
   ·exact .inl ⟨o2,l2,h2,by omega⟩
   ·exact .inr h2
  ·obtain⟨e',h2⟩:=h'.fz b none h1 aA;refine⟨fun j hj=>?_,.inr h2⟩;rw[<-e j hj];exact World.cell?_of_block (w:=w1) e'
theorem Bs.ok_b{s:Bs}{fl:Fl}{e:Nat}(h:s.ok fl e):s.ok .b e:=by
 cases s
 ·exact .inl rfl
 ·exact h
theorem zEv{n k i j:Nat}(hi:i<n)(hj:j<k):i*k+j<n*k:=by
 have h:=Nat.mul_le_mul_right k (show i+1<=n from hi);rw[Nat.add_mul,Nat.one_mul]at h;omega
theorem Sh.kp{w w':World}{g g':Nat->Bs}(h:Kp w g w' g'):∀{T:Tr} {y:Value},Sh w g T y->Sh w' g' T y
 | .v x,y,hs=>hs
 | .s fl k n f,y,hs=>by
  obtain⟨a,c,e,hn,hc⟩:=hs;refine⟨a,c,e,hn,fun h0=>?_⟩;obtain⟨b,o,ha,hb,aA,bA⟩:=hc h0;refine⟨b,o,ha,Nat.lt_of_lt_of_le hb h.size,?_,fun i j hi hj=>?_⟩
  ·cases hg:g b with
   | fz r=>
    obtain⟨_,h1⟩:=h.fz b r hg hb;rw[hg]at aA;rw[h1];exact aA
   | ow q lim=>
    obtain⟨_,h1⟩:=h.ow b q lim hg hb;rw[hg]at aA;rcases h1 with⟨o',l',h1,cA⟩ | h1
    ·rw[h1];exact Nat.le_trans aA cA
    ·rw[h1];exact .inr fun _ h=>by cases h
  ·obtain⟨u,hu,hs⟩:=bA i j hi hj;refine⟨u,?_,hs.kp h⟩;cases hg:g b with
   | fz r=>
    obtain⟨e',_⟩:=h.fz b r hg hb;rw[<-hu];exact World.cell?_of_block (w:=w) e'
   | ow q lim=>
    obtain⟨e',_⟩:=h.ow b q lim hg hb;rw[hg]at aA;have:=zEv hi hj;have dA:o+n*k<=lim:=aA;rw[e' _ (by omega)];exact hu
theorem Sh.one{w:World}{g:Nat->Bs}{T:Tr}{y:Value}(h:Sh w g T y):y.oneCell'=true:=by
 cases T with
 | v x=>exact h.1▸h.2
 | s fl k n f=>obtain⟨a,c,rfl,_⟩:=h;rfl
def Tr.lend:Tr->Tr
 | .v x=>.v x
 | .s _ k n f=>.s .b k n fun i j=>(f i j).lend
theorem Sh.lend{w:World}{g g':Nat->Bs}(h:∀b fl e,b<w.heap.size->(g b).ok fl e->(g' b).ok .b e):∀{T:Tr} {y:Value},Sh w g T y->Sh w g' T.lend y
 | .v x,y,hs=>hs
 | .s fl k n f,y,hs=>by
  obtain⟨a,c,e,hn,hc⟩:=hs;refine⟨a,c,e,hn,fun h0=>?_⟩;obtain⟨b,o,ha,hb,bA,aA⟩:=hc h0;refine⟨b,o,ha,hb,h b _ _ hb bA,fun i j hi hj=>?_⟩;obtain⟨u,hu,hs⟩:=aA i j hi hj;exact⟨u,hu,hs.lend h⟩
theorem Kp.alloc(w:World)(g:Nat->Bs)(o:Obj)(s:Bs):Kp w g (w.alloc o) (fun b=>if b=w.heap.size then s else g b):=by
 refine⟨rfl,rfl,rfl,by simp,fun b r hb hl=>⟨Below.heap_alloc _ _ _ hl,?_⟩,fun b q aA hb hl=>⟨fun j _=>?_,.inl ⟨q,aA,?_,Nat.le_refl _⟩⟩⟩
 ·rw[if_neg (by omega)];exact hb
 ·exact World.cell?_of_block (w:=w) (Below.heap_alloc _ _ _ hl)
 ·rw[if_neg (by omega)];exact hb
theorem Kp.drew(w:World)(g:Nat->Bs):Kp w g w.drew g:=
 ⟨rfl,rfl,rfl,Nat.le_refl _,fun b r h _=>⟨rfl,h⟩,fun b o aA h _=>⟨fun _ _=>rfl,.inl ⟨o,aA,h,Nat.le_refl _⟩⟩⟩
theorem zAB(w:World)(g:Nat)(c:Array Value)(k:Nat)(h:k≠g):(w.setRow g c).heap[k]?=w.heap[k]?:=by
 simp only[World.setRow,Array.getElem?_modify];rw[if_neg (by omega)]
theorem Kp.setRow{w:World}{g:Nat->Bs}{B:Nat}{o:Ow}(h:g B = .ow o 0)(c:Array Value):Kp w g (w.setRow B c) g:=by
 refine⟨rfl,rfl,rfl,by simp[World.setRow],fun b r hb hl=>⟨zAB w B c b (fun e=>by rw[e,h]at hb;cases hb),hb⟩,fun b q aA hb hl=>⟨fun j hj=>?_,.inl ⟨q,aA,hb,Nat.le_refl _⟩⟩⟩;by_cases e:b=B
 ·subst e;rw[h]at hb;cases hb;omega
 ·exact World.cell?_of_block (w:=w) (zAB w B c b e)
inductive Cv where
 | v (x:Value)
 | s (fl:Fl) (k n:Nat) (f:Nat->Nat->Tr)
 | h (i:Nat)
 | p (i o:Nat)
 | e (i k a j:Nat)
 | q (fl:Fl) (k n:Nat) (f:Nat->Nat->Tr) (a j:Nat)
 | hs (i k lo n:Nat)
inductive Ob where
 | var (l:List Cv)
 | row (k n:Nat) (f:Nat->Nat->Tr)
 | dead
 | tl (k n:Nat) (f:Nat->Nat->Tr)
inductive Av where
 | m (g:Bool) (l:List Cv)
 | t (l:List (Bool×List Cv))
structure St where
 tm:List (Nat×Bool×Av)
 ob:List (Nat×Ob)
def get{α : Type}:List (Nat×α)->Nat->Option α
 | [],_=>none
 | (e,x) :: r,d=>if e=d then some x else get r d
def dlO{α : Type}:List (Nat×α)->Nat->List (Nat×α)
 | [],_=>[]
 | (e,x) :: r,d=>if e=d then dlO r d else(e,x) :: dlO r d
theorem zQR{α : Type}(d e:Nat):∀l:List (Nat×α),get (dlO l d) e=if d=e then none else get l e
 | []=>by simp[dlO,get]
 | (c,x) :: r=>by
  simp only[dlO];by_cases h:c=d
  ·rw[if_pos h,zQR d e r];by_cases h':d=e
   ·simp[h']
   ·simp only[if_neg h',get];rw[if_neg (fun aA=>h' (h.symm.trans aA))]
  ·rw[if_neg h];simp only[get];by_cases h':c=e
   ·rw[if_pos h',if_pos h',if_neg (fun aA=>h (h'.trans aA.symm))]
   ·rw[if_neg h',if_neg h',zQR d e r]
def put{α : Type}(l:List (Nat×α))(d:Nat)(x:α):List (Nat×α):=(d,x) :: dlO l d
theorem ze{α : Type}(l:List (Nat×α))(d e:Nat)(x:α):get (put l d x) e=if d=e then some x else get l e:=by
 unfold put;simp only[get];by_cases h:d=e
 ·simp[h]
 ·rw[if_neg h,if_neg h,zQR,if_neg h]
structure En where
 g:Nat->Bs
 bl:Nat->Nat
 hv:Nat->Value
def CvR(w:World)(E:En)(D:Nat->Prop):Cv->Value->Prop
 | .v x,y=>y=x/\x.oneCell'=true
 | .s fl k n f,y=>Sh w E.g (.s fl k n f) y
 | .h i,y=>D i/\y=E.hv i/\y.oneCell'=true
 | .p i o,y=>D i/\y = .pointer (some ⟨E.bl i,o,none⟩)
 | .e i k a j,y=>D i/\y = .pointer (some ⟨E.bl i,a*k+j,none⟩)
 | .q fl k n f a j,y=>a<n/\∃b o,y = .pointer (some ⟨b,o+(a*k+j),none⟩)/\Sh w E.g (.s fl k n f) (.slice (some ⟨b,o,none⟩) n n)
 | .hs i k lo n,y=>D i/\∃a c,y = .slice a n c/\(0<n->a=some ⟨E.bl i,lo*k,none⟩)
theorem CvR.one{w:World}{E:En}{D:Nat->Prop}{x:Cv}{y:Value}(h:CvR w E D x y):y.oneCell'=true:=by
 cases x with
 | v x=>exact h.1▸h.2
 | s fl k n f=>exact Sh.one h
 | h i=>exact h.2.2
 | p i o=>rw[h.2];rfl
 | e i k a j=>rw[h.2];rfl
 | q fl k n f a j=>obtain⟨_,b,o,rfl,_⟩:=h;rfl
 | hs i k lo n=>obtain⟨_,a,c,rfl,_⟩:=h;rfl
structure ql (D:Nat->Prop) (w:World) (E:En) (w':World) (E':En):Prop where
 kp:Kp w E.g w' E'.g
 bl:∀i,D i->E'.bl i=E.bl i
 hv:∀i,D i->E'.hv i=E.hv i
theorem ql.refl(D:Nat->Prop)(w:World)(E:En):ql D w E w E:=⟨Kp.refl _ _,fun _ _=>rfl,fun _ _=>rfl⟩
theorem CvR.ext{D D':Nat->Prop}{w w':World}{E E':En}(h:ql D w E w' E')(hD:∀i,D i->D' i){x:Cv}{y:Value}(hx:CvR w E D x y):CvR w' E' D' x y:=by
 cases x with
 | v x=>exact hx
 | s fl k n f=>exact Sh.kp h.kp hx
 | h i=>exact⟨hD i hx.1,by rw[h.hv i hx.1];exact hx.2.1,hx.2.2⟩
 | p i o=>exact⟨hD i hx.1,by rw[h.bl i hx.1];exact hx.2⟩
 | e i k a j=>exact⟨hD i hx.1,by rw[h.bl i hx.1];exact hx.2⟩
 | q fl k n f a j=>obtain⟨ha,b,o,e,hs⟩:=hx;exact⟨ha,b,o,e,hs.kp h.kp⟩
 | hs i k lo n=>obtain⟨hi,a,c,e,ha⟩:=hx;exact⟨hD i hi,a,c,e,fun h0=>by rw[h.bl i hi];exact ha h0⟩
inductive qE {α β : Type} (R:α->β->Prop):List α->List β->Prop where
 | nil:qE R [] []
 | cons {a:α} {b:β} {l:List α} {m:List β} (h:R a b) (t:qE R l m):qE R (a :: l) (b :: m)
theorem qE.length{α β : Type}{R:α->β->Prop}{l:List α}{m:List β}(h:qE R l m):l.length=m.length:=by
 induction h with
 | nil=>rfl
 | cons _ _ ih=>simp[ih]
theorem qE.at{α β : Type}{R:α->β->Prop}{l:List α}{m:List β}(h:qE R l m):∀{j:Nat} {x:α},l[j]?=some x->∃y,m[j]?=some y/\R x y:=by
 induction h with
 | nil=>intro j x hx;simp at hx
 | cons hab _ ih=>
  intro j x hx;cases j with
  | zero=>simp at hx;exact⟨_,rfl,hx▸hab⟩
  | succ j=>simpa using ih (by simpa using hx)
theorem qE.drop{α β : Type}{R:α->β->Prop}{l:List α}{m:List β}(h:qE R l m):∀n,qE R (l.drop n) (m.drop n):=by
 induction h with
 | nil=>intro n;simpa using .nil
 | cons hab t ih=>
  intro n;cases n with
  | zero=>exact .cons hab t
  | succ n=>exact ih n
theorem qE.take{α β : Type}{R:α->β->Prop}{l:List α}{m:List β}(h:qE R l m):∀n,qE R (l.take n) (m.take n):=by
 induction h with
 | nil=>intro n;simpa using .nil
 | cons hab t ih=>
  intro n;cases n with
  | zero=>exact .nil
  | succ n=>exact .cons hab (ih n)
theorem qE.append{α β : Type}{R:α->β->Prop}{l:List α}{m:List β}(h:qE R l m){l':List α}{m':List β}(h':qE R l' m'):qE R (l ++ l') (m ++ m'):=by
 induction h with
 | nil=>exact h'
 | cons hab t ih=>exact .cons hab ih
theorem qE.of{α β : Type}{R:α->β->Prop}:∀{l:List α} {m:List β},l.length=m.length->(∀(j:Nat) (x:α) (y:β),l[j]?=some x->m[j]?=some y->R x y)->qE R l m
 | [],[],_,_=>.nil
 | a :: l,b :: m,h,hr=>.cons (hr 0 a b rfl rfl) (qE.of (by simpa using h) (fun j x y hx hy=>hr (j+1) x y (by simpa using hx) (by simpa using hy)))
 | [],_ :: _,h,_=>by simp at h
 | _ :: _,[],h,_=>by simp at h
def CsR(w:World)(E:En)(D:Nat->Prop)(l:List Cv)(c:List Value):Prop:=qE (CvR w E D) l c
def VlR(w:World)(E:En)(D:Nat->Prop)(g:Bool)(l:List Cv)(y:Value):Prop:=
 match g with
 | true=>∃cs:List Value,y = .agg cs.toArray/\CsR w E D l cs
 | false=>∃x,l = [x]/\CvR w E D x y
def AvR(w:World)(E:En)(D:Nat->Prop):Av->Value->Prop
 | .m g l,y=>VlR w E D g l y
 | .t l,y=>∃vs:List Value,y = .tuple vs.toArray/\qE (fun (q:Bool×List Cv) u=>VlR w E D q.1 q.2 u) l vs
theorem CsR.ext{D D':Nat->Prop}{w w':World}{E E':En}(h:ql D w E w' E')(hD:∀i,D i->D' i){l:List Cv}{c:List Value}(hx:CsR w E D l c):CsR w' E' D' l c:=by
 unfold CsR at *
 induction hx with
 | nil=>exact .nil
 | cons a _ ih=>exact .cons (a.ext h hD) ih
theorem VlR.ext{D D':Nat->Prop}{w w':World}{E E':En}(h:ql D w E w' E')(hD:∀i,D i->D' i){g:Bool}{l:List Cv}{y:Value}(hx:VlR w E D g l y):VlR w' E' D' g l y:=by
 cases g with
 | true=>obtain⟨cs,e,hc⟩:=hx;exact⟨cs,e,hc.ext h hD⟩
 | false=>obtain⟨x,e,hc⟩:=hx;exact⟨x,e,hc.ext h hD⟩
theorem AvR.ext{D D':Nat->Prop}{w w':World}{E E':En}(h:ql D w E w' E')(hD:∀i,D i->D' i){x:Av}{y:Value}(hx:AvR w E D x y):AvR w' E' D' x y:=by
 cases x with
 | m g l=>exact VlR.ext h hD hx
 | t l=>
  obtain⟨vs,e,hc⟩:=hx;refine⟨vs,e,?_⟩;clear e
  induction hc with
  | nil=>exact .nil
  | cons a _ ih=>exact .cons (a.ext h hD) ih
theorem VlR.cells{w:World}{E:En}{D:Nat->Prop}{g:Bool}{l:List Cv}{y:Value}(h:VlR w E D g l y):CsR w E D l y.cells.toList:=by
 cases g with
 | true=>obtain⟨cs,rfl,hc⟩:=h;simpa[Value.cells]using hc
 | false=>
  obtain⟨x,rfl,hc⟩:=h;have h1:=hc.one;have:y.cells=#[y]:=by cases y<;>first | rfl | (simp[Value.oneCell']at h1)
  rw[this];exact qE.cons hc qE.nil
theorem CsR.one{w:World}{E:En}{D:Nat->Prop}{l:List Cv}{c:List Value}(h:CsR w E D l c):∀u∈c,u.oneCell'=true:=by
 unfold CsR at h
 induction h with
 | nil=>intro u hu;cases hu
 | cons a _ ih=>
  intro u hu;cases hu with
  | head=>exact a.one
  | tail _ hm=>exact ih u hm
def zAb(w:World)(g:Nat->Bs)(B j:Nat):Tr->Value->Prop
 | .s .o k n f,u=>∃a c,u = .slice a n c/\(0<c->∃b,a=some ⟨b,0,none⟩/\g b = .ow (.tl B j) (n*k)/\∃cs t,w.heap[b]?=some (.cells cs t (0,0))/\cs.size=c*k)
 | _,_=>True
def ObR(w:World)(E:En)(D:Nat->Prop)(i:Nat):Ob->Prop
 | .var l=>E.g (E.bl i) = .ow (.nm i) 0/\∃(c:List Value) (t:TypeId),w.heap[E.bl i]?=some (.cells c.toArray t (0,0))/\CsR w E D l c
 | .row k n f=>∃a cap,E.hv i = .slice a n cap/\n<=cap/\(0<cap->a=some ⟨E.bl i,0,none⟩/\E.g (E.bl i) = .ow (.nm i) 0/\∃(c:List Value) (t:TypeId),w.heap[E.bl i]?=some (.cells c.toArray t (0,0))/\c.length=cap*k/\
   ∀p j,p<n->j<k->∃u,c[p*k+j]?=some u/\Sh w E.g (f p j) u/\zAb w E.g (E.bl i) (p*k+j) (f p j) u)
 | .dead=>True
 | .tl k n f=>∃a cap,E.hv i = .slice a n cap/\n<=cap/\(0<cap->a=some ⟨E.bl i,0,none⟩/\E.g (E.bl i) = .ow (.nm i) (n*k)/\∃(c:List Value) (t:TypeId),w.heap[E.bl i]?=some (.cells c.toArray t (0,0))/\c.length=cap*k/\
   ∀p j,p<n->j<k->∃u,c[p*k+j]?=some u/\Sh w E.g (f p j) u)
theorem ObR.ext{D D':Nat->Prop}{w w':World}{E E':En}(h:ql D w E w' E')(hD:∀i,D i->D' i){i:Nat}(hi:D i){X:Nat->Prop}
  (hX:∀b,b<w.heap.size->¬X b->w'.heap[b]?=w.heap[b]?/\E'.g b=E.g b) (h1:∀b bA,X b->E.g b≠.ow (.nm i) bA) (h2:E.g (E.bl i) = .ow (.nm i) 0->∀b j bA,X b->E.g b≠.ow (.tl (E.bl i) j) bA) {o:Ob} (ho:ObR w E D i o):ObR w' E' D' i o:=by
 cases o with
 | dead=>trivial
 | var l=>
  obtain⟨hg,c,t,hh,hc⟩:=ho;obtain⟨e1,e2⟩:=hX _ (Array.getElem?_eq_some_iff.1 hh).1 (fun x=>h1 _ _ x hg);refine⟨by rw[h.bl i hi,e2];exact hg,c,t,by rw[h.bl i hi,e1];exact hh,hc.ext h hD⟩
 | row k n f=>
  obtain⟨a,cap,hv,hn,hc⟩:=ho;refine⟨a,cap,by rw[h.hv i hi];exact hv,hn,fun h0=>?_⟩;obtain⟨ha,hg,c,t,hh,hl,aA⟩:=hc h0;obtain⟨e1,e2⟩:=hX _ (Array.getElem?_eq_some_iff.1 hh).1 (fun x=>h1 _ _ x hg);refine⟨by rw[h.bl i hi];exact ha,by rw[h.bl i hi,e2];exact hg,c,t,by rw[h.bl i hi,e1];exact hh,hl,fun p j hp hj=>?_⟩;obtain⟨u,hu,hs,ht⟩:=aA p j hp hj;refine⟨u,hu,hs.kp h.kp,?_⟩;rw[h.bl i hi];revert ht;cases f p j with
  | v x=>exact id
  | s fl k' n' f'=>
   cases fl with
   | b=>exact id
   | z=>exact id
   | o=>
    rintro⟨a',c',rfl,eA⟩;refine⟨a',c',rfl,fun h0=>?_⟩;obtain⟨b,hb,dA,cs,t',cA,fA⟩:=eA h0;obtain⟨e3,e4⟩:=hX b (Array.getElem?_eq_some_iff.1 cA).1 (fun x=>h2 hg _ _ _ x dA);exact⟨b,hb,by rw[e4];exact dA,cs,t',by rw[e3];exact cA,fA⟩
 | tl k n f=>
  obtain⟨a,cap,hv,hn,hc⟩:=ho;refine⟨a,cap,by rw[h.hv i hi];exact hv,hn,fun h0=>?_⟩;obtain⟨ha,hg,c,t,hh,hl,aA⟩:=hc h0;obtain⟨e1,e2⟩:=hX _ (Array.getElem?_eq_some_iff.1 hh).1 (fun x=>h1 _ _ x hg);exact⟨by rw[h.bl i hi];exact ha,by rw[h.bl i hi,e2];exact hg,c,t,by rw[h.bl i hi,e1];exact hh,hl,fun p j hp hj=>let ⟨u,hu,hs⟩:=aA p j hp hj;⟨u,hu,hs.kp h.kp⟩⟩
def dom(ob:List (Nat×Ob))(i:Nat):Prop:=(get ob i).isSome=true
def qO(w:World)(E:En)(ob:List (Nat×Ob)):Prop:=∀i o,get ob i=some o->ObR w E (dom ob) i o
def TmR(w:World)(E:En)(D:Nat->Prop)(tm:List (Nat×Bool×Av))(a:Act):Prop:=
 ∀d c av,get tm d=some (c,av)->(c=true->AvR w E D av (a.tmps.getD d undef))/\(c=false->a.tmps.getD d undef=undef)
structure Gh where
 g:Nat->Bs
 pin:Option Nat
structure zLm (w0:World) (g0:Gh) (N:Nat) (S:St) (a:Act) (w:World) (E:En):Prop where
 kp:Kp w0 g0.g w E.g
 tm:TmR w E (dom S.ob) S.tm a
 ob:qO w E S.ob
 df:a.defers = []
 sz:a.tmps.size=N
 b0:∀B,g0.pin=some B->dom S.ob 0/\E.bl 0=B
def Rel(w0:World)(g0:Gh)(N:Nat)(S:St)(a:Act)(w:World):Prop:=∃E,zLm w0 g0 N S a w E
theorem zYL{a:Act}{d e:Nat}{v:Value}(hd:d<a.tmps.size):(a.put (some d) v).tmps.getD e undef=if d=e then v else a.tmps.getD e undef:=by
 simp only[Act.put,Array.getD_eq_getD_getElem?,Array.getElem?_setIfInBounds];by_cases h:d=e
 ·subst h;simp[hd]
 ·simp[h]
theorem qL{ob:List (Nat×Ob)}{i:Nat}{o:Ob}{j:Nat}(h:dom ob j):dom (put ob i o) j:=by
 unfold dom at *;rw[ze];split
 ·rfl
 ·exact h
theorem zLm.next{w0:World}{g0:Gh}{N:Nat}{S:St}{a:Act}{w w':World}{E E':En}(h:zLm w0 g0 N S a w E){ob':List (Nat×Ob)}(hx:ql (dom S.ob) w E w' E')(hD:∀i,dom S.ob i->dom ob' i)(ho:qO w' E' ob')
  {d:Nat} (hd:d<N) {c:Bool} {av:Av} {y:Value} (h1:c=true->AvR w' E' (dom ob') av y) (h2:c=false->y=undef) :
  zLm w0 g0 N ⟨put S.tm d (c,av),ob'⟩ (a.put (some d) y) w' E':=by
 refine⟨h.kp.trans hx.kp,fun e c' bA he=>?_,ho,h.df,by simpa[Act.put]using h.sz,fun B hB=>let ⟨h1,h2⟩:=h.b0 B hB;⟨hD 0 h1,(hx.bl 0 h1).trans h2⟩⟩;have hs:=h.sz;rw[zYL (by omega)];rw[ze]at he;by_cases aA:d=e
 ·rw[if_pos aA]at he ⊢;simp only[Option.some.injEq,Prod.mk.injEq]at he;obtain⟨rfl,rfl⟩:=he;exact⟨h1,h2⟩
 ·rw[if_neg aA]at he ⊢;obtain⟨g1,g2⟩:=h.tm e c' bA he;exact⟨fun hc=>(g1 hc).ext hx hD,g2⟩
theorem zLm.quiet{w0:World}{g0:Gh}{N:Nat}{S:St}{a:Act}{w w':World}{E E':En}(h:zLm w0 g0 N S a w E){ob':List (Nat×Ob)}(hx:ql (dom S.ob) w E w' E')(hD:∀i,dom S.ob i->dom ob' i)(ho:qO w' E' ob') :
  zLm w0 g0 N ⟨S.tm,ob'⟩ a w' E':=
 ⟨h.kp.trans hx.kp,fun e c' aA he=>⟨fun hc=>((h.tm e c' aA he).1 hc).ext hx hD,(h.tm e c' aA he).2⟩,ho,h.df,h.sz,fun B hB=>let ⟨h1,h2⟩:=h.b0 B hB;⟨hD 0 h1,(hx.bl 0 h1).trans h2⟩⟩
theorem qO.new{w:World}{E:En}{ob:List (Nat×Ob)}(h:qO w E ob){i:Nat}(hi:get ob i=none){o:Obj}{b:Ob}{hv:Value}
  (hn:∀D,(∀j,dom ob j->D j)->ql (dom ob) w E (w.alloc o) ⟨fun b=>if b=w.heap.size then .ow (.nm i) 0 else E.g b,fun j=>if j=i then w.heap.size else E.bl j,fun j=>if j=i then hv else E.hv j⟩->
   ObR (w.alloc o) ⟨fun b=>if b=w.heap.size then .ow (.nm i) 0 else E.g b,fun j=>if j=i then w.heap.size else E.bl j,fun j=>if j=i then hv else E.hv j⟩ D i b) :
  ql (dom ob) w E (w.alloc o) ⟨fun b=>if b=w.heap.size then .ow (.nm i) 0 else E.g b,fun j=>if j=i then w.heap.size else E.bl j,fun j=>if j=i then hv else E.hv j⟩/\
  qO (w.alloc o) ⟨fun b=>if b=w.heap.size then .ow (.nm i) 0 else E.g b,fun j=>if j=i then w.heap.size else E.bl j,fun j=>if j=i then hv else E.hv j⟩ (put ob i b):=by
 have aA:∀j,dom ob j->j≠i:=fun j hj e=>by unfold dom at hj;rw[e,hi]at hj;cases hj
 have hx:ql (dom ob) w E (w.alloc o) ⟨fun b=>if b=w.heap.size then .ow (.nm i) 0 else E.g b,fun j=>if j=i then w.heap.size else E.bl j,fun j=>if j=i then hv else E.hv j⟩:=
  ⟨Kp.alloc _ _ _ _,fun j hj=>if_neg (aA j hj),fun j hj=>if_neg (aA j hj)⟩
 refine⟨hx,fun j b' hj=>?_⟩;rw[ze]at hj;by_cases e:i=j
 ·subst e;rw[if_pos rfl]at hj;cases hj;exact hn _ (fun j hj=>qL hj) hx
 ·rw[if_neg e]at hj;have hd:dom ob j:=(by unfold dom;rw[hj];rfl);refine ObR.ext hx (fun j hj=>qL hj) hd (X:=fun _=>False) (fun b hb _=>⟨Below.heap_alloc _ _ _ hb,if_neg (by omega)⟩) (fun _ _ x=>x.elim) (fun _ _ _ _ x=>x.elim) (h j b' hj)
theorem qO.set{w:World}{E:En}{ob:List (Nat×Ob)}(h:qO w E ob){i:Nat}(hi:dom ob i)(hg:E.g (E.bl i) = .ow (.nm i) 0){c:Array Value}{b:Ob}
  (hn:ql (dom ob) w E (w.setRow (E.bl i) c) E->ObR (w.setRow (E.bl i) c) E (dom (put ob i b)) i b) :
  ql (dom ob) w E (w.setRow (E.bl i) c) E/\qO (w.setRow (E.bl i) c) E (put ob i b):=by
 have hx:ql (dom ob) w E (w.setRow (E.bl i) c) E:=⟨Kp.setRow hg c,fun _ _=>rfl,fun _ _=>rfl⟩;refine⟨hx,fun j b' hj=>?_⟩;rw[ze]at hj;by_cases e:i=j
 ·subst e;rw[if_pos rfl]at hj;cases hj;exact hn hx
 ·rw[if_neg e]at hj;have hd:dom ob j:=(by unfold dom;rw[hj];rfl);refine ObR.ext hx (fun j hj=>qL hj) hd (X:=fun k=>k=E.bl i) (fun k hk bA=>⟨zAB _ _ _ _ bA,rfl⟩) (fun k cA hk aA=>?_) (fun _ k j' cA hk aA=>?_) (h j b' hj)
  ·rw[hk,hg]at aA;cases aA;exact e rfl
  ·rw[hk,hg]at aA;cases aA
structure TyD where
 k:Nat
 g:Bool
 z:List Value
 by':Nat
 fs:List (Nat×Nat)
 el:Nat
def zMd(P:Program):TypeDesc->Bool×List (Nat×Nat)×Nat
 | .struct fs=>(true,fs.toList.map (fun f=>(f.offset,((P.info? f.type).map (·.size)).getD 0)),0)
 | .array _ _=>(true,[],0)
 | .slice e=>(false,[],e)
 | _=>(false,[],0)
def zbw(P:Program)(t:Nat):Bool:=match P.underlying t with
 | some (.struct _)=>true
 | some (.array _ _)=>true
 | _=>false
def zdX(P:Program):TypeDesc->Bool
 | .struct fs=>fs.toList.all fun f=>(P.underlying f.type).isSome && zbw P f.type == (((P.info? f.type).map (·.size)).getD 0 != 1)
 | _=>true
def TyD.zv(d:TyD):Value:=if d.g then .agg d.z.toArray else d.z.headD (.bool false)
structure zAr (P:Program) (t:Nat) (d:TyD):Prop where
 info:(P.info? t).map (fun i=>(i.size,i.zero,i.bytes))=some (d.k,some d.zv,d.by')
 und:(P.underlying t).map (zMd P)=some (d.g,d.fs,d.el)
 fz:d.fs.all (fun q=>q.2 != 0)=true
 one:d.z.all Value.oneCell'=true
 len:d.z.length=d.k
 gk:d.g=false->d.k=1
 pos:0<d.k
 zeP:d.by'<=1024
 fa:(P.underlying t).map (zdX P)=some true
section
variable {P : Program} {t : Nat} {d : TyD}
theorem zAr.get(h:zAr P t d):∃i,P.info? t=some i/\i.size=d.k/\i.zero=some d.zv/\i.bytes=d.by':=by
 have:=h.info;cases hi:P.info? t with
 | none=>rw[hi]at this;cases this
 | some i=>
  rw[hi]at this;simp only[Option.map_some,Option.some.injEq,Prod.mk.injEq]at this;exact⟨i,rfl,this.1,this.2.1,this.2.2⟩
theorem zAr.dsc(h:zAr P t d):∃u,P.underlying t=some u/\zMd P u=(d.g,d.fs,d.el):=by
 have:=h.und;cases hi:P.underlying t with
 | none=>rw[hi]at this;cases this
 | some i=>
  rw[hi]at this;simp only[Option.map_some,Option.some.injEq]at this;exact⟨i,rfl,this⟩
theorem zAr.slice(h:zAr P t d)(he:d.el≠0):P.underlying t=some (.slice d.el):=by
 obtain⟨u,hu,e⟩:=h.dsc;rw[hu];cases u<;>simp only[zMd,Prod.mk.injEq]at e<;>first | (exact absurd e.2.2.symm he) | (rw[e.2.2])
theorem zAr.run_size(h:zAr P t d)(w:World):(sizeOf t).run P w = .ok d.k w:=by
 obtain⟨i,hi,hs,_⟩:=h.get;simp[sizeOf,typeInfo,hi,hs]
theorem zAr.run_agg(h:zAr P t d)(w:World):(isAgg t).run P w = .ok d.g w:=by
 obtain⟨u,hu,e⟩:=h.dsc;unfold isAgg;rw[Sem.run_bind,run_underlying hu];cases u<;>simp only[zMd,Prod.mk.injEq]at e<;>simp[e.1]
theorem zAr.run_zero(h:zAr P t d)(w:World):(zeroValue t).run P w = .ok d.zv w:=by
 obtain⟨i,hi,_,hz,_⟩:=h.get;simp[zeroValue,typeInfo,hi,hz]
theorem zAr.zcells(h:zAr P t d):d.zv.cells=d.z.toArray:=by
 unfold TyD.zv;cases hg:d.g with
 | true=>rfl
 | false=>
  have h1:=h.gk hg;have h2:=h.len;rw[h1]at h2;have h3:=h.one
  match hz:d.z,h2 with
  | [x],_=>
   rw[hz]at h3;simp only[List.all_cons,List.all_nil,Bool.and_true]at h3;cases x<;>first | rfl | (simp[Value.oneCell']at h3)
theorem zCk(b o j:Nat):(⟨b,o,none⟩:Addr).add j=⟨b,o+j,none⟩:=by
 unfold Addr.add;split
 ·simp_all
 ·rfl
theorem zAr.run_load(h:zAr P t d){w:World}{b o:Nat}{cs:List Value}(hl:cs.length=d.k)(hc:∀j u,cs[j]?=some u->w.cell? ⟨b,o+j,none⟩=some u) :
  (Instr.loadAt t (.pointer (some ⟨b,o,none⟩))).run P w = .ok (if d.g then .agg cs.toArray else cs.headD (.bool false)) w:=by
 unfold Instr.loadAt loadVar;simp only[Instr.sureAddr,Sem.run_bind,Sem.run_pure,Result.andThen_ok,h.run_agg];cases hg:d.g with
 | true=>
  have:=run_loadCells_list (P:=P) w ⟨b,o,none⟩ cs (fun j v hj=>by rw[zCk];exact hc j v hj);rw[hl]at this;simp[h.run_size,this]
 | false=>
  have h1:=h.gk hg;rw[h1]at hl
  match cs,hl with
  | [x],_=>
   have:=hc 0 x rfl;simp only[Nat.add_zero]at this;simp[load,Sem.run,this]
theorem zAr.run_store(h:zAr P t d){w:World}{B o:Nat}{c:List Value}{T:TypeId}(hB:w.heap[B]?=some (.cells c.toArray T (0,0))){y:Value}(hy:y.cells.size=d.k)(hf:o+d.k<=c.length)(h1:∀u∈y.cells.toList,u.oneCell'=true) :
  (Instr.storeAt t (.pointer (some ⟨B,o,none⟩)) y).run P w = .ok () (w.setRow B (c.take o ++ y.cells.toList ++ c.drop (o+d.k)).toArray):=by
 have:=run_storeCells_at P B o T y.cells.toList 0 c.toArray w hB (by simp[hy];exact hf) h1;simp only[Nat.add_zero]at this;unfold Instr.storeAt storeVar;simp only[Instr.sureAddr,Sem.run_bind,Sem.run_pure,Result.andThen_ok,h.run_size,hy,ne_eq,not_true_eq_false,if_false];rw[this];simp[hy]
theorem zAr.run_field(h:zAr P t d){f:Nat}{q:Nat×Nat}(hf:d.fs[f]?=some q)(w:World)(b o:Nat) :
  (Instr.fieldAt t (.pointer (some ⟨b,o,none⟩)) f).run P w = .ok (.pointer (some ⟨b,o+q.1,none⟩)) w:=by
 obtain⟨u,hu,e⟩:=h.dsc;have hz:=h.fz;have bA:d.fs≠[]:=fun e'=>by rw[e']at hf;cases hf
 cases u<;>simp only[zMd,Prod.mk.injEq]at e<;>first | (exact absurd e.2.1.symm bA) | skip
 rename_i fs
 rw[<-e.2.1]at hf hz;simp only[List.getElem?_map,Option.map_eq_some_iff,Array.getElem?_toList]at hf;obtain⟨fd,aA,rfl⟩:=hf;have h2:(((P.info? fd.type).map (·.size)).getD 0 != 0)=true:=by
  rw[List.all_eq_true]at hz;exact hz (fd.offset,((P.info? fd.type).map (·.size)).getD 0) (List.mem_map.2 ⟨fd,by rw[Array.mem_toList_iff];exact Array.mem_of_getElem? aA,rfl⟩)
 cases hi:P.info? fd.type with
 | none=>rw[hi]at h2;cases h2
 | some i=>
  rw[hi]at h2;simp only[Option.map_some,Option.getD_some,bne_iff_ne,ne_eq]at h2;unfold Instr.fieldAt;rw[Sem.run_bind,run_underlying hu];simp[aA,Instr.sureAddr,fieldPlace,sizeOf,typeInfo,hi,h2,zCk]
theorem zAr.run_part(h:zAr P t d){f:Nat}{q:Nat×Nat}(hf:d.fs[f]?=some q)(w:World){cs:List Value}(hl:q.1+q.2<=cs.length) :
  (Instr.field t (.agg cs.toArray) f).run P w = .ok (if q.2=1 then cs.getD q.1 (.bool false)else .agg ((cs.drop q.1).take q.2).toArray) w:=by
 obtain⟨u,hu,e⟩:=h.dsc;have hz:=h.fz;have cA:=h.fa;have gA:d.fs≠[]:=fun e'=>by rw[e']at hf;cases hf
 cases u<;>simp only[zMd,Prod.mk.injEq]at e<;>first | (exact absurd e.2.1.symm gA) | skip
 rename_i fs
 rw[hu]at cA;rw[<-e.2.1]at hf hz;simp only[List.getElem?_map,Option.map_eq_some_iff,Array.getElem?_toList]at hf;obtain⟨fd,dA,rfl⟩:=hf;have aA:fd∈fs.toList:=by rw[Array.mem_toList_iff];exact Array.mem_of_getElem? dA
 have h2:(((P.info? fd.type).map (·.size)).getD 0 != 0)=true:=by
  rw[List.all_eq_true]at hz;exact hz (fd.offset,((P.info? fd.type).map (·.size)).getD 0) (List.mem_map.2 ⟨fd,aA,rfl⟩)
 simp only[Option.map_some,Option.some.injEq,zdX,List.all_eq_true]at cA;have h3:=cA fd aA;simp only[Bool.and_eq_true,beq_iff_eq]at h3;cases hi:P.info? fd.type with
 | none=>rw[hi]at h2;cases h2
 | some i=>
  rw[hi]at h2 h3;simp only[Option.map_some,Option.getD_some,bne_iff_ne,ne_eq]at h2 h3;simp only[hi,Option.map_some,Option.getD_some]at hl;cases hun:P.underlying fd.type with
  | none=>rw[hun]at h3;cases h3.1
  | some un=>
   have eA:(isAgg fd.type).run P w = .ok (i.size != 1) w:=by
    rw[<-h3.2];unfold isAgg zbw;rw[Sem.run_bind,run_underlying hun,hun];cases un<;>rfl
   unfold Instr.field;rw[Sem.run_bind,run_underlying hu];simp only[Result.andThen_ok,dA,Option.map_some,Option.getD_some];have bA:(asAgg (.agg cs.toArray)).run P w = .ok cs.toArray w:=rfl;rw[Sem.run_bind,bA];simp only[Result.andThen_ok,part,Sem.run_bind,eA];by_cases h1:i.size=1
   ·have fA:fd.offset<cs.length:=(by omega);simp[h1,fA]
   ·simp[h1,sizeOf,typeInfo,hi,List.take_drop]
theorem zAr.run_index(h:zAr P t d)(he:d.el≠0){de:TyD}(h':zAr P d.el de){w:World}{b o n c:Nat}{K:IntKind}{ix:Int}(h0:0<=ix)(h1:ix<n) :
  (Instr.indexAt t (.slice (some ⟨b,o,none⟩) n c) (.int K ix)).run P w = .ok (.pointer (some ⟨b,o+ix.toNat*de.k,none⟩)) w:=by
 unfold Instr.indexAt;simp[asIntOf,run_underlying (h.slice he),h0,h1,h'.run_size,zCk]
theorem zAr.run_alloc(h:zAr P t d)(w:World):(Instr.alloc t true (.tuple #[])).run P w = .ok (.pointer (some ⟨w.heap.size,0,none⟩)) (w.alloc (.cells d.z.toArray t)):=by
 unfold Instr.alloc;simp[h.run_zero,newVar,newRow,h.zcells]
theorem zaB(t:Nat)(y:Value)(w:World):(Instr.box t y).run P w = .ok (.pointer (some ⟨w.heap.size,0,none⟩)) (w.alloc (.cells y.cells t)):=by
 simp[Instr.box,newVar,newRow]
end
structure Tb where
 ty:Nat->Option TyD
 bt:Nat
 pt:Nat
 sx:Nat
 tk:Nat
 mv:Nat
 by':Nat
 u8:Nat
 ik:Nat->Option IntKind
structure zF4 (P:Program) (T:Tb):Prop where
 ok:∀t d,T.ty t=some d->zAr P t d
 hb:P.underlying T.bt=some .bool
 hs:P.underlying T.sx=some .string
 hp:∀(a b c d:Int) (w:World),(Op.equal T.pt (.agg #[.int .i64 a,.int .i64 b]) (.agg #[.int .i64 c,.int .i64 d])).run P w = .ok (a == c && b == d) w
 hg:P.eqGuardType P.depth T.pt=false
 hby:P.underlying T.by'=some (.slice T.u8)
 hu8:P.underlying T.u8=some (.int .u8)
 hik:∀t k,T.ik t=some k->P.underlying t=some (.int k)
structure Dl where
 c:Prop
 av:Option Av
 ob:List (Nat×Ob)
 nw:Bool
def zAl(op:BinOp)(k:IntKind)(a:Int)(k':IntKind)(b:Int):Option (Prop×Value):=
 match op with
 | .shl=>some (0<=b,.int k (k.wrap (a*2 ^ (min b.toNat k.bits))))
 | .shr=>some (0<=b,.int k (a.fdiv (2 ^ (min b.toNat k.bits))))
 | .add=>if k=k' then some (True,.int k (k.wrap (a+b)))else none
 | .sub=>if k=k' then some (True,.int k (k.wrap (a - b)))else none
 | .mul=>if k=k' then some (True,.int k (k.wrap (a*b)))else none
 | .quo=>if k=k' then some (b≠0,.int k (k.wrap (a.tdiv b)))else none
 | .rem=>if k=k' then some (b≠0,.int k (a.tmod b))else none
 | .xor=>if k=k' then some (True,.int k (k.wrap ((BitVec.ofInt k.bits a ^^^ BitVec.ofInt k.bits b).toNat)))else none
 | .eql=>if k=k' then some (True,.bool (a == b))else none
 | .neq=>if k=k' then some (True,.bool (a != b))else none
 | .lss=>if k=k' then some (True,.bool (decide (a<b)))else none
 | .leq=>if k=k' then some (True,.bool (decide (a<=b)))else none
 | .gtr=>if k=k' then some (True,.bool (decide (a>b)))else none
 | .geq=>if k=k' then some (True,.bool (decide (a>=b)))else none
 | _=>none
theorem zaq{P:Program}{op:BinOp}{k k':IntKind}{a b:Int}{c:Prop}{v:Value}(h:zAl op k a k' b=some (c,v))(hc:c)(t:Nat)(x y:Operand)(w:World) :
  (do eqGuard op t x y (.int k a) (.int k' b);binOp op t (.int k a) (.int k' b):Sem Value).run P w = .ok v w/\v.oneCell'=true:=by
 unfold zAl at h;cases op<;>dsimp only at h<;>(try split at h)<;>(try (cases h;done))<;>(simp only[Option.some.injEq,Prod.mk.injEq]at h;obtain⟨rfl,rfl⟩:=h)<;>(try subst_vars)<;>(try (have aA:=Int.not_lt.2 hc)) <;>
  simp_all[eqGuard,binOp,Op.shift,Op.intArith,Op.intDiv,Op.intBits,Op.intCmp,Value.oneCell']<;>(intro h';omega)
def zCO(op:BinOp)(a b:ByteArray):Option (Prop×Value):=
 match op with
 | .add=>some (a.size+b.size<=1000000000,.string (a ++ b))
 | .eql=>some (True,.bool (a.toList == b.toList))
 | .neq=>some (True,.bool (!(a.toList == b.toList)))
 | .lss=>some (True,.bool (Op.bytesLess a.toList b.toList))
 | .geq=>some (True,.bool (!Op.bytesLess a.toList b.toList))
 | _=>none
theorem zar{P:Program}{op:BinOp}{a b:ByteArray}{c:Prop}{v:Value}(h:zCO op a b=some (c,v))(hc:c)(t:Nat)(x y:Operand)(w:World) :
  (do eqGuard op t x y (.string a) (.string b);binOp op t (.string a) (.string b):Sem Value).run P w = .ok v w/\v.oneCell'=true:=by
 unfold zCO at h;cases op<;>dsimp only at h<;>(try (cases h;done))<;>(simp only[Option.some.injEq,Prod.mk.injEq]at h;obtain⟨rfl,rfl⟩:=h) <;>
  simp[eqGuard,binOp,Op.stringOp,Value.oneCell']
 omega
theorem zMe{P:Program}{t:Nat}(h:P.underlying t=some .bool)(a b:Bool)(w:World):(Op.equal t (.bool a) (.bool b)).run P w = .ok (a == b) w:=by
 show(Op.equalIn (9999+1) t (.bool a) (.bool b)).run P w=_;rw[Op.equalIn,Sem.run_bind,run_underlying h];rfl
def bin(T:Tb)(op:BinOp)(t:Nat):Av->Av->Option (Prop×Value)
 | .m false [.v (.int k a)],.m false [.v (.int k' b)]=>zAl op k a k' b
 | .m false [.v (.string a)],.m false [.v (.string b)]=>zCO op a b
 | .m false [.v (.bool a)],.m false [.v (.bool b)]=>
  if t=T.bt then match op with
   | .eql=>some (True,.bool (a == b))
   | .neq=>some (True,.bool (!(a == b)))
   | _=>none
  else none
 | .m true [.v (.int .i64 a),.v (.int .i64 b)],.m true [.v (.int .i64 c),.v (.int .i64 d)]=>
  if t=T.pt then match op with
   | .eql=>some (True,.bool (a == c && b == d))
   | .neq=>some (True,.bool (!(a == c && b == d)))
   | _=>none
  else none
 | _,_=>none
theorem vl1{w:World}{E:En}{D:Nat->Prop}{x:Cv}{y:Value}(h:AvR w E D (.m false [x]) y):CvR w E D x y:=by
 obtain⟨x',e,h⟩:=h;cases e;exact h
theorem vl2{w:World}{E:En}{D:Nat->Prop}{a b:Value}{y:Value}(h:AvR w E D (.m true [.v a,.v b]) y):y = .agg #[a,b]:=by
 obtain⟨cs,rfl,h⟩:=h;cases h with
 | cons h1 t=>
  cases t with
  | cons h2 t=>
   cases t;rw[h1.1,h2.1]
theorem zcn{P:Program}{T:Tb}(hT:zF4 P T){op:BinOp}{t:Nat}{p q:Av}{c:Prop}{v:Value}(h:bin T op t p q=some (c,v))(hc:c){w:World}{E:En}{D:Nat->Prop}{a b:Value}(ha:AvR w E D p a)(hb:AvR w E D q b)(x y:Operand) :
  (do eqGuard op t x y a b;binOp op t a b:Sem Value).run P w = .ok v w/\v.oneCell'=true:=by
 unfold bin at h;split at h
 ·obtain⟨rfl,-⟩:=vl1 ha;obtain⟨rfl,-⟩:=vl1 hb;exact zaq h hc t x y w
 ·obtain⟨rfl,-⟩:=vl1 ha;obtain⟨rfl,-⟩:=vl1 hb;exact zar h hc t x y w
 ·obtain⟨rfl,-⟩:=vl1 ha;obtain⟨rfl,-⟩:=vl1 hb;split at h
  ·rename_i ht
   subst ht;split at h<;>simp only[Option.some.injEq,Prod.mk.injEq,reduceCtorEq]at h
   ·obtain⟨-,rfl⟩:=h;simp[eqGuard,binOp,zMe hT.hb,Value.oneCell']
   ·obtain⟨-,rfl⟩:=h;simp[eqGuard,binOp,zMe hT.hb,Value.oneCell']
  ·cases h
 ·have e1:=vl2 ha;have e2:=vl2 hb;subst e1 e2;split at h
  ·rename_i ht
   subst ht;split at h<;>simp only[Option.some.injEq,Prod.mk.injEq,reduceCtorEq]at h
   ·obtain⟨-,rfl⟩:=h;simp[eqGuard,binOp,hT.hp,hT.hg,Value.oneCell']
   ·obtain⟨-,rfl⟩:=h;simp[eqGuard,binOp,hT.hp,hT.hg,Value.oneCell']
  ·cases h
 ·cases h
def Tr.cv:Tr->Cv
 | .v x=>.v x
 | .s .b k n f=>.s .b k n f
 | .s _ k n f=>.s .z k n f
theorem Sh.cv{w:World}{E:En}{D:Nat->Prop}{T:Tr}{u:Value}(h:Sh w E.g T u):CvR w E D T.cv u:=by
 cases T with
 | v x=>exact h
 | s fl k n f=>
  cases fl with
  | b=>exact h
  | z=>exact h
  | o=>
   obtain⟨a,c,e,hn,hc⟩:=h;refine⟨a,c,e,hn,fun h0=>?_⟩;obtain⟨b,o,ha,hb,bA,aA⟩:=hc h0;refine⟨b,o,ha,hb,?_,aA⟩;cases hg:E.g b with
   | fz r=>rw[hg]at bA;exact .inr (bA.resolve_left (by simp))
   | ow q lim=>rw[hg]at bA;exact bA
theorem VlR.of{w:World}{E:En}{D:Nat->Prop}{d:TyD}{l:List Cv}{cs:List Value}(h:CsR w E D l cs)(hl:cs.length=d.k)(hg:d.g=false->d.k=1):VlR w E D d.g l (if d.g then .agg cs.toArray else cs.headD (.bool false)):=by
 cases e:d.g with
 | true=>exact⟨cs,by simp,h⟩
 | false=>
  rw[hg e]at hl;cases h with
  | nil=>simp at hl
  | cons h1 t=>
   cases t with
   | nil=>exact⟨_,rfl,h1⟩
   | cons _ _=>simp at hl
theorem zGr{w:World}{b o:Nat}{R:Cv->Value->Prop}(l:Nat->Cv):∀(m:Nat),(∀q,q<m->∃u,w.cell? ⟨b,o+q,none⟩=some u/\R (l q) u)->
  ∃cs:List Value,cs.length=m/\(∀j u,cs[j]?=some u->w.cell? ⟨b,o+j,none⟩=some u)/\qE R ((List.range m).map l) cs
 | 0,_=>⟨[],rfl,fun j u h=>by simp at h,.nil⟩
 | m+1,h=>by
  obtain⟨cs,hl,hc,ha⟩:=zGr l m (fun q hq=>h q (by omega));obtain⟨u,hu,hr⟩:=h m (by omega);refine⟨cs ++ [u],by simp[hl],fun j v hj=>?_,?_⟩
  ·rw[List.getElem?_append]at hj;split at hj
   ·exact hc j v hj
   ·rename_i hn
    have:j=m:=by
     have h2:=(List.getElem?_eq_some_iff.1 hj).1;simp at h2;omega
    subst this;rw[hl]at hj;simp at hj;rw[<-hj];exact hu
  ·rw[List.range_succ,List.map_append];exact ha.append (.cons hr .nil)
def evLoad(d:TyD)(ob:List (Nat×Ob)):Cv->Option (Prop×Av)
 | .p i o=>match get ob i with
  | some (.var l)=>if o+d.k<=l.length then some (True,.m d.g ((l.drop o).take d.k))else none
  | _=>none
 | .e i k a j=>match get ob i with
  | some (.row k' n f)=>if k'=k/\j+d.k<=k then some (a<n,.m d.g ((List.range d.k).map fun c=>(f a (j+c)).cv))else none
  | _=>none
 | .q fl k n f a j=>if j+d.k<=k then some (True,.m d.g ((List.range d.k).map fun c=>(f a (j+c)).cv))else none
 | _=>none
theorem zO7{P:Program}{t:Nat}{d:TyD}(h:zAr P t d){w:World}{E:En}{ob:List (Nat×Ob)}(ho:qO w E ob){x:Cv}{c:Prop}{av:Av}(he:evLoad d ob x=some (c,av))(hc:c){y:Value}(hy:CvR w E (dom ob) x y) :
  ∃z,(Instr.loadAt t y).run P w = .ok z w/\AvR w E (dom ob) av z:=by
 cases x with
 | v x=>cases he
 | s fl k n f=>cases he
 | h i=>cases he
 | hs i k lo n=>cases he
 | p i o=>
  simp only[evLoad]at he;split at he
  ·rename_i l hi
   split at he
   ·rename_i bA
    simp only[Option.some.injEq,Prod.mk.injEq]at he;obtain⟨rfl,rfl⟩:=he;obtain⟨hg,cs,T,hh,dA⟩:=ho i _ hi;obtain⟨-,rfl⟩:=hy;have eA:=dA.length;have h1:((cs.drop o).take d.k).length=d.k:=(by simp;omega);refine⟨_,h.run_load h1 (fun j u hj=>?_),VlR.of ((dA.drop o).take d.k) h1 h.gk⟩;rw[cell_of_row w _ _ _ T _ hh];rw[List.getElem?_take]at hj;split at hj
    ·rw[List.getElem?_drop]at hj;simpa using hj
    ·cases hj
   ·cases he
  ·cases he
 | e i k a j=>
  simp only[evLoad]at he;split at he
  ·rename_i k' n f hi
   split at he
   ·rename_i bA
    simp only[Option.some.injEq,Prod.mk.injEq]at he;obtain⟨rfl,rfl⟩:=he;obtain⟨rfl,bA⟩:=bA;obtain⟨a',cap,hv,hn,cA⟩:=ho i _ hi;obtain⟨-,-,cs,T,hh,hl,aA⟩:=cA (by omega);obtain⟨-,rfl⟩:=hy;obtain⟨vs,h1,h2,h3⟩:=zGr (w:=w) (b:=E.bl i) (o:=a*k'+j) (R:=CvR w E (dom ob)) (fun c=>(f a (j+c)).cv) d.k (fun q hq=>by
     obtain⟨u,hu,hs,-⟩:=aA a (j+q) hc (by omega);refine⟨u,?_,hs.cv⟩;rw[cell_of_row w _ _ _ T _ hh];simpa[Nat.add_assoc]using hu)
    exact⟨_,h.run_load h1 h2,VlR.of h3 h1 h.gk⟩
   ·cases he
  ·cases he
 | q fl k n f a j=>
  simp only[evLoad]at he;split at he
  ·rename_i bA
   simp only[Option.some.injEq,Prod.mk.injEq]at he;obtain⟨rfl,rfl⟩:=he;obtain⟨ha,b,o,rfl,a',c',e,-,hs⟩:=hy;cases e;obtain⟨b',o',e,hb,fA,aA⟩:=hs (by omega);cases e;obtain⟨vs,h1,h2,h3⟩:=zGr (w:=w) (b:=b) (o:=o+(a*k+j)) (R:=CvR w E (dom ob)) (fun c=>(f a (j+c)).cv) d.k (fun q hq=>by
    obtain⟨u,hu,hs⟩:=aA a (j+q) ha (by omega);refine⟨u,?_,hs.cv⟩;simpa[Nat.add_assoc]using hu)
   exact⟨_,h.run_load h1 h2,VlR.of h3 h1 h.gk⟩
  ·cases he
def Cv.tr:Cv->Option Tr
 | .v x=>some (.v x)
 | .s .b k n f=>some (.s .b k n f)
 | .s _ k n f=>some (.s .z k n f)
 | _=>none
theorem Cv.tr_ok{w:World}{E:En}{D:Nat->Prop}{x:Cv}{T:Tr}{u:Value}(h:x.tr=some T)(hx:CvR w E D x u):Sh w E.g T u/\∀B j,zAb w E.g B j T u:=by
 cases x with
 | v x=>cases h;exact⟨hx,fun _ _=>trivial⟩
 | s fl k n f=>
  cases fl with
  | b=>cases h;exact⟨hx,fun _ _=>trivial⟩
  | z=>cases h;exact⟨hx,fun _ _=>trivial⟩
  | o=>cases h;exact⟨Sh.cv (D:=D) (T:=.s .o k n f) hx,fun _ _=>trivial⟩
 | _=>cases h
def yN(f:Nat->Nat->Tr)(a j:Nat)(l:List Tr):Nat->Nat->Tr:=fun p q=>if p=a/\j<=q/\q<j+l.length then l.getD (q - j) (.v (.bool false))else f p q
def trs:List Cv->Option (List Tr)
 | []=>some []
 | x :: r=>match x.tr,trs r with
  | some T,some l=>some (T :: l)
  | _,_=>none
theorem zUg{w:World}{E:En}{D:Nat->Prop}:∀{l:List Cv} {m:List Tr} {ys:List Value},trs l=some m->CsR w E D l ys->qE (fun T u=>Sh w E.g T u/\∀B j,zAb w E.g B j T u) m ys
 | [],m,ys,h,hy=>by cases h;cases hy;exact .nil
 | x :: r,m,ys,h,hy=>by
  simp only[trs]at h;split at h
  ·rename_i T l hT hl
   cases h;cases hy with
   | cons h1 t=>exact .cons (Cv.tr_ok hT h1) (zUg hl t)
  ·cases h
def evStore(d:TyD)(ob:List (Nat×Ob))(l:List Cv):Cv->Option (Prop×List (Nat×Ob))
 | .p i o=>match get ob i with
  | some (.var m)=>if o+d.k<=m.length/\l.length=d.k then some (True,put ob i (.var (m.take o ++ l ++ m.drop (o+d.k))))else none
  | _=>none
 | .e i k a j=>match get ob i,trs l with
  | some (.row k' n f),some ts=>if k'=k/\j+d.k<=k/\l.length=d.k then some (a<n,put ob i (.row k n (yN f a j ts)))else none
  | _,_=>none
 | _=>none
theorem zdL{α : Type}(c y:List α)(o x:Nat)(h:o+y.length<=c.length):(c.take o ++ y ++ c.drop (o+y.length))[x]?=if o<=x/\x<o+y.length then y[x - o]? else c[x]?:=by
 rw[List.append_assoc,List.getElem?_append,List.getElem?_append];simp only[List.length_take,List.getElem?_take,List.getElem?_drop];have hm:min o c.length=o:=by omega
 rw[hm];by_cases h1:x<o
 ·simp[h1,show ¬(o<=x/\x<o+y.length)by omega]
 ·by_cases h2:x<o+y.length
  ·simp[h1,show x - o<y.length by omega,show o<=x/\x<o+y.length by omega]
  ·simp only[h1,if_false,show ¬(x - o<y.length)by omega,show ¬(o<=x/\x<o+y.length)by omega];congr 1;omega
theorem zPk{w:World}{E:En}{ob:List (Nat×Ob)}(ho:qO w E ob){i k n:Nat}{f:Nat->Nat->Tr}(hi:get ob i=some (.row k n f)){a j:Nat}(ha:a<n){ts:List Tr}{us:List Value}(hl:ts.length=us.length)(hj:j+ts.length<=k)(hp:0<ts.length)
  (h:∀(x:Nat) T u,ts[x]?=some T->us[x]?=some u->Sh w E.g T u/\zAb w E.g (E.bl i) (a*k+j+x) T u) :
  ∃(cs:List Value) (T:TypeId),w.heap[E.bl i]?=some (.cells cs.toArray T (0,0))/\a*k+j+us.length<=cs.length/\ql (dom ob) w E (w.setRow (E.bl i) (cs.take (a*k+j) ++ us ++ cs.drop (a*k+j+us.length)).toArray) E/\
   qO (w.setRow (E.bl i) (cs.take (a*k+j) ++ us ++ cs.drop (a*k+j+us.length)).toArray) E (put ob i (.row k n (yN f a j ts))):=by
 obtain⟨a',cap,hv,hn,gA⟩:=ho i _ hi;obtain⟨nA,hg,cs,T,hh,vA,bA⟩:=gA (by omega);have hd:dom ob i:=by unfold dom;rw[hi];rfl
 have tA:=zEv ha (show j+ts.length - 1<k by omega);have pA:=Nat.mul_le_mul_right k hn;have cA:a*k+j+us.length<=cs.length:=by omega
 have aA:∀(c:Array Value) (B c':Nat) (T:Tr) (u:Value),zAb w E.g B c' T u->zAb (w.setRow (E.bl i) c) E.g B c' T u:=fun c B c' T u=>by
  cases T with
  | v x=>exact id
  | s fl k2 n2 f2=>
   cases fl with
   | b=>exact id
   | z=>exact id
   | o=>
    rintro⟨a2,c2,rfl,oA⟩;refine⟨a2,c2,rfl,fun h0=>?_⟩;obtain⟨b,hb,eA,mA,t2,dA,jA⟩:=oA h0;exact⟨b,hb,eA,mA,t2,by rw[zAB _ _ _ _ (fun e=>by rw[e,hg]at eA;cases eA)];exact dA,jA⟩
 obtain⟨h1,h2⟩:=ho.set hd hg (c:=(cs.take (a*k+j) ++ us ++ cs.drop (a*k+j+us.length)).toArray) (b:=.row k n (yN f a j ts)) (fun hx=>by
  refine⟨a',cap,hv,hn,fun h0=>⟨nA,hg,_,T,setRow_heap _ _ _ _ _ _ hh,?_,fun p q hp hq=>?_⟩⟩
  ·simp;omega
  ·rw[zdL cs us (a*k+j) (p*k+q) cA];by_cases fA:p=a/\j<=q/\q<j+ts.length
   ·obtain⟨rfl,h3,h4⟩:=fA;rw[if_pos (by omega)];have h5:ts[q - j]?=some ts[q - j]:=List.getElem?_eq_getElem (by omega);have lA:us[q - j]?=some us[q - j]:=List.getElem?_eq_getElem (by omega);obtain⟨iA,kA⟩:=h _ _ _ h5 lA;have h6:yN f p j ts p q=ts[q - j]:=by
     unfold yN;rw[if_pos ⟨rfl,h3,h4⟩,List.getD_eq_getElem?_getD,h5];rfl
    rw[h6];refine⟨us[q - j],?_,iA.kp hx.kp,?_⟩
    ·rw[<-lA];congr 1;omega
    ·have:=aA (cs.take (p*k+j) ++ us ++ cs.drop (p*k+j+us.length)).toArray _ _ _ _ kA
     rwa [show p*k+j+(q - j)=p*k+q by omega]at this
   ·have rA:¬(a*k+j<=p*k+q/\p*k+q<a*k+j+us.length):=by
     intro aB;apply fA;have sA:p=a:=by
      rcases Nat.lt_trichotomy p a with h7 | h7 | h7
      ·have:=Nat.mul_le_mul_right k (show p+1<=a from h7);rw[Nat.add_mul,Nat.one_mul]at this;omega
      ·exact h7
      ·have:=Nat.mul_le_mul_right k (show a+1<=p from h7);rw[Nat.add_mul,Nat.one_mul]at this;omega
     subst sA;omega
    rw[if_neg rA];obtain⟨u,hu,iA,kA⟩:=bA p q hp hq;have h6:yN f a j ts p q=f p q:=(by unfold yN;rw[if_neg fA]);rw[h6];exact⟨u,hu,iA.kp hx.kp,aA _ _ _ _ _ kA⟩)
 exact⟨cs,T,hh,cA,h1,h2⟩
theorem zMh{P:Program}{t:Nat}{d:TyD}(h:zAr P t d){w:World}{E:En}{ob ob':List (Nat×Ob)}(ho:qO w E ob){x:Cv}{l:List Cv}{c:Prop}(he:evStore d ob l x=some (c,ob'))(hc:c){y z:Value}(hy:CvR w E (dom ob) x y){g:Bool}(hz:VlR w E (dom ob) g l z) :
  ∃w',(Instr.storeAt t y z).run P w = .ok () w'/\ql (dom ob) w E w' E/\(∀i,dom ob i->dom ob' i)/\qO w' E ob':=by
 have bA:=hz.cells;have lA:=bA.length;cases x with
 | v x=>cases he
 | s fl k n f=>cases he
 | h i=>cases he
 | hs i k lo n=>cases he
 | q fl k n f a j=>cases he
 | p i o=>
  simp only[evStore]at he;split at he
  ·rename_i m hi
   split at he
   ·rename_i dA
    simp only[Option.some.injEq,Prod.mk.injEq]at he;obtain⟨rfl,rfl⟩:=he;obtain⟨hg,cs,T,hh,cA⟩:=ho i _ hi;obtain⟨-,rfl⟩:=hy;have gA:=cA.length;have hd:dom ob i:=(by unfold dom;rw[hi];rfl);have hs:z.cells.size=d.k:=(by rw[<-Array.length_toList];omega);refine⟨_,h.run_store hh hs (by omega) bA.one,?_⟩;obtain⟨h1,h2⟩:=ho.set hd hg (c:=(cs.take o ++ z.cells.toList ++ cs.drop (o+d.k)).toArray) (b:=.var (m.take o ++ l ++ m.drop (o+d.k))) (fun hx=>⟨hg,_,T,setRow_heap _ _ _ _ _ _ hh,CsR.ext hx (fun j hj=>qL hj) (qE.append (qE.append (qE.take cA o) bA) (qE.drop cA (o+d.k)))⟩);exact⟨h1,fun j hj=>qL hj,h2⟩
   ·cases he
  ·cases he
 | e i k a j=>
  simp only[evStore]at he;split at he
  ·rename_i k' n f ts hi hts
   split at he
   ·rename_i dA
    simp only[Option.some.injEq,Prod.mk.injEq]at he;obtain⟨rfl,rfl⟩:=he;obtain⟨rfl,dA,kA⟩:=dA;obtain⟨-,rfl⟩:=hy;have hs:z.cells.size=d.k:=(by rw[<-Array.length_toList];omega);have hT:=zUg hts bA;have fA:=hT.length;have jA:z.cells.toList.length=d.k:=(by simpa using hs);have iA:=h.pos;obtain⟨cs,T,hh,aA,h1,h2⟩:=zPk ho hi hc (ts:=ts) (us:=z.cells.toList) (j:=j) fA (by omega) (by omega) (fun x T u hx hu=>by
     obtain⟨u',eA,h3,h4⟩:=hT.at hx;rw[hu]at eA;cases eA;exact⟨h3,h4 _ _⟩)
    rw[jA]at aA h1 h2;exact⟨_,h.run_store hh hs aA bA.one,h1,fun j hj=>qL hj,h2⟩
   ·cases he
  ·cases he
def rowE(ob:List (Nat×Ob))(r:Nat):Option (Nat×Nat×(Nat->Nat->Tr)):=
 match get ob r with
 | some (.row k n f)=>some (k,n,f)
 | some (.tl k n f)=>some (k,n,f)
 | _=>none
theorem zGc{w:World}{E:En}{ob:List (Nat×Ob)}(ho:qO w E ob){r k n:Nat}{f:Nat->Nat->Tr}(hr:rowE ob r=some (k,n,f)):dom ob r/\∃a cap,E.hv r = .slice a n cap/\n<=cap/\(0<cap->a=some ⟨E.bl r,0,none⟩/\(∃aA,E.g (E.bl r) = .ow (.nm r) aA/\aA<=n*k)/\∃(c:List Value) (t:TypeId),w.heap[E.bl r]?=some (.cells c.toArray t (0,0))/\c.length=cap*k/\
   ∀p j,p<n->j<k->∃u,c[p*k+j]?=some u/\Sh w E.g (f p j) u):=by
 unfold rowE at hr;split at hr
 ·rename_i k' n' f' hi
  cases hr;obtain⟨a,cap,h1,h2,h3⟩:=ho _ _ hi;refine⟨by unfold dom;rw[hi];rfl,a,cap,h1,h2,fun h0=>?_⟩;obtain⟨g1,g2,c,t,g3,g4,g5⟩:=h3 h0;exact⟨g1,⟨0,g2,Nat.zero_le _⟩,c,t,g3,g4,fun p j hp hj=>let ⟨u,hu,hs,_⟩:=g5 p j hp hj;⟨u,hu,hs⟩⟩
 ·rename_i k' n' f' hi
  cases hr;obtain⟨a,cap,h1,h2,h3⟩:=ho _ _ hi;refine⟨by unfold dom;rw[hi];rfl,a,cap,h1,h2,fun h0=>?_⟩;obtain⟨g1,g2,c,t,g3,g4,g5⟩:=h3 h0;exact⟨g1,⟨_,g2,Nat.le_refl _⟩,c,t,g3,g4,g5⟩
 ·cases hr
theorem zZz{w:World}{E:En}{ob:List (Nat×Ob)}(ho:qO w E ob){r k n:Nat}{f:Nat->Nat->Tr}(hr:rowE ob r=some (k,n,f)){s:Bs}(hs:s = .fz none\/∃o,s = .ow o (n*k)) :
  ∃E',E'.bl=E.bl/\E'.hv=E.hv/\(∀b,b≠E.bl r->E'.g b=E.g b)/\ql (dom ob) w E w E'/\qO w E' (put ob r .dead)/\Sh w E'.g (.s .z k n f) (E.hv r)/\(∀B c,s = .ow (.tl B c) (n*k)->zAb w E'.g B c (.s .o k n f) (E.hv r))/\
   ∀a cap,E.hv r = .slice a n cap->0<cap->E'.g (E.bl r)=s:=by
 obtain⟨hd,a,cap,hv,hn,hc⟩:=zGc ho hr;rcases Nat.eq_zero_or_pos cap with e0 | e0
 ·refine⟨E,rfl,rfl,fun _ _=>rfl,ql.refl _ _ _,fun j o hj=>?_,⟨a,cap,hv,hn,fun h0=>by omega⟩,fun B c e=>⟨a,cap,hv,fun h0=>by omega⟩,fun a' c' e h0=>?_⟩
  ·rw[ze]at hj;by_cases e:r=j
   ·rw[if_pos e]at hj;cases hj;trivial
   ·rw[if_neg e]at hj;exact ObR.ext (ql.refl _ _ _) (fun j hj=>qL hj) (by unfold dom;rw[hj];rfl) (X:=fun _=>False) (fun _ _ _=>⟨rfl,rfl⟩) (fun _ _ x=>x.elim) (fun _ _ _ _ x=>x.elim) (ho j o hj)
  ·rw[hv]at e;cases e;omega
 ·obtain⟨ha,⟨fA,hg,cA⟩,c,t,hh,hl,aA⟩:=hc e0;have hk:Kp w E.g w (fun b=>if b=E.bl r then s else E.g b):=by
   refine⟨rfl,rfl,rfl,Nat.le_refl _,fun b q hb _=>⟨rfl,?_⟩,fun b o l hb _=>⟨fun _ _=>rfl,?_⟩⟩
   ·have dA:b≠E.bl r:=fun e=>by rw[e,hg]at hb;cases hb
    rw[if_neg dA];exact hb
   ·by_cases e:b=E.bl r
    ·rcases hs with rfl | ⟨o',rfl⟩
     ·exact .inr (if_pos e)
     ·refine .inl ⟨o',_,if_pos e,?_⟩;rw[e,hg]at hb;cases hb;exact cA
    ·exact .inl ⟨o,l,by rw[if_neg e];exact hb,Nat.le_refl _⟩
  have hx:ql (dom ob) w E w ⟨fun b=>if b=E.bl r then s else E.g b,E.bl,E.hv⟩:=⟨hk,fun _ _=>rfl,fun _ _=>rfl⟩;refine⟨⟨fun b=>if b=E.bl r then s else E.g b,E.bl,E.hv⟩,rfl,rfl,fun b hb=>if_neg hb,hx,fun j o hj=>?_,⟨a,cap,hv,hn,fun h0=>⟨E.bl r,0,ha,(Array.getElem?_eq_some_iff.1 hh).1,?_,fun p j hp hj=>?_⟩⟩,fun B c' e=>⟨a,cap,hv,fun _=>⟨E.bl r,ha,by simpa using e,_,t,hh,by simpa using hl⟩⟩,fun _ _ _ _=>if_pos rfl⟩
  ·rw[ze]at hj;by_cases e:r=j
   ·rw[if_pos e]at hj;cases hj;trivial
   ·rw[if_neg e]at hj;refine ObR.ext hx (fun j hj=>qL hj) (by unfold dom;rw[hj];rfl) (X:=fun b=>b=E.bl r) (fun b _ hb=>⟨rfl,if_neg hb⟩) (fun b l hb bA=>?_) (fun _ b j' l hb bA=>?_) (ho j o hj)
    ·rw[hb,hg]at bA;cases bA;exact e rfl
    ·rw[hb,hg]at bA;cases bA
  ·rcases hs with rfl | ⟨o',rfl⟩
   ·simp[Bs.ok]
   ·simp[Bs.ok]
  ·obtain⟨u,hu,eA⟩:=aA p j hp hj;refine⟨u,?_,eA.kp hk⟩;rw[Nat.zero_add];simp[World.cell?,hh,hu]
def evStoreH(d:TyD)(ob:List (Nat×Ob))(r:Nat):Cv->Option (Prop×List (Nat×Ob))
 | .e i k a j=>match get ob i,rowE ob r with
  | some (.row k' n f),some (kk,m,h)=>if k'=k/\j+1<=k/\d.k=1/\r≠i then some (a<n,put (put ob r .dead) i (.row k n (yN f a j [.s .o kk m h])))else none
  | _,_=>none
 | _=>none
theorem zRj{P:Program}{t:Nat}{d:TyD}(h:zAr P t d){w:World}{E:En}{ob ob':List (Nat×Ob)}(ho:qO w E ob){x:Cv}{r:Nat}{c:Prop}(he:evStoreH d ob r x=some (c,ob'))(hc:c){y z:Value}(hy:CvR w E (dom ob) x y){g:Bool}(hz:VlR w E (dom ob) g [.h r] z) :
  ∃w' E',(Instr.storeAt t y z).run P w = .ok () w'/\ql (dom ob) w E w' E'/\(∀i,dom ob i->dom ob' i)/\qO w' E' ob':=by
 have dA:=hz.cells;have mA:=dA.length;cases x with
 | e i k a j=>
  simp only[evStoreH]at he;split at he
  ·rename_i k' n f kk m h' hi hr
   split at he
   ·rename_i eA
    simp only[Option.some.injEq,Prod.mk.injEq]at he;obtain⟨rfl,rfl⟩:=he;obtain⟨rfl,eA,cA,kA⟩:=eA;obtain⟨-,rfl⟩:=hy;obtain⟨E1,e1,e2,e3,x1,o1,s1,t1,-⟩:=zZz ho hr (s:=.ow (.tl (E.bl i) (a*k'+j)) (m*kk)) (.inr ⟨_,rfl⟩);have iA:get (put ob r .dead) i=some (.row k' n f):=(by rw[ze,if_neg kA];exact hi);have hs:z.cells.size=d.k:=(by rw[<-Array.length_toList,<-mA,cA];rfl);have aA:z.cells.toList.length=d.k:=(by simpa using hs);obtain⟨cs,T,hh,bA,h1,h2⟩:=zPk o1 iA hc (ts:=[.s .o kk m h']) (us:=z.cells.toList) (j:=j) (cA.symm.trans aA.symm) (by simpa using eA) (by simp) (fun x T u hx hu=>by
     have lA:x=0:=by
      have:=(List.getElem?_eq_some_iff.1 hx).1;simp at this;exact this
     subst lA;simp at hx;subst hx;have nA:z.cells.toList = [u]:=by
      match hzz:z.cells.toList,aA with
      | [v],_=>rw[hzz]at hu;simp at hu;rw[hu]
      | [],aA=>rw[cA]at aA;cases aA
      | _ :: _ :: _,aA=>rw[cA]at aA;simp at aA
     rw[nA]at dA;cases dA with
     | cons h3 _=>
      rw[h3.2.1];refine⟨?_,?_⟩
      ·have:=s1;obtain⟨a1,c1,fA,jA,gA⟩:=this;exact⟨a1,c1,fA,jA,fun h0=>by
        obtain⟨b,o,g1,g2,g3,g4⟩:=gA h0;refine⟨b,o,g1,g2,?_,g4⟩;revert g3;cases E1.g b with
        | fz r=>rintro(h | h);exact absurd h (by simp);exact .inr h
        | ow q l=>exact id⟩
      ·have:=t1 _ _ rfl;rw[e1];simpa using this)
    rw[aA]at bA h1 h2;rw[e1]at hh h1 h2;refine⟨_,E1,h.run_store hh hs bA dA.one,⟨x1.kp.trans h1.kp,fun j hj=>(h1.bl j (qL hj)).trans (x1.bl j hj),fun j hj=>(h1.hv j (qL hj)).trans (x1.hv j hj)⟩,fun j hj=>qL (qL hj),h2⟩
   ·cases he
  ·cases he
 | _=>cases he
end Go.Proofs.YtjganmlaooofoaaGreatDoor
