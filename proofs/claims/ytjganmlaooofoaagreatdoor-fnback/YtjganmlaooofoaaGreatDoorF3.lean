/- A part of the proof. -/
import Derived.Test.YtjganmlaooofoaaGreatDoorF2
set_option linter.unusedVariables false
set_option maxRecDepth 20000
set_option maxHeartbeats 4000000
namespace Go.Proofs.YtjganmlaooofoaaGreatDoor
open Go.RowKit
abbrev zX:=List (Bool×List Tr)->Option (Prop×List (Bool×List Tr))
def g00:Nat->Bs:=fun _=>.fz (some 0)
def zLi(w:World)(g:Nat->Bs)(q:Bool×List Tr)(y:Value):Prop:=
 match q.1 with
 | true=>∃cs:List Value,y = .agg cs.toArray/\qE (Sh w g) q.2 cs
 | false=>∃T,q.2 = [T]/\Sh w g T y
def Tr.kept:Tr->Prop
 | .v _=>True
 | .s fl k n f=>fl≠.b/\∀i j,i<n->j<k->(f i j).kept
def zLv(w':World)(g:Nat->Bs)(id:Nat):Tr->Value->Prop
 | .v x,u=>u=x/\x.oneCell'=true
 | .s .b _ _ _,_=>False
 | .s .z k n f,u=>Sh w' g (.s .z k n f) u/\(Tr.s .z k n f).kept
 | .s .o k n f,u=>∃a cap,u = .slice a n cap/\n<=cap/\(0<cap->∃b,a=some ⟨b,0,none⟩/\g b = .ow (.nm id) 0/\∃(c:List Value) (t:TypeId),w'.heap[b]?=some (.cells c.toArray t (0,0))/\c.length=cap*k/\
   ∀p j,p<n->j<k->∃u,c[p*k+j]?=some u/\Sh w' g (f p j) u/\(f p j).kept/\zAb w' g b (p*k+j) (f p j) u)
def zJU(w':World)(g:Nat->Bs):Nat->List Tr->List Value->Prop
 | _,[],us=>us = []
 | n,T :: r,us=>∃u us',us=u :: us'/\zLv w' g n T u/\zJU w' g (n+1) r us'
def zRM(g:Bool)(y:Value)(cs:List Value):Prop:=
 match g with
 | true=>y = .agg cs.toArray
 | false=>cs = [y]
def zMJ(w':World)(g:Nat->Bs):Nat->List (Bool×List Tr)->List Value->Prop
 | _,[],ys=>ys = []
 | n,q :: r,ys=>∃y ys' cs,ys=y :: ys'/\zRM q.1 y cs/\zJU w' g n q.2 cs/\zMJ w' g (n+q.2.length) r ys'
def zTE(w':World)(g:Nat->Bs)(rs:List (Bool×List Tr))(v:Value):Prop:=
 ∃ys,zMJ w' g 0 rs ys/\match rs with
  | [_]=>ys = [v]
  | _=>v = .tuple ys.toArray
def zDX(P:Program)(f:Nat)(sp:zX)(w:World):Prop:=
 ∀ags c rs,sp ags=some (c,rs)->c->∀(g0:Nat->Bs) (ys:List Value),(∀b,∃r,g0 b = .fz r)->qE (zLi w g0) ags ys->
  Calls P f ys.toArray w fun e w'=>∃v g,e = .returned v/\Kp w g0 w' g/\zTE w' g rs v
def zy(P:Program)(f:Nat)(sp:zX):Prop:=∀w,zDX P f sp w
def rid(d n:Nat):Nat:=1000*(n+1)+d
def cvO(i:Nat):Tr->Cv
 | .v x=>.v x
 | .s .o _ _ _=>.h i
 | .s fl k n f=>.s fl k n f
def qK(d:Nat):Nat->List Tr->List Cv
 | _,[]=>[]
 | n,T :: r=>cvO (rid d n) T :: qK d (n+1) r
def obO(ob:List (Nat×Ob))(i:Nat):Tr->Option (List (Nat×Ob))
 | .s .o k n f=>match get ob i with
  | none=>some (put ob i (.row k n f))
  | some _=>none
 | _=>some ob
def outOb(d:Nat):Nat->List (Nat×Ob)->List Tr->Option (List (Nat×Ob))
 | _,ob,[]=>some ob
 | n,ob,T :: r=>match obO ob (rid d n) T with
  | some ob'=>outOb d (n+1) ob' r
  | none=>none
def yU(d:Nat):Nat->List (Bool×List Tr)->List (Bool×List Cv)
 | _,[]=>[]
 | n,q :: r=>(q.1,qK d n q.2) :: yU d (n+q.2.length) r
def qq(d:Nat):Nat->List (Nat×Ob)->List (Bool×List Tr)->Option (List (Nat×Ob))
 | _,ob,[]=>some ob
 | n,ob,q :: r=>match outOb d n ob q.2 with
  | some ob'=>qq d (n+q.2.length) ob' r
  | none=>none
def zTC(w':World)(g:Nat->Bs)(i:Nat):Tr->Value->Prop
 | .v x,u=>u=x/\x.oneCell'=true
 | .s .b _ _ _,_=>False
 | .s .z k n f,u=>Sh w' g (.s .z k n f) u
 | .s .o k n f,u=>∃a cap,u = .slice a n cap/\n<=cap/\(0<cap->∃b,a=some ⟨b,0,none⟩/\g b = .ow (.nm i) 0/\∃(c:List Value) (t:TypeId),w'.heap[b]?=some (.cells c.toArray t (0,0))/\c.length=cap*k/\
   ∀p j,p<n->j<k->∃u,c[p*k+j]?=some u/\Sh w' g (f p j) u/\zAb w' g b (p*k+j) (f p j) u)
theorem zQm{ob ob':List (Nat×Ob)}{i:Nat}{T:Tr}(h:obO ob i T=some ob'){j:Nat}(hj:dom ob j):dom ob' j:=by
 cases T with
 | v x=>cases h;exact hj
 | s fl k n f=>
  cases fl with
  | b=>cases h;exact hj
  | z=>cases h;exact hj
  | o=>
   simp only[obO]at h;split at h
   ·cases h;exact qL hj
   ·cases h
theorem zGX{d:Nat}:∀{l:List Tr} {n:Nat} {ob ob':List (Nat×Ob)},outOb d n ob l=some ob'->∀{j:Nat},dom ob j->dom ob' j
 | [],n,ob,ob',h,j,hj=>by cases h;exact hj
 | T :: r,n,ob,ob',h,j,hj=>by
  simp only[outOb]at h;split at h
  ·rename_i aA h1
   exact zGX h (zQm h1 hj)
  ·cases h
def zWP:Option Addr->Nat
 | some q=>q.block
 | none=>0
theorem zdU{w:World}{E:En}{ob ob':List (Nat×Ob)}(ho:qO w E ob){i:Nat}{T:Tr}{u:Value}(aA:obO ob i T=some ob')(hu:zTC w E.g i T u) :
  ∃E',E'.g=E.g/\ql (dom ob) w E w E'/\qO w E' ob'/\CvR w E' (dom ob') (cvO i T) u:=by
 cases T with
 | v x=>cases aA;exact⟨E,rfl,ql.refl _ _ _,ho,hu⟩
 | s fl k n f=>
  cases fl with
  | b=>exact hu.elim
  | z=>cases aA;exact⟨E,rfl,ql.refl _ _ _,ho,hu⟩
  | o=>
   simp only[obO]at aA;split at aA
   ·rename_i hi
    cases aA;obtain⟨a,cap,rfl,hn,hc⟩:=hu;have cA:∀j,dom ob j->j≠i:=fun j hj=>zHe hj hi
    have hx:ql (dom ob) w E w ⟨E.g,fun j=>if j=i then zWP a else E.bl j,fun j=>if j=i then .slice a n cap else E.hv j⟩:=
     ⟨Kp.refl _ _,fun j hj=>if_neg (cA j hj),fun j hj=>if_neg (cA j hj)⟩
    refine⟨⟨E.g,fun j=>if j=i then zWP a else E.bl j,fun j=>if j=i then .slice a n cap else E.hv j⟩,rfl,hx,fun j b hj=>?_,by unfold dom;rw[ze,if_pos rfl];rfl,by simp,rfl⟩;rw[ze]at hj;by_cases e:i=j
    ·subst e;rw[if_pos rfl]at hj;cases hj;refine⟨a,cap,by simp,hn,fun h0=>?_⟩;obtain⟨b,rfl,hg,cs,t,hh,hl,bA⟩:=hc h0;exact⟨by simp[zWP],by simpa[zWP]using hg,cs,t,by simpa[zWP]using hh,hl,by simpa[zWP]using bA⟩
    ·rw[if_neg e]at hj;have hd:dom ob j:=(by unfold dom;rw[hj];rfl);exact ObR.ext hx (fun j hj=>qL hj) hd (X:=fun _=>False) (fun _ _ _=>⟨rfl,rfl⟩) (fun _ _ x=>x.elim) (fun _ _ _ _ x=>x.elim) (ho j b hj)
   ·cases aA
theorem zXz{w:World}{g0:Nat->Bs}{d:Nat}:∀{l:List Tr} {us:List Value} {n:Nat} {E:En} {ob ob':List (Nat×Ob)},(∀i T u,n<=i->zLv w g0 i T u->zTC w E.g (rid d i) T u)->qO w E ob->outOb d n ob l=some ob'->zJU w g0 n l us->
  ∃E',E'.g=E.g/\ql (dom ob) w E w E'/\qO w E' ob'/\CsR w E' (dom ob') (qK d n l) us
 | [],us,n,E,ob,ob',hin,ho,hev,hu=>by
  cases hev;rw[show us = [] from hu];exact⟨E,rfl,ql.refl _ _ _,ho,.nil⟩
 | T :: r,us,n,E,ob,ob',hin,ho,hev,hu=>by
  obtain⟨u,bA,rfl,h1,h2⟩:=hu;simp only[outOb]at hev;split at hev
  ·rename_i aA hob1
   obtain⟨E1,e1,x1,o1,c1⟩:=zdU ho hob1 (hin _ _ _ (Nat.le_refl _) h1);obtain⟨E2,e2,x2,o2,c2⟩:=zXz (fun i T u hi h=>by rw[e1];exact hin i T u (by omega) h) o1 hev h2;refine⟨E2,e2.trans e1,⟨by rw[e2,e1];exact Kp.refl _ _,fun i hi=>(x2.bl i (zQm hob1 hi)).trans (x1.bl i hi),fun i hi=>(x2.hv i (zQm hob1 hi)).trans (x1.hv i hi)⟩,o2,qE.cons (c1.ext x2 (fun j hj=>zGX hev hj)) c2⟩
  ·cases hev
theorem zEM{d:Nat}:∀{l:List (Bool×List Tr)} {n:Nat} {ob ob':List (Nat×Ob)},qq d n ob l=some ob'->∀{j:Nat},dom ob j->dom ob' j
 | [],n,ob,ob',h,j,hj=>by cases h;exact hj
 | T :: r,n,ob,ob',h,j,hj=>by
  simp only[qq]at h;split at h
  ·rename_i aA h1
   exact zEM h (zGX h1 hj)
  ·cases h
theorem zRM.vl{w:World}{E:En}{D:Nat->Prop}{g:Bool}{y:Value}{cs:List Value}{l:List Cv}(h:zRM g y cs)(hc:CsR w E D l cs):VlR w E D g l y:=by
 cases g with
 | true=>exact⟨cs,h,hc⟩
 | false=>
  cases h;cases hc with
  | cons h1 t=>cases t;exact⟨_,rfl,h1⟩
theorem zHX{w:World}{g0:Nat->Bs}{d:Nat}:∀{l:List (Bool×List Tr)} {ys:List Value} {n:Nat} {E:En} {ob ob':List (Nat×Ob)},(∀i T u,n<=i->zLv w g0 i T u->zTC w E.g (rid d i) T u)->qO w E ob->qq d n ob l=some ob'->zMJ w g0 n l ys->
  ∃E',E'.g=E.g/\ql (dom ob) w E w E'/\qO w E' ob'/\qE (fun (q:Bool×List Cv) u=>VlR w E' (dom ob') q.1 q.2 u) (yU d n l) ys
 | [],ys,n,E,ob,ob',hin,ho,hev,hu=>by
  cases hev;rw[show ys = [] from hu];exact⟨E,rfl,ql.refl _ _ _,ho,.nil⟩
 | q :: r,ys,n,E,ob,ob',hin,ho,hev,hu=>by
  obtain⟨y,bA,cs,rfl,hv,h1,h2⟩:=hu;simp only[qq]at hev;split at hev
  ·rename_i aA hob1
   obtain⟨E1,e1,x1,o1,c1⟩:=zXz hin ho hob1 h1;obtain⟨E2,e2,x2,o2,c2⟩:=zHX (fun i T u hi h=>by rw[e1];exact hin i T u (by omega) h) o1 hev h2;exact⟨E2,e2.trans e1,⟨by rw[e2,e1];exact Kp.refl _ _,fun i hi=>(x2.bl i (zGX hob1 hi)).trans (x1.bl i hi),fun i hi=>(x2.hv i (zGX hob1 hi)).trans (x1.hv i hi)⟩,o2,qE.cons (hv.vl (c1.ext x2 (fun j hj=>zEM hev hj))) c2⟩
  ·cases hev
def Bs.rn(d:Nat):Bs->Bs
 | .ow (.nm j) lim=>.ow (.nm (rid d j)) lim
 | s=>s
theorem Sh.okm{w:World}{g g':Nat->Bs}(h:∀b fl e,(g b).ok fl e->(g' b).ok fl e):∀{T:Tr} {u:Value},Sh w g T u->Sh w g' T u
 | .v x,u,hs=>hs
 | .s fl k n f,u,hs=>by
  obtain⟨a,c,e,hn,hc⟩:=hs;refine⟨a,c,e,hn,fun h0=>?_⟩;obtain⟨b,o,ha,hb,bA,aA⟩:=hc h0;exact⟨b,o,ha,hb,h _ _ _ bA,fun i j hi hj=>let ⟨u,hu,hs⟩:=aA i j hi hj;⟨u,hu,hs.okm h⟩⟩
def qh:List Nat->Bool
 | []=>true
 | x :: r=>!r.contains x && qh r
theorem zCy{l:List (Nat×Nat)}:∀{i n:Nat},qh (l.map (·.1))=true->(i,n)∈l->get l i=some n:=by
 induction l with
 | nil=>intro i n _ h;cases h
 | cons p r ih=>
  intro i n hn h;simp only[List.map_cons,qh,Bool.and_eq_true,Bool.not_eq_true']at hn;cases h with
  | head=>simp[get]
  | tail _ hm=>
   simp only[get];have aA:p.1≠i:=fun e=>by
    have:(r.map (·.1)).contains p.1=true:=by
     rw[List.contains_iff_mem,e];exact List.mem_map.2 ⟨(i,n),hm,rfl⟩
    rw[this]at hn;cases hn.1
   rw[if_neg aA];exact ih hn.2 hm
theorem zJv{α : Type}{d:Nat}{x:α}:∀{l:List (Nat×α)},get l d=some x->(d,x)∈l
 | [],h=>by cases h
 | (e,y) :: r,h=>by
  simp only[get]at h;split at h
  ·rename_i he;cases h;subst he;exact List.mem_cons_self ..
  ·exact List.mem_cons_of_mem _ (zJv h)
def argOf(ob:List (Nat×Ob)):Cv->Option Tr
 | .v x=>some (.v x)
 | .s fl k n f=>some (Tr.s fl k n f).lend
 | .h i=>match rowE ob i with
  | some (k,n,f)=>some (Tr.s .o k n f).lend
  | none=>none
 | _=>none
structure zab (E:En) (ob:List (Nat×Ob)) (g:Nat->Bs):Prop where
 ok:∀b fl e,(E.g b).ok fl e->(g b).ok fl e
 rw:∀j q,rowE ob j=some q->∀b l,E.g b = .ow (.nm j) l->∃r,g b = .fz r
theorem zX1{w:World}{E:En}{ob:List (Nat×Ob)}{g:Nat->Bs}(hg:zab E ob g)(ho:qO w E ob){x:Cv}{T:Tr}(h:argOf ob x=some T){y:Value}(hy:CvR w E (dom ob) x y):Sh w g T y:=by
 have hz:∀b fl e,b<w.heap.size->(E.g b).ok fl e->(g b).ok .b e:=fun b fl e _ h=>Bs.ok_b (hg.ok b fl e h)
 cases x with
 | v x=>cases h;exact hy
 | s fl k n f=>cases h;exact Sh.lend hz hy
 | h i=>
  simp only[argOf]at h;split at h
  ·rename_i k n f hi
   cases h;obtain⟨-,a,cap,hv,hn,hc⟩:=zGc ho hi;refine⟨a,cap,hy.2.1.trans hv,hn,fun h0=>?_⟩;obtain⟨ha,⟨l,hl,-⟩,cs,t,hh,bA,aA⟩:=hc (by omega);obtain⟨r,hr⟩:=hg.rw i _ hi _ _ hl;refine⟨_,_,ha,(Array.getElem?_eq_some_iff.1 hh).1,by rw[hr];exact .inl rfl,fun p j hp hj=>?_⟩;obtain⟨u,hu,hs⟩:=aA p j hp hj;refine⟨u,?_,hs.lend hz⟩;rw[Nat.zero_add,cell_of_row w _ _ _ t _ hh];simpa using hu
  ·cases h
 | _=>cases h
def zCS:Cv->Option Tr
 | .v x=>some (.v x)
 | .s .z k n f=>some (.s .z k n f)
 | .s .o k n f=>some (.s .z k n f)
 | _=>none
theorem zam{w:World}{E:En}{D:Nat->Prop}{g:Nat->Bs}(hg:∀b fl e,(E.g b).ok fl e->(g b).ok fl e){x:Cv}{T:Tr}(h:zCS x=some T){y:Value}(hy:CvR w E D x y):Sh w g T y:=by
 cases x with
 | v x=>cases h;exact hy
 | s fl k n f=>
  cases fl with
  | b=>cases h
  | z=>cases h;exact Sh.okm hg hy
  | o=>cases h;exact Sh.okm hg (Sh.cv (D:=D) (T:=.s .o k n f) hy)
 | _=>cases h
def argL(F:Cv->Option Tr):List Cv->Option (List Tr)
 | []=>some []
 | x :: r=>match F x,argL F r with
  | some T,some l=>some (T :: l)
  | _,_=>none
theorem zQF{w:World}{E:En}{D:Nat->Prop}{g:Nat->Bs}{F:Cv->Option Tr}(hF:∀{x T y},F x=some T->CvR w E D x y->Sh w g T y):∀{l:List Cv} {ts:List Tr} {ys:List Value},argL F l=some ts->CsR w E D l ys->qE (Sh w g) ts ys
 | [],ts,ys,h,hy=>by cases h;cases hy;exact .nil
 | x :: r,ts,ys,h,hy=>by
  simp only[argL]at h;split at h
  ·rename_i T l h1 h2
   cases h;cases hy with
   | cons g1 g2=>exact .cons (hF h1 g1) (zQF hF h2 g2)
  ·cases h
def argsF(F:Cv->Option Tr):List Av->Option (List (Bool×List Tr))
 | []=>some []
 | .m g l :: r=>match argL F l,argsF F r with
  | some ts,some q=>some ((g,ts) :: q)
  | _,_=>none
 | _=>none
theorem zMR{w:World}{E:En}{D:Nat->Prop}{g:Nat->Bs}{F:Cv->Option Tr}(hF:∀{x T y},F x=some T->CvR w E D x y->Sh w g T y):∀{l:List Av} {aA:List (Bool×List Tr)} {ys:List Value},argsF F l=some aA->qE (AvR w E D) l ys->qE (zLi w g) aA ys
 | [],aA,ys,h,hy=>by cases h;cases hy;exact .nil
 | .m g l :: r,aA,ys,h,hy=>by
  simp only[argsF]at h;split at h
  ·rename_i ts q h1 h2
   cases h;cases hy with
   | cons g1 g2=>
    refine .cons ?_ (zMR hF h2 g2);cases g with
    | true=>obtain⟨cs,e,hc⟩:=g1;exact⟨cs,e,zQF hF h1 hc⟩
    | false=>
     obtain⟨x,rfl,hc⟩:=g1;have:=zQF hF h1 (qE.cons hc qE.nil:CsR w E D [x] [_]);cases this with
     | cons k1 k2=>cases k2;exact⟨_,rfl,k1⟩
  ·cases h
 | .t l :: r,aA,ys,h,hy=>by cases h
def zA6:List Av->List (Nat×Ob)->List Av×List (Nat×Ob)
 | [],ob=>([],ob)
 | .m g c :: l,ob=>(.m g (frz c ob).1 :: (zA6 l (frz c ob).2).1,(zA6 l (frz c ob).2).2)
 | .t c :: l,ob=>(.t c :: (zA6 l ob).1,(zA6 l ob).2)
def zAX(keep:Bool)(l:List Av)(ob:List (Nat×Ob)):List Av×List (Nat×Ob):=
 match keep with
 | true=>zA6 l ob
 | false=>(l,ob)
def zAZ(keep:Bool)(ob:List (Nat×Ob))(l:List Av):Option (List (Bool×List Tr)):=
 match keep with
 | true=>argsF zCS l
 | false=>argsF (argOf ob) l
theorem zQN{w:World}:∀{l:List Av} {us:List Value} {E:En} {ob:List (Nat×Ob)},qO w E ob->qE (AvR w E (dom ob)) l us->
  ∃E',ql (dom ob) w E w E'/\qO w E' (zA6 l ob).2/\qE (AvR w E' (dom (zA6 l ob).2)) (zA6 l ob).1 us/\∀j,dom ob j↔dom (zA6 l ob).2 j
 | [],us,E,ob,ho,h=>by cases h;exact⟨E,ql.refl _ _ _,ho,.nil,fun _=>Iff.rfl⟩
 | .m g c :: l,us,E,ob,ho,h=>by
  cases h with
  | @cons _ u _ us' hx ht=>
   have aA:∀{E1:En} {D1:Nat->Prop} {l:List Av} {us:List Value},ql (dom ob) w E w E1->(∀j,dom ob j->D1 j)->qE (AvR w E (dom ob)) l us->qE (AvR w E1 D1) l us:=fun {E1 D1 l us} hx hD h=>by
    induction h with
    | nil=>exact .nil
    | cons h _ ih=>exact .cons (h.ext hx hD) ih
   have step:∃E1,ql (dom ob) w E w E1/\qO w E1 (frz c ob).2/\AvR w E1 (dom (frz c ob).2) (.m g (frz c ob).1) u/\∀j,dom ob j↔dom (frz c ob).2 j:=by
    cases g with
    | true=>
     obtain⟨cs,e,hc⟩:=hx;obtain⟨E1,a1,a2,a3,a4⟩:=zMq ho hc;exact⟨E1,a1,a2,⟨cs,e,a3⟩,a4⟩
    | false=>
     obtain⟨x,rfl,hc⟩:=hx;obtain⟨E1,a1,a2,a3,a4⟩:=zMq ho (qE.cons hc qE.nil:CsR w E (dom ob) [x] [_]);refine⟨E1,a1,a2,?_,a4⟩;simp only[frz]at a3 ⊢;cases a3 with
     | cons k1 k2=>exact⟨_,rfl,k1⟩
   obtain⟨E1,a1,a2,a3,a4⟩:=step;obtain⟨E2,b1,b2,b3,b4⟩:=zQN (l:=l) a2 (aA a1 (fun j hj=>(a4 j).1 hj) ht);exact⟨E2,a1.trans b1 (fun j hj=>(a4 j).1 hj),b2,.cons (a3.ext b1 (fun j hj=>(b4 j).1 hj)) b3,fun j=>(a4 j).trans (b4 j)⟩
 | .t c :: l,us,E,ob,ho,h=>by
  cases h with
  | @cons _ u _ us' hx ht=>
   obtain⟨E2,b1,b2,b3,b4⟩:=zQN (l:=l) ho ht;exact⟨E2,b1,b2,.cons (hx.ext b1 (fun j hj=>(b4 j).1 hj)) b3,b4⟩
theorem zQO{w:World}{keep:Bool}{l:List Av}{us:List Value}{E:En}{ob:List (Nat×Ob)}(ho:qO w E ob)(h:qE (AvR w E (dom ob)) l us) :
  ∃E',ql (dom ob) w E w E'/\qO w E' (zAX keep l ob).2/\qE (AvR w E' (dom (zAX keep l ob).2)) (zAX keep l ob).1 us/\∀j,dom ob j↔dom (zAX keep l ob).2 j:=by
 cases keep with
 | true=>exact zQN ho h
 | false=>exact⟨E,ql.refl _ _ _,ho,h,fun _=>Iff.rfl⟩
theorem zJj{w:World}{keep:Bool}{E:En}{ob:List (Nat×Ob)}{g:Nat->Bs}(hg:zab E ob g)(ho:qO w E ob){l:List Av}{aA:List (Bool×List Tr)}{ys:List Value}(h:zAZ keep ob l=some aA)(hl:qE (AvR w E (dom ob)) l ys):qE (zLi w g) aA ys:=by
 cases keep with
 | true=>exact zMR (fun h1 h2=>zam hg.ok h1 h2) h hl
 | false=>exact zMR (fun h1 h2=>zX1 hg ho h1 h2) h hl
theorem Sh.gn{w:World}{g ge:Nat->Bs}(h1:∀b fl e,fl≠.b->(g b).ok fl e->(ge b).ok fl e):∀{T:Tr} {u:Value},T.kept->Sh w g T u->Sh w ge T u
 | .v x,u,hk,hs=>hs
 | .s fl k n f,u,hk,hs=>by
  obtain⟨a,c,e,hn,hc⟩:=hs;refine⟨a,c,e,hn,fun bA=>?_⟩;obtain⟨b,o,ha,hb,cA,aA⟩:=hc bA;refine⟨b,o,ha,hb,h1 b _ _ hk.1 cA,fun i j hi hj=>?_⟩;obtain⟨u,hu,hs⟩:=aA i j hi hj;exact⟨u,hu,hs.gn h1 (hk.2 i j hi hj)⟩
def Tr.own:Tr->Bool
 | .s .o _ _ _=>true
 | _=>false
def tot:List (Bool×List Tr)->Nat
 | []=>0
 | q :: r=>q.2.length+tot r
def evCall(keep:Bool)(sp:zX)(d:Nat)(ob:List (Nat×Ob))(l:List Av):Option Dl:=
 match zAZ keep (zAX keep l ob).2 (zAX keep l ob).1 with
 | some ags=>match sp ags with
  | some (c,rs)=>match qq d 0 (zAX keep l ob).2 rs with
   | some ob'=>if tot rs<=40 then some ⟨c,some (match rs with
    | [q]=>.m q.1 (qK d 0 q.2)
    | _=>.t (yU d 0 rs)),ob',keep || rs.any fun q=>q.2.any Tr.own⟩else none
   | none=>none
  | none=>none
 | none=>none
def gC(g:Nat->Bs)(b:Nat):Bs:=
 match g b with
 | .fz r=>.fz r
 | .ow _ l=>.fz (some l)
theorem zLM(g:Nat->Bs)(b:Nat):∃r,gC g b = .fz r:=by
 unfold gC;split
 ·exact⟨_,rfl⟩
 ·exact⟨_,rfl⟩
theorem zb3{g:Nat->Bs}{b:Nat}{fl:Fl}{e:Nat}(h:(g b).ok fl e):(gC g b).ok fl e:=by
 unfold gC;cases hg:g b with
 | fz r=>rw[hg]at h;exact h
 | ow o l=>rw[hg]at h;exact .inr fun l' h'=>by cases h';exact h
theorem zb2{g:Nat->Bs}{b:Nat}{fl:Fl}{e:Nat}(hf:fl≠.b)(h:(gC g b).ok fl e):(g b).ok fl e:=by
 unfold gC at h;cases hg:g b with
 | fz r=>rw[hg]at h;exact h
 | ow o l=>
  rw[hg]at h;exact(h.resolve_left hf) l rfl
theorem zO6{P:Program}{f:Nat}{sp:zX}{w:World}(hs:zDX P f sp w){keep:Bool}{d:Nat}{E:En}{ob:List (Nat×Ob)}(ho:qO w E ob){l:List Av}{D:Dl}(aA:evCall keep sp d ob l=some D)(hc:D.c){ys:List Value}(hy:qE (AvR w E (dom ob)) l ys) :
  Calls P f ys.toArray w fun e w'=>∃v E',e = .returned v/\ql (dom ob) w E w' E'/\(∀j,dom ob j->dom D.ob j)/\qO w' E' D.ob/\∃av,D.av=some av/\AvR w' E' (dom D.ob) av v:=by
 unfold evCall at aA;obtain⟨E1,x1,o1,a1,d1⟩:=zQO (keep:=keep) ho hy;generalize (zAX keep l ob).2=ob1 at *;generalize (zAX keep l ob).1=l1 at *;split at aA
 ·rename_i lA has
  split at aA
  ·rename_i c rs hsp
   split at aA
   ·rename_i ob' hob
    split at aA
    case isFalse=>cases aA
    cases aA;refine(hs lA c rs hsp hc (gC E1.g) ys (zLM _) (zJj ⟨fun b fl e h=>zb3 h,fun _ _ _ b _ _=>zLM _ b⟩ o1 has a1)).mono ?_;rintro e w' ⟨v,g,rfl,hk,pA,nA,hv⟩;have h0:∀b,b<w.heap.size->g b=gC E1.g b/\w'.heap[b]?=w.heap[b]?:=fun b hb=>by
     obtain⟨r,hr⟩:=zLM E1.g b;obtain⟨k1,k2⟩:=hk.fz b r hr hb;exact⟨k2.trans hr.symm,k1⟩
    have jA:Kp w E1.g w' (fun b=>if b<w.heap.size then E1.g b else(g b).rn d):=by
     refine⟨hk.os,hk.tape,hk.output,hk.size,fun b r hb hl=>⟨(h0 b hl).2,by rw[if_pos hl];exact hb⟩,fun b o bA hb hl=>⟨fun j _=>World.cell?_of_block (w:=w) (h0 b hl).2,.inl ⟨o,bA,by rw[if_pos hl];exact hb,Nat.le_refl _⟩⟩⟩
    have hx:ql (dom ob1) w E1 w' ⟨fun b=>if b<w.heap.size then E1.g b else(g b).rn d,E1.bl,E1.hv⟩:=⟨jA,fun _ _=>rfl,fun _ _=>rfl⟩;have eA:qO w' ⟨fun b=>if b<w.heap.size then E1.g b else(g b).rn d,E1.bl,E1.hv⟩ ob1:=fun j b hj=>
     ObR.ext hx (fun _ h=>h) (by unfold dom;rw[hj];rfl) (X:=fun _=>False) (fun b hb _=>⟨(h0 b hb).2,if_pos hb⟩) (fun _ _ x=>x.elim) (fun _ _ _ _ x=>x.elim) (o1 j b hj)
    have iA:∀b fl e,fl≠.b->(g b).ok fl e->Bs.ok fl e (if b<w.heap.size then E1.g b else(g b).rn d):=fun b fl e hf h=>by
     by_cases hb:b<w.heap.size
     ·rw[if_pos hb];rw[(h0 b hb).1]at h;exact zb2 hf h
     ·rw[if_neg hb];cases hg:g b with
      | fz r=>rw[hg]at h;exact h
      | ow o bA=>rw[hg]at h;cases o<;>exact h
    have kA:∀b o bA,g b = .ow o bA->¬b<w.heap.size:=fun b o bA hb h=>by
     obtain⟨r,hr⟩:=zLM E1.g b;rw[(h0 b h).1,hr]at hb;cases hb
    obtain⟨E',e1,x2,o2,c1⟩:=zHX (d:=d) (E:=⟨fun b=>if b<w.heap.size then E1.g b else(g b).rn d,E1.bl,E1.hv⟩) (fun i T u _ h=>by
     cases T with
     | v x=>exact h
     | s fl k n f=>
      cases fl with
      | b=>exact h.elim
      | z=>exact h.1.gn iA h.2
      | o=>
       obtain⟨a,cap,e,hn,dA⟩:=h;refine⟨a,cap,e,hn,fun fA=>?_⟩;obtain⟨b,ha,hg,cs,t,mA,hl,cA⟩:=dA fA;refine⟨b,ha,?_,cs,t,mA,hl,fun p j hp hj=>?_⟩
       ·show(if b<w.heap.size then _ else _)=_;rw[if_neg (kA b _ _ hg),hg];rfl
       ·obtain⟨u,hu,h1,h2,h3⟩:=cA p j hp hj;refine⟨u,hu,h1.gn iA h2,h3.ext (fun b' bA gA _=>⟨rfl,?_⟩)⟩;show(if b'<w.heap.size then _ else _)=_;rw[if_neg (kA b' _ _ gA),gA];rfl) eA hob nA
    have oA:ql (dom ob) w E w' E':=x1.trans ⟨by rw[e1];exact jA,fun i hi=>x2.bl i hi,fun i hi=>x2.hv i hi⟩ (fun j hj=>(d1 j).1 hj);refine⟨v,E',rfl,oA,fun j hj=>zEM hob ((d1 j).1 hj),o2,_,rfl,?_⟩
    match rs,hv,c1 with
    | [q],hv,c1=>
     cases hv;cases c1 with
     | cons k1 k2=>exact k1
    | [],hv,c1=>exact⟨_,hv,c1⟩
    | q1 :: q2 :: r,hv,c1=>exact⟨_,hv,c1⟩
   ·cases aA
  ·cases aA
 ·cases aA
def pmC:Nat->List Cv->List (Nat×Nat)
 | _,[]=>[]
 | n,.h r :: l=>(r,rid 0 n) :: pmC (n+1) l
 | n,_ :: l=>pmC (n+1) l
def vT(ob:List (Nat×Ob)):Cv->Option Tr
 | .v x=>some (.v x)
 | .s .b k n f=>some (.s .b k n f)
 | .s _ k n f=>some (.s .z k n f)
 | .h r=>match get ob r with
  | some (.row k n f)=>some (.s .o k n f)
  | _=>none
 | _=>none
def varT(ob:List (Nat×Ob)):List Cv->Option (List Tr)
 | []=>some []
 | x :: l=>match vT ob x,varT ob l with
  | some T,some m=>some (T :: m)
  | _,_=>none
def qP:Nat->List Tr->List (Nat×Ob)
 | _,[]=>[]
 | n,.s .o k m f :: l=>(rid 0 n,.row k m f) :: qP (n+1) l
 | n,_ :: l=>qP (n+1) l
def zBs(vs:List Tr):List (Nat×Ob):=(0,.var (qK 0 0 vs)) :: qP 0 vs
def zdS(w':World)(g:Nat->Bs)(B:Nat)(rs:List (Bool×List Tr))(v:Value):Prop:=
 ∃(cs:List Value) (T:TypeId) (ys:List Value),w'.heap[B]?=some (.cells cs.toArray T (0,0))/\g B = .ow (.nm 0) 0/\zMJ w' g 1 rs (.agg cs.toArray :: ys)/\match rs with
  | [_,_]=>ys = [v]
  | _=>v = .tuple ys.toArray
def zGK(P:Program)(f:Nat)(sp:zX)(w:World):Prop:=
 ∀vs ags c rs,sp ((true,vs) :: ags)=some (c,rs)->c->∀(E:En) (ys:List Value),qO w E (zBs vs)->qE (zLi w E.g) ags ys->
  Calls P f (.pointer (some ⟨E.bl 0,0,none⟩) :: ys).toArray w fun e w'=>∃v g,e = .returned v/\Kp w E.g w' g/\zdS w' g (E.bl 0) rs v
def zBv(P:Program)(f:Nat)(sp:zX):Prop:=∀w,zGK P f sp w
def zJf(P:Program)(f:Nat)(sp:zX)(w:World):Prop:=
 ∀ags c cells,sp ags=some (c,[(true,cells)])->c->∀(g0:Nat->Bs) (ys:List Value),(∀b,∃r,g0 b = .fz r)->qE (zLi w g0) ags ys->
  Calls P f ys.toArray w fun e w'=>∃B g,e = .returned (.pointer (some ⟨B,0,none⟩))/\Kp w g0 w' g/\∃(cs:List Value) (T:TypeId),w'.heap[B]?=some (.cells cs.toArray T (0,0))/\g B = .ow (.nm 0) 0/\zMJ w' g 1 [(true,cells)] [.agg cs.toArray]
def zP8(P:Program)(f:Nat)(sp:zX):Prop:=∀w,zJf P f sp w
def qu(ob:List (Nat×Ob)):List (Nat×Nat)->List (Nat×Ob)
 | []=>ob
 | p :: l=>qu (put ob p.1 .dead) l
theorem zDG{j:Nat}:∀{pm:List (Nat×Nat)} {ob:List (Nat×Ob)},get (qu ob pm) j=if j∈pm.map (·.1)then some .dead else get ob j
 | [],ob=>by simp[qu]
 | p :: l,ob=>by
  simp only[qu];rw[zDG];simp only[List.map_cons,List.mem_cons,ze];by_cases h:j∈l.map (·.1)
  ·simp[h]
  ·by_cases h':p.1=j
   ·simp[h']
   ·rw[if_neg h,if_neg h',if_neg (fun e=>e.elim (fun e=>h' e.symm) h)]
def gP(pm:List (Nat×Nat))(g:Nat->Bs)(b:Nat):Bs:=
 match g b with
 | .fz r=>.fz r
 | .ow (.nm x) l=>match get pm x with
  | some y=>.ow (.nm y) l
  | none=>.fz (some l)
 | .ow (.tl B c) l=>match g B with
  | .ow (.nm x) _=>match get pm x with
   | some _=>.ow (.tl B c) l
   | none=>.fz (some l)
  | _=>.fz (some l)
def Bs.isFz:Bs->Bool
 | .fz _=>true
 | _=>false
theorem zHh(pm:List (Nat×Nat))(g:Nat->Bs)(b:Nat):(∃r,g b = .fz r/\gP pm g b = .fz r)\/(∃o l,g b = .ow o l/\gP pm g b = .fz (some l))\/(∃o o' l,g b = .ow o l/\gP pm g b = .ow o' l):=by
 unfold gP;cases hg:g b with
 | fz r=>exact .inl ⟨r,rfl,rfl⟩
 | ow o l=>
  refine .inr ?_;cases o with
  | nm x=>
   dsimp only;split
   ·exact .inr ⟨_,_,l,rfl,rfl⟩
   ·exact .inl ⟨_,l,rfl,rfl⟩
  | tl B c=>
   dsimp only;split
   ·split
    ·exact .inr ⟨_,_,l,rfl,rfl⟩
    ·exact .inl ⟨_,l,rfl,rfl⟩
   ·exact .inl ⟨_,l,rfl,rfl⟩
theorem zPB{pm:List (Nat×Nat)}{g:Nat->Bs}{b:Nat}{fl:Fl}{e:Nat}(h:(g b).ok fl e):(gP pm g b).ok fl e:=by
 rcases zHh pm g b with⟨r,h1,h2⟩ | ⟨o,l,h1,h2⟩ | ⟨o,o',l,h1,h2⟩
 ·rw[h2,<-h1];exact h
 ·rw[h1]at h;rw[h2];exact .inr fun l' h'=>by cases h';exact h
 ·rw[h1]at h;rw[h2];exact h
theorem zLx{pm:List (Nat×Nat)}{g:Nat->Bs}{b j l:Nat}(h:g b = .ow (.nm j) l)(hj:get pm j=none):gP pm g b = .fz (some l):=by
 unfold gP;rw[h];dsimp only;rw[hj]
theorem zQQ{pm:List (Nat×Nat)}{g:Nat->Bs}{b j l y:Nat}(h:g b = .ow (.nm j) l)(hj:get pm j=some y):gP pm g b = .ow (.nm y) l:=by
 unfold gP;rw[h];dsimp only;rw[hj]
theorem zU2{pm:List (Nat×Nat)}{g:Nat->Bs}{b B c l j q:Nat}(h:g b = .ow (.tl B c) l)(hB:g B = .ow (.nm j) q):gP pm g b=match get pm j with | some _=>.ow (.tl B c) l | none=>.fz (some l):=by
 unfold gP;rw[h];dsimp only;rw[hB]
def Bs.rnP(d i:Nat):Bs->Bs
 | .ow (.nm j) l=>.ow (.nm (if j=0 then i else rid d j)) l
 | s=>s
theorem Bs.rnP_ok{d i:Nat}{s:Bs}{fl:Fl}{e:Nat}(h:s.ok fl e):(s.rnP d i).ok fl e:=by
 cases s with
 | fz r=>exact h
 | ow o l=>cases o<;>exact h
theorem zE4{pm:List (Nat×Nat)}{j:Nat}(h:j∉pm.map (·.1)):get pm j=none:=by
 cases hg:get pm j with
 | none=>rfl
 | some y=>exact absurd (List.mem_map.2 ⟨_,zJv hg,rfl⟩) h
def swp(pm:List (Nat×Nat)):List (Nat×Nat):=pm.map fun p=>(p.2,p.1)
theorem zIC{pm:List (Nat×Nat)}{x y:Nat}(hn:qh (pm.map (·.2))=true)(h:(x,y)∈pm):get (swp pm) y=some x:=by
 refine zCy ?_ (List.mem_map.2 ⟨(x,y),h,rfl⟩);rw[swp,List.map_map];exact hn
theorem zK4{ob:List (Nat×Ob)}{j:Nat}{o:Ob}:∀{l:List Cv} {vs:List Tr} {n:Nat},varT ob l=some vs->get (qP n vs) j=some o->∃r k m f,(r,j)∈pmC n l/\get ob r=some (.row k m f)/\o = .row k m f
 | [],vs,n,h,hg=>by cases h;cases hg
 | x :: l,vs,n,h,hg=>by
  simp only[varT]at h;split at h
  ·rename_i T m hT hm
   cases h;have rest:get (qP (n+1) m) j=some o->∃r k m f,(r,j)∈pmC n (x :: l)/\get ob r=some (.row k m f)/\o = .row k m f:=fun hg=>by
    obtain⟨r,k,q,f,h1,h2⟩:=zK4 hm hg;refine⟨r,k,q,f,?_,h2⟩;cases x<;>first | exact h1 | exact List.mem_cons_of_mem _ h1
   cases T with
   | v y=>exact rest hg
   | s fl k q f=>
    cases fl with
    | b=>exact rest hg
    | z=>exact rest hg
    | o=>
     simp only[qP,get]at hg;split at hg
     ·rename_i e
      subst e;cases hg;cases x<;>simp only[vT]at hT<;>try (cases hT;done)
      ·rename_i aA k' n' f'
       cases aA<;>cases hT
      ·rename_i r
       split at hT
       ·rename_i k' n' f' hr
        cases hT;exact⟨r,_,_,_,List.mem_cons_self ..,hr,rfl⟩
       ·cases hT
     ·exact rest hg
  ·cases h
theorem zFI{ob:List (Nat×Ob)}{r j:Nat}:∀{l:List Cv} {vs:List Tr} {n:Nat},varT ob l=some vs->(r,j)∈pmC n l->dom (qP n vs) j/\∃k m f,get ob r=some (.row k m f)
 | [],vs,n,h,hm=>by cases hm
 | x :: l,vs,n,h,hm=>by
  simp only[varT]at h;split at h
  ·rename_i T m hT hmm
   cases h;have up:dom (qP (n+1) m) j->dom (qP n (T :: m)) j:=fun h=>by
    cases T with
    | v y=>exact h
    | s fl k q f=>
     cases fl with
     | b=>exact h
     | z=>exact h
     | o=>
      unfold dom at *;simp only[qP,get];split
      ·rfl
      ·exact h
   cases x with
   | h r'=>
    simp only[vT]at hT;split at hT
    ·rename_i k' n' f' hr
     cases hT;rcases List.mem_cons.1 hm with e | hm
     ·cases e;exact⟨by unfold dom;simp only[qP,get,if_pos];rfl,_,_,_,hr⟩
     ·obtain⟨h1,h2⟩:=zFI hmm hm;exact⟨up h1,h2⟩
    ·cases hT
   | _=>
    obtain⟨h1,h2⟩:=zFI hmm hm;exact⟨up h1,h2⟩
  ·cases h
theorem zKx{w:World}{E E0:En}{D D0:Nat->Prop}{ob:List (Nat×Ob)}(aA:∀b fl e,(E.g b).ok fl e->(E0.g b).ok fl e):∀{l:List Cv} {vs:List Tr} {n:Nat} {cs:List Value},varT ob l=some vs->(∀p∈pmC n l,E0.hv p.2=E.hv p.1/\D0 p.2)->CsR w E D l cs->CsR w E0 D0 (qK 0 n vs) cs
 | [],vs,n,cs,h,hp,hc=>by cases h;cases hc;exact qE.nil
 | x :: l,vs,n,cs,h,hp,hc=>by
  simp only[varT]at h;split at h
  ·rename_i T m hT hm
   cases h;cases hc with
   | cons h1 t=>
    have bA:∀p∈pmC (n+1) l,E0.hv p.2=E.hv p.1/\D0 p.2:=fun p bA=>hp p (by cases x<;>first | exact bA | exact List.mem_cons_of_mem _ bA)
    refine qE.cons ?_ (zKx aA hm bA t);cases x with
    | v x=>cases hT;exact h1
    | s fl k q f=>
     cases fl with
     | b=>cases hT;exact Sh.okm aA h1
     | z=>cases hT;exact Sh.okm aA h1
     | o=>cases hT;exact Sh.okm aA (Sh.cv (D:=D) (T:=.s .o k q f) h1)
    | h r=>
     simp only[vT]at hT;split at hT
     ·cases hT;obtain⟨e,hd⟩:=hp (r,rid 0 n) (List.mem_cons_self ..);exact⟨hd,by rw[e];exact h1.2.1,h1.2.2⟩
     ·cases hT
    | _=>cases hT
  ·cases h
theorem zcx{w:World}{E:En}{ob:List (Nat×Ob)}(ho:qO w E ob){i:Nat}{cl:List Cv}{vs:List Tr}(hi:get ob i=some (.var cl))(hv:varT ob cl=some vs)(hn:qh (((i,0) :: pmC 0 cl).map (·.1))=true)(dA:qh (((i,0) :: pmC 0 cl).map (·.2))=true) :
  ∃E0,E0.g=gP ((i,0) :: pmC 0 cl) E.g/\E0.bl 0=E.bl i/\qO w E0 (zBs vs):=by
 obtain⟨pm,eA⟩:∃pm,pm=(i,0) :: pmC 0 cl:=⟨_,rfl⟩;rw[<-eA]at hn dA ⊢;have bA:∀p∈pmC 0 cl,p∈pm:=fun p hp=>by rw[eA];exact List.mem_cons_of_mem _ hp
 have aA:(i,0)∈pm:=by rw[eA];exact List.mem_cons_self ..
 refine⟨⟨gP pm E.g,fun j=>E.bl ((get (swp pm) j).getD 0),fun j=>E.hv ((get (swp pm) j).getD 0)⟩,rfl,by simp[zIC dA aA],fun j o hj=>?_⟩;unfold zBs at hj;simp only[get]at hj;split at hj
 ·rename_i e
  subst e;cases hj;obtain⟨hg,cs,T,hh,gA⟩:=ho i _ hi;have e0:(get (swp pm) 0).getD 0=i:=(by rw[zIC dA aA];rfl);refine⟨?_,cs,T,?_,?_⟩
  ·show gP pm E.g (E.bl ((get (swp pm) 0).getD 0))=_;rw[e0];exact zQQ hg (zCy hn aA)
  ·show w.heap[E.bl ((get (swp pm) 0).getD 0)]?=_;rw[e0];exact hh
  ·refine zKx (fun b fl e h=>zPB h) hv (fun p hp=>?_) gA;obtain⟨x,y⟩:=p;refine⟨?_,?_⟩
   ·show E.hv ((get (swp pm) y).getD 0)=E.hv x;rw[zIC dA (bA _ hp)];rfl
   ·have:=(zFI hv hp).1;unfold dom at *;simp only[zBs,get];split
    ·rfl
    ·exact this
 ·obtain⟨r,k,m,f,h1,h2,rfl⟩:=zK4 hv hj;have e0:(get (swp pm) j).getD 0=r:=(by rw[zIC dA (bA _ h1)];rfl);obtain⟨a,cap,jA,iA,hc⟩:=ho r _ h2;refine⟨a,cap,?_,iA,fun h0=>?_⟩
  ·show E.hv ((get (swp pm) j).getD 0)=_;rw[e0];exact jA
  ·obtain⟨ha,hg,cs,T,hh,hl,cA⟩:=hc h0;have fA:=zCy hn (bA _ h1);refine⟨?_,?_,cs,T,?_,hl,fun p q hp hq=>?_⟩
   ·show a=some ⟨E.bl ((get (swp pm) j).getD 0),0,none⟩;rw[e0];exact ha
   ·show gP pm E.g (E.bl ((get (swp pm) j).getD 0))=_;rw[e0];exact zQQ hg fA
   ·show w.heap[E.bl ((get (swp pm) j).getD 0)]?=_;rw[e0];exact hh
   ·obtain⟨u,hu,hs,ht⟩:=cA p q hp hq;refine⟨u,hu,Sh.okm (fun b fl e h=>zPB h) hs,?_⟩;show zAb w (gP pm E.g) (E.bl ((get (swp pm) j).getD 0)) _ _ _;rw[e0];refine ht.ext (fun b kA hb _=>⟨rfl,?_⟩);rw[zU2 hb hg,fA]
def evCallP(keep:Bool)(sp:zX)(d i:Nat)(ob:List (Nat×Ob))(l:List Av):Option Dl:=
 match get (zAX keep l ob).2 i with
 | some (.var cl)=>match varT (zAX keep l ob).2 cl,zAZ keep (qu (zAX keep l ob).2 ((i,0) :: pmC 0 cl)) (zAX keep l ob).1 with
  | some vs,some ags=>if qh (((i,0) :: pmC 0 cl).map (·.1))=true/\qh (((i,0) :: pmC 0 cl).map (·.2))=true then
    match sp ((true,vs) :: ags)with
    | some (c,(true,v0) :: rs)=>match qq d 1 (qu (zAX keep l ob).2 ((i,0) :: pmC 0 cl)) ((true,v0) :: rs)with
     | some ob'=>if tot ((true,v0) :: rs)<=38 then some ⟨c,some (match rs with
      | [q]=>.m q.1 (qK d (1+v0.length) q.2)
      | _=>.t (yU d (1+v0.length) rs)),put ob' i (.var (qK d 1 v0)),true⟩else none
     | none=>none
    | _=>none
   else none
  | _,_=>none
 | _=>none
theorem zMf{P:Program}{f:Nat}{sp:zX}{w:World}(hs:zGK P f sp w){keep:Bool}{d i:Nat}{E:En}{ob:List (Nat×Ob)}(ho:qO w E ob){l:List Av}{D:Dl}(aA:evCallP keep sp d i ob l=some D)(hc:D.c){x:Value}{ys:List Value}(hx:AvR w E (dom ob) (.m false [.p i 0]) x)(hy:qE (AvR w E (dom ob)) l ys) :
  Calls P f (x :: ys).toArray w fun e w'=>∃v E',e = .returned v/\ql (dom ob) w E w' E'/\(∀j,dom ob j->dom D.ob j)/\qO w' E' D.ob/\∃av,D.av=some av/\AvR w' E' (dom D.ob) av v:=by
 unfold evCallP at aA;obtain⟨E1,x1,o1,a1,d1⟩:=zQO (keep:=keep) ho hy;generalize (zAX keep l ob).2=obf at *;generalize (zAX keep l ob).1=l1 at *;have iC:AvR w E1 (dom obf) (.m false [.p i 0]) x:=hx.ext x1 (fun j hj=>(d1 j).1 hj);obtain⟨eB,rfl⟩:=vl1 iC;split at aA
 ·rename_i cl hi
  split at aA
  ·rename_i vs ags hvs has
   split at aA
   ·rename_i eC
    obtain⟨hn,cC⟩:=eC;split at aA
    ·rename_i c v0 rs hsp
     split at aA
     ·rename_i ob' hob
      split at aA
      case isFalse=>cases aA
      cases aA;obtain⟨E0,e0,pB,oi⟩:=zcx o1 hi hvs hn cC;have lB:i∈((i,0) :: pmC 0 cl).map (·.1):=(by simp);have bC:∀j,j∈((i,0) :: pmC 0 cl).map (·.1)->dom obf j:=fun j hj=>by
       simp only[List.map_cons,List.mem_cons,List.mem_map]at hj;rcases hj with rfl | ⟨⟨r,y⟩,hp,rfl⟩
       ·exact eB
       ·obtain⟨-,k,m,f,h⟩:=zFI hvs hp;unfold dom;rw[h];rfl
      obtain⟨g00,rA,-⟩:=o1 i _ hi;have mC:E1.g (E1.bl i) = .ow (.nm i) 0:=(o1 i _ hi).1;clear g00 rA;have mB:(i,0)∈(i,0) :: pmC 0 cl:=List.mem_cons_self ..;generalize nC:(i,0) :: pmC 0 cl=pm at *;have eA:∀j,dom obf j↔dom (qu obf pm) j:=fun j=>by
       unfold dom;rw[zDG];split
       ·rename_i h
        have:=bC j h;unfold dom at this;simp[this]
       ·exact Iff.rfl
      have o2:qO w E1 (qu obf pm):=fun j o hj=>by
       rw[zDG]at hj;split at hj
       ·cases hj;trivial
       ·exact ObR.ext (ql.refl _ _ _) (fun j hj=>(eA j).1 hj) (by unfold dom;rw[hj];rfl) (X:=fun _=>False) (fun _ _ _=>⟨rfl,rfl⟩) (fun _ _ x=>x.elim) (fun _ _ _ _ x=>x.elim) (o1 j o hj)
      have a2:qE (AvR w E1 (dom (qu obf pm))) l1 ys:=by
       have lA:∀{l:List Av} {us:List Value},qE (AvR w E1 (dom obf)) l us->qE (AvR w E1 (dom (qu obf pm))) l us:=fun {l us} h=>by
        induction h with
        | nil=>exact .nil
        | cons h _ ih=>exact .cons (h.ext (ql.refl _ _ _) (fun j hj=>(eA j).1 hj)) ih
       exact lA a1
      have jA:zab E1 (qu obf pm) E0.g:=by
       rw[e0];refine⟨fun b fl e h=>zPB h,fun j q hq b l hb=>?_⟩;have hj:j∉pm.map (·.1):=fun h=>by
        unfold rowE at hq;rw[zDG,if_pos h]at hq;cases hq
       exact⟨_,zLx hb (zE4 hj)⟩
      have bA:=hs vs ags c _ hsp hc E0 ys oi (zJj jA o2 has a2);rw[pB]at bA;refine bA.mono ?_;rintro e w' ⟨v,g,rfl,hk,cs,T,lC,rB,aB,fC,hv⟩;rw[e0]at hk;have hA:∀b,b<w.heap.size->(gP pm E1.g b).isFz=true->g b=gP pm E1.g b/\w'.heap[b]?=w.heap[b]?:=fun b hb hf=>by
       cases hg:gP pm E1.g b with
       | fz r=>obtain⟨k1,k2⟩:=hk.fz b r hg hb;exact⟨k2,k1⟩
       | ow o l=>rw[hg]at hf;cases hf
      obtain⟨ge,fB⟩:∃ge:Nat->Bs,ge=fun b=>if b<w.heap.size/\(gP pm E1.g b).isFz=true then E1.g b else(g b).rnP d i:=⟨_,rfl⟩
      have gA:∀b,b<w.heap.size->(gP pm E1.g b).isFz=true->ge b=E1.g b:=fun b h1 h2=>by rw[fB];exact if_pos ⟨h1,h2⟩
      have gB:∀b,¬(b<w.heap.size/\(gP pm E1.g b).isFz=true)->ge b=(g b).rnP d i:=fun b h=>by rw[fB];exact if_neg h
      have kB:Kp w E1.g w' ge:=by
       refine⟨hk.os,hk.tape,hk.output,hk.size,fun b r hb hl=>?_,fun b o dA hb hl=>?_⟩
       ·have hf:(gP pm E1.g b).isFz=true:=by
         unfold gP;rw[hb];rfl
        exact⟨(hA b hl hf).2,by rw[gA b hl hf];exact hb⟩
       ·rcases zHh pm E1.g b with⟨r,h1,h2⟩ | ⟨o1,l,h1,h2⟩ | ⟨o1,kC,l,h1,h2⟩
        ·rw[hb]at h1;cases h1
        ·have hf:(gP pm E1.g b).isFz=true:=(by rw[h2];rfl);exact⟨fun j _=>World.cell?_of_block (w:=w) (hA b hl hf).2,.inl ⟨o,dA,by rw[gA b hl hf];exact hb,Nat.le_refl _⟩⟩
        ·rw[hb]at h1;cases h1;obtain⟨k1,k2⟩:=hk.ow b _ _ h2 hl;have fA:=gB b (fun h=>by rw[h2]at h;cases h.2);refine⟨k1,?_⟩;rcases k2 with⟨o2,l2,k2,k3⟩ | k2
         ·refine .inl ?_;rw[fA,k2];cases o2 with
          | nm j=>exact⟨_,l2,rfl,k3⟩
          | tl B c=>exact⟨_,l2,rfl,k3⟩
         ·refine .inr ?_;rw[fA,k2];rfl
      have nB:∀b fl e,fl≠.b->(g b).ok fl e->(ge b).ok fl e:=fun b fl e hf h=>by
       by_cases hb:b<w.heap.size/\(gP pm E1.g b).isFz=true
       ·rw[gA b hb.1 hb.2];rw[(hA b hb.1 hb.2).1]at h;rcases zHh pm E1.g b with⟨r,h1,h2⟩ | ⟨o1,l,h1,h2⟩ | ⟨o1,kC,l,h1,h2⟩
        ·rw[h1,<-h2];exact h
        ·rw[h2]at h;rw[h1];exact(h.resolve_left hf) l rfl
        ·rw[h2]at h;rw[h1];exact h
       ·rw[gB b hb];exact Bs.rnP_ok h
      have sA:∀b o dA,g b = .ow o dA->ge b=(g b).rnP d i:=fun b o dA hb=>gB b (fun h=>by
       have h1:=(hA b h.1 h.2).1;rw[hb]at h1;rw[<-h1]at h;cases h.2)
      have jC:ql (dom (qu obf pm)) w E1 w' ⟨ge,E1.bl,E1.hv⟩:=⟨kB,fun _ _=>rfl,fun _ _=>rfl⟩;have tA:qO w' ⟨ge,E1.bl,E1.hv⟩ (qu obf pm):=fun j o hj=>by
       by_cases iB:j∈pm.map (·.1)
       ·rw[zDG,if_pos iB]at hj;cases hj;trivial
       ·have jB:=zE4 iB;refine ObR.ext jC (fun _ h=>h) (by unfold dom;rw[hj];rfl) (X:=fun b=>¬(gP pm E1.g b).isFz=true) (fun b hb dC=>?_) (fun b dA hb fA=>?_) (fun aC b j' dA hb fA=>?_) (o2 j o hj)
        ·have hf:=Classical.not_not.1 dC;exact⟨(hA b hb hf).2,gA b hb hf⟩
        ·rw[zLx fA jB]at hb;exact hb rfl
        ·rw[zU2 fA aC,jB]at hb;exact hb rfl
      obtain⟨E',e1,x2,o3,c1⟩:=zHX (d:=d) (E:=⟨ge,E1.bl,E1.hv⟩) (fun j T u hj h=>by
       cases T with
       | v x=>exact h
       | s fl k n f=>
        cases fl with
        | b=>exact h.elim
        | z=>exact h.1.gn nB h.2
        | o=>
         obtain⟨a,cap,e,hn,nA⟩:=h;refine⟨a,cap,e,hn,fun vA=>?_⟩;obtain⟨b,ha,hg,cs,t,oA,hl,iA⟩:=nA vA;refine⟨b,ha,?_,cs,t,oA,hl,fun p q hp hq=>?_⟩
         ·show ge b=_;rw[sA b _ _ hg,hg];simp only[Bs.rnP];rw[if_neg (by omega)]
         ·obtain⟨u,hu,h1,h2,h3⟩:=iA p q hp hq;refine⟨u,hu,h1.gn nB h2,h3.ext (fun b' dA bB _=>⟨rfl,?_⟩)⟩;show ge b'=_;rw[sA b' _ _ bB,bB];rfl) tA hob fC
      have tB:∀j,dom obf j->dom ob' j:=fun j hj=>zEM hob ((eA j).1 hj)
      cases c1 with
      | @cons _ u0 _ us h1 ht=>
       obtain⟨oB,kA,oA⟩:=h1;have kA:cs=oB:=by
        simp only[Value.agg.injEq]at kA;exact congrArg Array.toList kA
       subst kA;have pA:dom (qu obf pm) i:=(eA i).1 eB;have cB:E'.bl i=E1.bl i:=x2.bl i pA;have sB:E'.g (E'.bl i) = .ow (.nm i) 0:=by
        rw[e1,cB];show ge (E1.bl i)=_;rw[sA _ _ _ aB,aB];rfl
       have hD:∀j,dom ob' j->dom (put ob' i (.var (qK d 1 v0))) j:=fun j hj=>qL hj
       have hfin:qO w' E' (put ob' i (.var (qK d 1 v0))):=fun j o hj=>by
        rw[ze]at hj;by_cases e:i=j
        ·rw[if_pos e]at hj;cases hj;subst e;exact⟨sB,cs,T,by rw[cB];exact rB,CsR.ext (ql.refl _ _ _) hD oA⟩
        ·rw[if_neg e]at hj;exact ObR.ext (ql.refl _ _ _) hD (by unfold dom;rw[hj];rfl) (X:=fun _=>False) (fun _ _ _=>⟨rfl,rfl⟩) (fun _ _ x=>x.elim) (fun _ _ _ _ x=>x.elim) (o3 j o hj)
       have vB:ql (dom ob) w E w' E':=x1.trans ⟨by rw[e1];exact kB,fun j hj=>x2.bl j ((eA j).1 hj),fun j hj=>x2.hv j ((eA j).1 hj)⟩ (fun j hj=>(d1 j).1 hj);refine⟨v,E',rfl,vB,fun j hj=>hD j (tB j ((d1 j).1 hj)),hfin,_,rfl,?_⟩;have cA:qE (fun (q:Bool×List Cv) u=>VlR w' E' (dom (put ob' i (.var (qK d 1 v0)))) q.1 q.2 u) (yU d (1+v0.length) rs) lC:=by
        have mA:∀{l:List (Bool×List Cv)} {us:List Value},qE (fun (q:Bool×List Cv) u=>VlR w' E' (dom ob') q.1 q.2 u) l us->qE (fun (q:Bool×List Cv) u=>VlR w' E' (dom (put ob' i (.var (qK d 1 v0)))) q.1 q.2 u) l us:=fun {l us} h=>by
         induction h with
         | nil=>exact .nil
         | cons h _ ih=>exact .cons (h.ext (ql.refl _ _ _) hD) ih
        exact mA ht
       match rs,hv,cA with
       | [q],hv,cA=>
        cases hv;cases cA with
        | cons k1 k2=>exact k1
       | [],hv,cA=>exact⟨_,hv,cA⟩
       | q1 :: q2 :: r,hv,cA=>exact⟨_,hv,cA⟩
     ·cases aA
    ·cases aA
   ·cases aA
  ·cases aA
 ·cases aA
def evCallN(sp:zX)(d:Nat)(ob:List (Nat×Ob))(l:List Av):Option Dl:=
 match zAZ true (zAX true l ob).2 (zAX true l ob).1 with
 | some ags=>match sp ags with
  | some (c,[(true,v0)])=>match qq d 1 (zAX true l ob).2 [(true,v0)] with
   | some ob'=>match get ob' d with
    | none=>if v0.length<=38 then some ⟨c,some (.m false [.p d 0]),put ob' d (.var (qK d 1 v0)),true⟩else none
    | some _=>none
   | none=>none
  | _=>none
 | none=>none
theorem zTa{P:Program}{f:Nat}{sp:zX}{w:World}(hs:zJf P f sp w){d:Nat}{E:En}{ob:List (Nat×Ob)}(ho:qO w E ob){l:List Av}{D:Dl}(aA:evCallN sp d ob l=some D)(hc:D.c){ys:List Value}(hy:qE (AvR w E (dom ob)) l ys) :
  Calls P f ys.toArray w fun e w'=>∃v E',e = .returned v/\ql (dom ob) w E w' E'/\(∀j,dom ob j->dom D.ob j)/\qO w' E' D.ob/\∃av,D.av=some av/\AvR w' E' (dom D.ob) av v:=by
 unfold evCallN at aA;obtain⟨E1,x1,o1,a1,d1⟩:=zQO (keep:=true) ho hy;generalize (zAX true l ob).2=ob1 at *;generalize (zAX true l ob).1=l1 at *;split at aA
 ·rename_i rA has
  split at aA
  ·rename_i c v0 hsp
   split at aA
   ·rename_i ob' hob
    split at aA
    case h_2=>cases aA
    rename_i vA
    split at aA
    case isFalse=>cases aA
    cases aA;refine(hs rA c _ hsp hc (gC E1.g) ys (zLM _) (zJj ⟨fun b fl e h=>zb3 h,fun _ _ _ b _ _=>zLM _ b⟩ o1 has a1)).mono ?_;rintro e w' ⟨B,g,rfl,hk,cs,T,tA,lA,bB⟩;have h0:∀b,b<w.heap.size->g b=gC E1.g b/\w'.heap[b]?=w.heap[b]?:=fun b hb=>by
     obtain⟨r,hr⟩:=zLM E1.g b;obtain⟨k1,k2⟩:=hk.fz b r hr hb;exact⟨k2.trans hr.symm,k1⟩
    have pA:Kp w E1.g w' (fun b=>if b<w.heap.size then E1.g b else(g b).rnP d d):=by
     refine⟨hk.os,hk.tape,hk.output,hk.size,fun b r hb hl=>⟨(h0 b hl).2,by rw[if_pos hl];exact hb⟩,fun b o cA hb hl=>⟨fun j _=>World.cell?_of_block (w:=w) (h0 b hl).2,.inl ⟨o,cA,by rw[if_pos hl];exact hb,Nat.le_refl _⟩⟩⟩
    have hx:ql (dom ob1) w E1 w' ⟨fun b=>if b<w.heap.size then E1.g b else(g b).rnP d d,E1.bl,E1.hv⟩:=⟨pA,fun _ _=>rfl,fun _ _=>rfl⟩;have iA:qO w' ⟨fun b=>if b<w.heap.size then E1.g b else(g b).rnP d d,E1.bl,E1.hv⟩ ob1:=fun j b hj=>
     ObR.ext hx (fun _ h=>h) (by unfold dom;rw[hj];rfl) (X:=fun _=>False) (fun b hb _=>⟨(h0 b hb).2,if_pos hb⟩) (fun _ _ x=>x.elim) (fun _ _ _ _ x=>x.elim) (o1 j b hj)
    have oA:∀b fl e,fl≠.b->(g b).ok fl e->Bs.ok fl e (if b<w.heap.size then E1.g b else(g b).rnP d d):=fun b fl e hf h=>by
     by_cases hb:b<w.heap.size
     ·rw[if_pos hb];rw[(h0 b hb).1]at h;exact zb2 hf h
     ·rw[if_neg hb];exact Bs.rnP_ok h
    have gA:∀b o cA,g b = .ow o cA->¬b<w.heap.size:=fun b o cA hb h=>by
     obtain⟨r,hr⟩:=zLM E1.g b;rw[(h0 b h).1,hr]at hb;cases hb
    obtain⟨E',e1,x2,o2,c1⟩:=zHX (d:=d) (E:=⟨fun b=>if b<w.heap.size then E1.g b else(g b).rnP d d,E1.bl,E1.hv⟩) (fun j T u hj h=>by
     cases T with
     | v x=>exact h
     | s fl k n f=>
      cases fl with
      | b=>exact h.elim
      | z=>exact h.1.gn oA h.2
      | o=>
       obtain⟨a,cap,e,hn,eA⟩:=h;refine⟨a,cap,e,hn,fun jA=>?_⟩;obtain⟨b,ha,hg,cs,t,fA,hl,bA⟩:=eA jA;refine⟨b,ha,?_,cs,t,fA,hl,fun p q hp hq=>?_⟩
       ·show(if b<w.heap.size then _ else _)=_;rw[if_neg (gA b _ _ hg),hg];simp only[Bs.rnP];rw[if_neg (by omega)]
       ·obtain⟨u,hu,h1,h2,h3⟩:=bA p q hp hq;refine⟨u,hu,h1.gn oA h2,h3.ext (fun b' cA mA _=>⟨rfl,?_⟩)⟩;show(if b'<w.heap.size then _ else _)=_;rw[if_neg (gA b' _ _ mA),mA];rfl) iA hob bB
    have cB:ql (dom ob) w E w' E':=x1.trans ⟨by rw[e1];exact pA,fun i hi=>x2.bl i hi,fun i hi=>x2.hv i hi⟩ (fun j hj=>(d1 j).1 hj);have aB:∀j,dom ob' j->j≠d:=fun j hj=>zHe hj vA
    have nA:∀j,dom ob j->dom ob' j:=fun j hj=>zEM hob ((d1 j).1 hj)
    have kA:ql (dom ob') w' E' w' ⟨E'.g,fun j=>if j=d then B else E'.bl j,E'.hv⟩:=⟨Kp.refl _ _,fun j hj=>if_neg (aB j hj),fun _ _=>rfl⟩;have hD:∀j,dom ob' j->dom (put ob' d (.var (qK d 1 v0))) j:=fun j hj=>qL hj
    cases c1 with
    | @cons _ u0 _ us h1 ht=>
     obtain⟨sA,dA,fA⟩:=h1;have dA:cs=sA:=by
      simp only[Value.agg.injEq]at dA;exact congrArg Array.toList dA
     subst dA;refine⟨_,_,rfl,cB.trans kA nA,fun j hj=>hD j (nA j hj),fun j o hj=>?_,_,rfl,.p d 0,rfl,by unfold dom;rw[ze,if_pos rfl];rfl,by simp⟩;rw[ze]at hj;by_cases e:d=j
     ·rw[if_pos e]at hj;cases hj;subst e;refine⟨?_,cs,T,by simpa using tA,CsR.ext kA hD fA⟩;show E'.g (if d=d then B else _)=_;rw[if_pos rfl,e1];show(if B<w.heap.size then _ else _)=_;rw[if_neg (gA _ _ _ lA),lA];rfl
     ·rw[if_neg e]at hj;exact ObR.ext kA hD (by unfold dom;rw[hj];rfl) (X:=fun _=>False) (fun _ _ _=>⟨rfl,rfl⟩) (fun _ _ x=>x.elim) (fun _ _ _ _ x=>x.elim) (o2 j o hj)
   ·cases aA
  ·cases aA
 ·cases aA
def zJg(P:Program)(f:Nat)(sp:zX)(w:World):Prop:=
 ∀vs ags c rs,sp (ags ++ [(true,vs)])=some (c,rs)->c->∀(E:En) (ys:List Value) (y:Value),qO w E (qP 0 vs)->qE (zLi w E.g) ags ys->VlR w E (dom (qP 0 vs)) true (qK 0 0 vs) y->
  Calls P f (ys ++ [y]).toArray w fun e w'=>∃v g,e = .returned v/\Kp w E.g w' g/\zTE w' g rs v
def zP9(P:Program)(f:Nat)(sp:zX):Prop:=∀w,zJg P f sp w
def unlast:List Av->Option (List Av×List Cv)
 | []=>none
 | x :: l=>match l,x with
  | [],.m true c=>some ([],c)
  | [],_=>none
  | _ :: _,_=>match unlast l with
   | some q=>some (x :: q.1,q.2)
   | none=>none
theorem zLE:∀{r l:List Av} {c:List Cv},unlast r=some (l,c)->r=l ++ [.m true c]
 | [],l,c,h=>by cases h
 | x :: r,l,c,h=>by
  unfold unlast at h;split at h
  ·cases h;rfl
  ·cases h
  ·split at h
   ·rename_i q hq
    cases h;rw[zLE (l:=q.1) (c:=q.2) hq];rfl
   ·cases h
theorem za4{w:World}{E:En}{D:Nat->Prop}{ob:List (Nat×Ob)}(ho:qO w E ob){cl:List Cv}{vs:List Tr}(hv:varT ob cl=some vs)(hn:qh ((pmC 0 cl).map (·.1))=true)(cA:qh ((pmC 0 cl).map (·.2))=true) :
  ∃E0,E0.g=gP (pmC 0 cl) E.g/\qO w E0 (qP 0 vs)/\∀cs,CsR w E D cl cs->CsR w E0 (dom (qP 0 vs)) (qK 0 0 vs) cs:=by
 obtain⟨pm,eA⟩:∃pm,pm=pmC 0 cl:=⟨_,rfl⟩;rw[<-eA]at hn cA ⊢;have aA:∀p∈pmC 0 cl,p∈pm:=fun p hp=>by rw[eA];exact hp
 refine⟨⟨gP pm E.g,fun j=>E.bl ((get (swp pm) j).getD 0),fun j=>E.hv ((get (swp pm) j).getD 0)⟩,rfl,fun j o hj=>?_,fun cs fA=>zKx (fun b fl e h=>zPB h) hv (fun p hp=>?_) fA⟩
 ·obtain⟨r,k,m,f,h1,h2,rfl⟩:=zK4 hv hj;have e0:(get (swp pm) j).getD 0=r:=(by rw[zIC cA (aA _ h1)];rfl);obtain⟨a,cap,iA,gA,hc⟩:=ho r _ h2;refine⟨a,cap,?_,gA,fun h0=>?_⟩
  ·show E.hv ((get (swp pm) j).getD 0)=_;rw[e0];exact iA
  ·obtain⟨ha,hg,cs,T,hh,hl,bA⟩:=hc h0;have dA:=zCy hn (aA _ h1);refine⟨?_,?_,cs,T,?_,hl,fun p q hp hq=>?_⟩
   ·show a=some ⟨E.bl ((get (swp pm) j).getD 0),0,none⟩;rw[e0];exact ha
   ·show gP pm E.g (E.bl ((get (swp pm) j).getD 0))=_;rw[e0];exact zQQ hg dA
   ·show w.heap[E.bl ((get (swp pm) j).getD 0)]?=_;rw[e0];exact hh
   ·obtain⟨u,hu,hs,ht⟩:=bA p q hp hq;refine⟨u,hu,Sh.okm (fun b fl e h=>zPB h) hs,?_⟩;show zAb w (gP pm E.g) (E.bl ((get (swp pm) j).getD 0)) _ _ _;rw[e0];refine ht.ext (fun b jA hb _=>⟨rfl,?_⟩);rw[zU2 hb hg,dA]
 ·obtain⟨x,y⟩:=p;refine⟨?_,(zFI hv hp).1⟩;show E.hv ((get (swp pm) y).getD 0)=E.hv x;rw[zIC cA (aA _ hp)];rfl
def evCallO(sp:zX)(d:Nat)(ob:List (Nat×Ob))(r:List Av):Option Dl:=
 match unlast r with
 | some (l,cl)=>match varT ob cl,zAZ false (qu ob (pmC 0 cl)) l with
  | some vs,some ags=>if qh ((pmC 0 cl).map (·.1))=true/\qh ((pmC 0 cl).map (·.2))=true then
    match sp (ags ++ [(true,vs)])with
    | some (c,rs)=>match qq d 0 (qu ob (pmC 0 cl)) rs with
     | some ob'=>if tot rs<=40 then some ⟨c,some (match rs with
      | [q]=>.m q.1 (qK d 0 q.2)
      | _=>.t (yU d 0 rs)),ob',true⟩else none
     | none=>none
    | none=>none
   else none
  | _,_=>none
 | none=>none
theorem zMO{α β : Type}{R:α->β->Prop}:∀{l l':List α} {ys:List β},qE R (l ++ l') ys->∃a b,ys=a ++ b/\qE R l a/\qE R l' b
 | [],l',ys,h=>⟨[],ys,rfl,.nil,h⟩
 | x :: l,l',ys,h=>by
  cases h with
  | cons h1 t=>
   obtain⟨a,b,rfl,h2,h3⟩:=zMO (l:=l) t;exact⟨_ :: a,b,rfl,.cons h1 h2,h3⟩
theorem zTc{P:Program}{f:Nat}{sp:zX}{w:World}(hs:zJg P f sp w){d:Nat}{E:En}{ob:List (Nat×Ob)}(ho:qO w E ob){l:List Av}{D:Dl}(aA:evCallO sp d ob l=some D)(hc:D.c){ys:List Value}(hy:qE (AvR w E (dom ob)) l ys) :
  Calls P f ys.toArray w fun e w'=>∃v E',e = .returned v/\ql (dom ob) w E w' E'/\(∀j,dom ob j->dom D.ob j)/\qO w' E' D.ob/\∃av,D.av=some av/\AvR w' E' (dom D.ob) av v:=by
 unfold evCallO at aA;split at aA
 ·rename_i l1 cl hul
  rw[zLE hul]at hy;obtain⟨fB,yl,rfl,a1,sB⟩:=zMO hy;cases sB with
  | @cons _ y _ us hyo tt=>
  cases tt;split at aA
  ·rename_i vs ags hvs has
   split at aA
   ·rename_i oB
    obtain⟨hn,mB⟩:=oB;split at aA
    ·rename_i c rs hsp
     split at aA
     ·rename_i ob' hob
      split at aA
      case isFalse=>cases aA
      cases aA;obtain⟨iB,kA,oA⟩:=hyo;obtain⟨E0,e0,oi,nA⟩:=za4 (D:=dom ob) ho hvs hn mB;have lB:∀j,j∈(pmC 0 cl).map (·.1)->dom ob j:=fun j hj=>by
       obtain⟨⟨r,y⟩,hp,rfl⟩:=List.mem_map.1 hj;obtain⟨-,k,m,f,h⟩:=zFI hvs hp;unfold dom;rw[h];rfl
      generalize vB:pmC 0 cl=pm at *;have fA:∀j,dom ob j↔dom (qu ob pm) j:=fun j=>by
       unfold dom;rw[zDG];split
       ·rename_i h
        have:=lB j h;unfold dom at this;simp[this]
       ·exact Iff.rfl
      have o2:qO w E (qu ob pm):=fun j o hj=>by
       rw[zDG]at hj;split at hj
       ·cases hj;trivial
       ·exact ObR.ext (ql.refl _ _ _) (fun j hj=>(fA j).1 hj) (by unfold dom;rw[hj];rfl) (X:=fun _=>False) (fun _ _ _=>⟨rfl,rfl⟩) (fun _ _ x=>x.elim) (fun _ _ _ _ x=>x.elim) (ho j o hj)
      have a2:qE (AvR w E (dom (qu ob pm))) l1 fB:=by
       have lA:∀{l:List Av} {us:List Value},qE (AvR w E (dom ob)) l us->qE (AvR w E (dom (qu ob pm))) l us:=fun {l us} h=>by
        induction h with
        | nil=>exact .nil
        | cons h _ ih=>exact .cons (h.ext (ql.refl _ _ _) (fun j hj=>(fA j).1 hj)) ih
       exact lA a1
      have iA:zab E (qu ob pm) E0.g:=by
       rw[e0];refine⟨fun b fl e h=>zPB h,fun j q hq b l hb=>?_⟩;have hj:j∉pm.map (·.1):=fun h=>by
        unfold rowE at hq;rw[zDG,if_pos h]at hq;cases hq
       exact⟨_,zLx hb (zE4 hj)⟩
      have dA:=hs vs ags c _ hsp hc E0 fB y oi (zJj iA o2 has a2) ⟨iB,kA,nA _ oA⟩;refine dA.mono ?_;rintro e w' ⟨v,g,rfl,hk,aC,pB,hv⟩;rw[e0]at hk;have hA:∀b,b<w.heap.size->(gP pm E.g b).isFz=true->g b=gP pm E.g b/\w'.heap[b]?=w.heap[b]?:=fun b hb hf=>by
       cases hg:gP pm E.g b with
       | fz r=>obtain⟨k1,k2⟩:=hk.fz b r hg hb;exact⟨k2,k1⟩
       | ow o l=>rw[hg]at hf;cases hf
      obtain⟨ge,tA⟩:∃ge:Nat->Bs,ge=fun b=>if b<w.heap.size/\(gP pm E.g b).isFz=true then E.g b else(g b).rn d:=⟨_,rfl⟩
      have gA:∀b,b<w.heap.size->(gP pm E.g b).isFz=true->ge b=E.g b:=fun b h1 h2=>by rw[tA];exact if_pos ⟨h1,h2⟩
      have gB:∀b,¬(b<w.heap.size/\(gP pm E.g b).isFz=true)->ge b=(g b).rn d:=fun b h=>by rw[tA];exact if_neg h
      have jA:∀{s:Bs} {fl:Fl} {e:Nat},s.ok fl e->(s.rn d).ok fl e:=fun {s fl e} h=>by
       cases s with
       | fz r=>exact h
       | ow o l=>cases o<;>exact h
      have bB:Kp w E.g w' ge:=by
       refine⟨hk.os,hk.tape,hk.output,hk.size,fun b r hb hl=>?_,fun b o bA hb hl=>?_⟩
       ·have hf:(gP pm E.g b).isFz=true:=by
         unfold gP;rw[hb];rfl
        exact⟨(hA b hl hf).2,by rw[gA b hl hf];exact hb⟩
       ·rcases zHh pm E.g b with⟨r,h1,h2⟩ | ⟨o1,l,h1,h2⟩ | ⟨o1,tB,l,h1,h2⟩
        ·rw[hb]at h1;cases h1
        ·have hf:(gP pm E.g b).isFz=true:=(by rw[h2];rfl);exact⟨fun j _=>World.cell?_of_block (w:=w) (hA b hl hf).2,.inl ⟨o,bA,by rw[gA b hl hf];exact hb,Nat.le_refl _⟩⟩
        ·rw[hb]at h1;cases h1;obtain⟨k1,k2⟩:=hk.ow b _ _ h2 hl;have cA:=gB b (fun h=>by rw[h2]at h;cases h.2);refine⟨k1,?_⟩;rcases k2 with⟨o2,l2,k2,k3⟩ | k2
         ·refine .inl ?_;rw[cA,k2];cases o2 with
          | nm j=>exact⟨_,l2,rfl,k3⟩
          | tl B c=>exact⟨_,l2,rfl,k3⟩
         ·refine .inr ?_;rw[cA,k2];rfl
      have eB:∀b fl e,fl≠.b->(g b).ok fl e->(ge b).ok fl e:=fun b fl e hf h=>by
       by_cases hb:b<w.heap.size/\(gP pm E.g b).isFz=true
       ·rw[gA b hb.1 hb.2];rw[(hA b hb.1 hb.2).1]at h;rcases zHh pm E.g b with⟨r,h1,h2⟩ | ⟨o1,l,h1,h2⟩ | ⟨o1,tB,l,h1,h2⟩
        ·rw[h1,<-h2];exact h
        ·rw[h2]at h;rw[h1];exact(h.resolve_left hf) l rfl
        ·rw[h2]at h;rw[h1];exact h
       ·rw[gB b hb];exact jA h
      have cB:∀b o bA,g b = .ow o bA->ge b=(g b).rn d:=fun b o bA hb=>gB b (fun h=>by
       have h1:=(hA b h.1 h.2).1;rw[hb]at h1;rw[<-h1]at h;cases h.2)
      have rB:ql (dom (qu ob pm)) w E w' ⟨ge,E.bl,E.hv⟩:=⟨bB,fun _ _=>rfl,fun _ _=>rfl⟩;have pA:qO w' ⟨ge,E.bl,E.hv⟩ (qu ob pm):=fun j o hj=>by
       by_cases vA:j∈pm.map (·.1)
       ·rw[zDG,if_pos vA]at hj;cases hj;trivial
       ·have aB:=zE4 vA;refine ObR.ext rB (fun _ h=>h) (by unfold dom;rw[hj];rfl) (X:=fun b=>¬(gP pm E.g b).isFz=true) (fun b hb nB=>?_) (fun b bA hb cA=>?_) (fun kB b j' bA hb cA=>?_) (o2 j o hj)
        ·have hf:=Classical.not_not.1 nB;exact⟨(hA b hb hf).2,gA b hb hf⟩
        ·rw[zLx cA aB]at hb;exact hb rfl
        ·rw[zU2 cA kB,aB]at hb;exact hb rfl
      obtain⟨E',e1,x2,o3,c1⟩:=zHX (d:=d) (E:=⟨ge,E.bl,E.hv⟩) (fun j T u hj h=>by
       cases T with
       | v x=>exact h
       | s fl k n f=>
        cases fl with
        | b=>exact h.elim
        | z=>exact h.1.gn eB h.2
        | o=>
         obtain⟨a,cap,e,hn,mA⟩:=h;refine⟨a,cap,e,hn,fun rA=>?_⟩;obtain⟨b,ha,hg,cs,t,nA,hl,eA⟩:=mA rA;refine⟨b,ha,?_,cs,t,nA,hl,fun p q hp hq=>?_⟩
         ·show ge b=_;rw[cB b _ _ hg,hg];rfl
         ·obtain⟨u,hu,h1,h2,h3⟩:=eA p q hp hq;refine⟨u,hu,h1.gn eB h2,h3.ext (fun b' bA sA _=>⟨rfl,?_⟩)⟩;show ge b'=_;rw[cB b' _ _ sA,sA];rfl) pA hob pB
      have jB:ql (dom ob) w E w' E':=⟨by rw[e1];exact bB,fun j hj=>x2.bl j ((fA j).1 hj),fun j hj=>x2.hv j ((fA j).1 hj)⟩;refine⟨v,E',rfl,jB,fun j hj=>zEM hob ((fA j).1 hj),o3,_,rfl,?_⟩
      match rs,hv,c1 with
      | [q],hv,c1=>
       cases hv;cases c1 with
       | cons k1 k2=>exact k1
      | [],hv,c1=>exact⟨_,hv,c1⟩
      | q1 :: q2 :: r,hv,c1=>exact⟨_,hv,c1⟩
     ·cases aA
    ·cases aA
   ·cases aA
  ·cases aA
 ·cases aA
end Go.Proofs.YtjganmlaooofoaaGreatDoor
