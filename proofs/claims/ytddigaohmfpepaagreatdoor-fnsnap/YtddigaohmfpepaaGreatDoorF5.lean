/- A part of the proof. -/
import Derived.Test.YtddigaohmfpepaaGreatDoorF4
import Derived.Test.YtddigaohmfpepaaGreatDoorProg
import Derived.KernelRfl
import GoSem.ClaimJoined
import GoSem.ClaimMapViews
import Derived.JoinedTies
import Derived.RowKit
import Derived.Deep.RegionHeld3
import Derived.Deep.QuietTactic
import Derived.BigQuiet
import Derived.Laws.CopyOwn
import Derived.Deep.RegionLaw
import Derived.Deep.WholeRow
set_option linter.unusedVariables false
set_option maxRecDepth 20000
set_option maxHeartbeats 4000000
namespace Go.Proofs.YtddigaohmfpepaaGreatDoor
open Go.RowKit
set_option linter.unusedSimpArgs false
def TrE:Tr->Tr->Prop
 | .v x,.v y=>x=y
 | .s fl k n f,.s fl' k' n' f'=>(fl=fl'\/(fl = .o/\fl' = .z))/\k=k'/\n=n'/\∀i j,i<n->j<k->TrE (f i j) (f' i j)
 | .v x,.s fl' k' n' f'=>x = .slice none 0 0/\n'=0
 | _,_=>False
theorem TrE.refl:∀(T:Tr),TrE T T
 | .v x=>rfl
 | .s fl k n f=>⟨.inl rfl,rfl,rfl,fun i j _ _=>TrE.refl (f i j)⟩
variable{T:Tr}
theorem TrE.of_eq{S:Tr}(h:S=T):TrE S T:=h▸TrE.refl S
variable{s:Bs}{fl:Fl}
theorem Bs.ok_oz{a:Fl}{e:Nat}(h:fl=a\/(fl = .o/\a = .z))(b:s.ok fl e):s.ok a e:=by
 rcases h with rfl | ⟨rfl,rfl⟩
 ·exact b
 ·cases s with
  | fz r=>exact .inr (b.resolve_left (by simp))
  | ow o l=>exact b
variable{w:World}{g:Nat->Bs}
theorem Sh.e:∀{T T':Tr} {u:Value},TrE T T'->Sh w g T u->Sh w g T' u
 | .v x,.v y,u,h,hs=>by cases h;exact hs
 | .s fl k n f,.s fl' k' n' f',u,h,hs=>by
  obtain⟨l,rfl,rfl,A⟩:=h;obtain⟨a,c,e,hn,z⟩:=hs;refine⟨a,c,e,hn,fun p=>?_⟩;obtain⟨b,o,r,t,m,d⟩:=z p;exact⟨b,o,r,t,Bs.ok_oz l m,fun i j hi q=>let ⟨u,hu,hs⟩:=d i j hi q;⟨u,hu,hs.e (A i j hi q)⟩⟩
 | .v x,.s ..,u,h,hs=>by
  obtain⟨rfl,rfl⟩:=h;exact⟨none,0,hs.1,Nat.le_refl _,fun p=>by omega⟩
 | .s ..,.v x,u,h,hs=>h.elim
variable{B j:Nat}{u:Value}
theorem CM.e{T':Tr}(h:TrE T T')(hs:Sh w g T u)(a:CM w g B j T u):CM w g B j T' u:=by
 cases T with
 | v x=>cases T' with
  | v y=>trivial
  | s fl k n f=>
   obtain⟨rfl,rfl⟩:=h;cases fl with
   | o=>exact⟨none,0,hs.1,fun c=>by omega⟩
   | b=>trivial
   | z=>trivial
 | s fl k n f=>cases T' with
  | v y=>trivial
  | s fl' k' n' f'=>
   obtain⟨rfl | ⟨rfl,rfl⟩,rfl,rfl,_⟩:=h
   ·cases fl<;>exact a
   ·trivial
def sg:List (Nat×Nat)->Nat->Nat
 | [],j=>j
 | (a,b) :: r,j=>if a=j then b else sg r j
def CvE(ρ : List (Nat×Nat)):Cv->Cv->Prop
 | .s fl k n f,.s fl' k' n' f'=>TrE (.s fl k n f) (.s fl' k' n' f')
 | .q fl k n f a j,.q fl' k' n' f' a' j'=>TrE (.s fl k n f) (.s fl' k' n' f')/\a=a'/\j=j'
 | .v x,.v y=>x=y
 | .h i,.h j=>i=sg ρ j
 | .v x,.h j=>x = .slice none 0 0/\100000<=sg ρ j
 | .p i o,.p j q=>i=sg ρ j/\o=q
 | .e i k a j,.e i' k' a' j'=>i=sg ρ i'/\k=k'/\a=a'/\j=j'
 | _,_=>False
def Bs.rnm(τ : Nat->Nat):Bs->Bs
 | .ow (.nm i) l=>.ow (.nm (τ i)) l
 | s=>s
def En.rnm(E:En)(ρ : List (Nat×Nat))(τ : Nat->Nat):En:=⟨fun b=>(E.g b).rnm τ,fun i=>E.bl (sg ρ i),fun i=>E.hv (sg ρ i)⟩
variable{τ:Nat->Nat}
theorem Bs.ok_rnm{e:Nat}(h:s.ok fl e):(s.rnm τ).ok fl e:=by
 cases s with
 | fz r=>exact h
 | ow o l=>cases o<;>exact h
theorem Sh.rnm:∀{T:Tr} {u:Value},Sh w g T u->Sh w (fun b=>(g b).rnm τ) T u
 | .v x,u,hs=>hs
 | .s fl k n f,u,hs=>by
  obtain⟨a,c,e,hn,q⟩:=hs;refine⟨a,c,e,hn,fun l=>?_⟩;obtain⟨b,o,m,p,h,d⟩:=q l;exact⟨b,o,m,p,Bs.ok_rnm h,fun i j hi r=>let ⟨u,hu,hs⟩:=d i j hi r;⟨u,hu,hs.rnm⟩⟩
theorem CM.rnm(i:CM w g B j T u):CM w (fun b=>(g b).rnm τ) B j T u:=by
 cases T with
 | v x=>trivial
 | s fl k n f=>cases fl with
  | o=>
   obtain⟨a,c,e,h⟩:=i;exact⟨a,c,e,fun d=>let ⟨b,h1,h2,h3⟩:=h d;⟨b,h1,by simp only[h2,Bs.rnm],h3⟩⟩
  | b=>trivial
  | z=>trivial
variable{g':Nat->Bs}
theorem Kp.rnm{w':World}(h:Kp w g w' g'):Kp w g w' (fun b=>(g' b).rnm τ):=by
 refine⟨h.os,h.tape,h.output,h.size,fun b r d e=>?_,fun b o f d e=>?_⟩
 ·obtain⟨c,a⟩:=h.fz b r d e;exact⟨c,by simp only[a,Bs.rnm]⟩
 ·obtain⟨c,⟨o',l',a,k⟩ | a⟩:=h.ow b o f d e
  ·refine⟨c,.inl ?_⟩;cases o' with
   | nm i=>exact⟨.nm (τ i),l',by simp only[a,Bs.rnm],k⟩
   | tl b j=>exact⟨.tl b j,l',by simp only[a,Bs.rnm],k⟩
  ·exact⟨c,.inr (by simp only[a,Bs.rnm])⟩
def inD(ob:List (Nat×Ob))(l:List Nat):Bool:=l.all fun i=>(get ob i).isSome
section
variable {ρ : List (Nat × Nat)} {τ : Nat -> Nat}
variable{E:En}{D D':Nat->Prop}
theorem CvR.e(z:∀i,100000<=i->E.hv i = .slice none 0 0){x y:Cv}(h:CvE ρ x y)(d:∀i∈y.ids,D' i)(a:CvR w E D x u):CvR w (E.rnm ρ τ) D' y u:=by
 cases x<;>cases y<;>simp only[CvE]at h
 case v.v=>cases h;exact a
 case s.s=>exact Sh.rnm (Sh.e h a)
 case h.h=>cases h;exact⟨d _ (by simp[Cv.ids]),a.2⟩
 case v.h=>
  obtain⟨rfl,h⟩:=h;exact⟨d _ (by simp[Cv.ids]),a.1.trans (z _ h).symm,a.1▸a.2⟩
 case p.p=>obtain⟨rfl,rfl⟩:=h;exact⟨d _ (by simp[Cv.ids]),a.2⟩
 case e.e=>obtain⟨rfl,rfl,rfl,rfl⟩:=h;exact⟨d _ (by simp[Cv.ids]),a.2⟩
 case q.q=>
  obtain⟨h,rfl,rfl⟩:=h;obtain⟨A,b,o,e,hs⟩:=a;obtain⟨k,rfl,rfl,C⟩:=h;obtain⟨n,c',r,hn,B⟩:=hs;refine⟨A,b,o,e,Sh.rnm ⟨n,c',r,hn,fun t=>?_⟩⟩;obtain⟨b',o',f,g,l,c⟩:=B t;exact⟨b',o',f,g,Bs.ok_oz k l,fun i j hi m=>let ⟨u,hu,hs⟩:=c i j hi m;⟨u,hu,hs.e (C i j hi m)⟩⟩
def CsE(ρ : List (Nat×Nat)):List Cv->List Cv->Prop
 | [],[]=>True
 | x :: r,y :: s=>CvE ρ x y/\CsE ρ r s
 | _,_=>False
theorem CsR.e{w:World}{E:En}(a:∀i,100000<=i->E.hv i = .slice none 0 0){D D':Nat->Prop}:∀{l m:List Cv} {us:List Value},CsE ρ l m->(∀i∈m.flatMap Cv.ids,D' i)->CsR w E D l us->CsR w (E.rnm ρ τ) D' m us
 | [],[],us,_,_,h=>by cases h;exact AR.nil
 | x :: r,y :: s,us,h,hd,hx=>by
  cases hx with
  | cons h1 t=>exact AR.cons (h1.e a h.1 (fun i hi=>hd i (by simp[hi]))) (CsR.e a h.2 (fun i hi=>hd i (by simp at hi ⊢;exact .inr hi)) t)
 | [],_ :: _,us,h,_,_=>h.elim
 | _ :: _,[],us,h,_,_=>h.elim
def AvE(ρ : List (Nat×Nat)):Av->Av->Prop
 | .m g l,.m g' l'=>g=g'/\CsE ρ l l'
 | _,_=>False
def Av.tup:Av->Bool
 | .t _=>true
 | _=>false
theorem AvR.e(b:∀i,100000<=i->E.hv i = .slice none 0 0){x y:Av}(h:AvE ρ x y)(f:y.tup=false)(c:∀i∈y.ids,D' i)(d:AvR w E D x u):AvR w (E.rnm ρ τ) D' y u:=by
 cases y with
 | t l=>cases f
 | m g' l'=>
  cases x with
  | t l=>exact h.elim
  | m g l=>
   obtain⟨rfl,h⟩:=h;cases g with
   | true=>obtain⟨cs,e,a⟩:=d;exact⟨cs,e,a.e b h c⟩
   | false=>
    obtain⟨x,rfl,a⟩:=d
    match l',h with
    | [y],h=>exact⟨y,rfl,a.e b h.1 (fun i hi=>c i (by simp[Av.ids,hi]))⟩
    | y :: z :: r,h=>exact h.2.elim
def ObE(ρ : List (Nat×Nat)):Ob->Ob->Prop
 | .var l,.var l'=>CsE ρ l l'
 | .row k n f,.row k' n' f'=>TrE (.s .o k n f) (.s .o k' n' f')
 | .dead,.dead=>True
 | .tl k n f,.tl k' n' f'=>TrE (.s .o k n f) (.s .o k' n' f')
 | _,_=>False
def Ob.ids:Ob->List Nat
 | .var l=>l.flatMap Cv.ids
 | _=>[]
theorem ObR.e(v:∀i,100000<=i->E.hv i = .slice none 0 0){i:Nat}(hi:τ (sg ρ i)=i){o o':Ob}(h:ObE ρ o o')(x:∀j∈o'.ids,D' j)(s:ObR w E D (sg ρ i) o):ObR w (E.rnm ρ τ) D' i o':=by
 cases o<;>cases o'<;>simp only[ObE]at h
 case var.var=>
  obtain⟨k,c,t,l,g⟩:=s;exact⟨by simp only[En.rnm,k,Bs.rnm,hi],c,t,l,g.e v h x⟩
 case row.row=>
  obtain⟨-,rfl,rfl,m⟩:=h;obtain⟨a,cap,hv,hn,g⟩:=s;refine⟨a,cap,hv,hn,fun n=>?_⟩;obtain⟨q,k,c,t,l,r,b⟩:=g n;exact⟨q,by simp only[En.rnm,k,Bs.rnm,hi],c,t,l,r,fun p j f d=>let ⟨u,hu,hs,ht⟩:=b p j f d;⟨u,hu,Sh.rnm (hs.e (m p j f d)),CM.rnm (ht.e (m p j f d) hs)⟩⟩
 case dead.dead=>trivial
 case tl.tl=>
  obtain⟨-,rfl,rfl,m⟩:=h;obtain⟨a,cap,hv,hn,g⟩:=s;refine⟨a,cap,hv,hn,fun n=>?_⟩;obtain⟨q,k,c,t,l,r,b⟩:=g n;exact⟨q,by simp only[En.rnm,k,Bs.rnm,hi],c,t,l,r,fun p j f d=>let ⟨u,hu,hs⟩:=b p j f d;⟨u,hu,Sh.rnm (hs.e (m p j f d))⟩⟩
end
def tmW(ρ : List (Nat×Nat))(tm:List (Nat×Bool×Av))(ob':List (Nat×Ob)):List (Nat×Bool×Av)->Prop
 | []=>True
 | q :: r=>(match get tm q.1 with
  | some x=>x.1=q.2.1/\AvE ρ x.2 q.2.2
  | none=>False)/\q.2.2.tup=false/\inD ob' q.2.2.ids=true/\tmW ρ tm ob' r
def nin(a:Nat):List Nat->Prop
 | []=>True
 | b :: r=>a≠b/\nin a r
def SN:Ob->Nat->Prop
 | .row _ n _,i=>n=0/\100000<=i
 | _,_=>False
def bdO:List (Nat×Ob)->Prop
 | []=>True
 | q :: r=>q.1<100000/\bdO r
theorem To:∀{l:List (Nat×Ob)},bdO l->∀{i:Nat},100000<=i->get l i=none
 | [],_,_,_=>rfl
 | q :: r,⟨h,h'⟩,i,hi=>by
  obtain⟨a,x⟩:=q;simp only[get];rw[if_neg (fun e=>by simp only at h;omega),To h' hi]
def obW(ρ : List (Nat×Nat))(ob ob':List (Nat×Ob)):List (Nat×Ob)->List Nat->Prop
 | [],_=>True
 | q :: r,l=>(match get ob (sg ρ q.1)with
  | some x=>ObE ρ x q.2
  | none=>SN q.2 (sg ρ q.1))/\inD ob' q.2.ids=true/\nin (sg ρ q.1) l/\obW ρ ob ob' r (sg ρ q.1 :: l)
def dB0(ob:List (Nat×Ob)):Bool:=(get ob 0).isSome
def hpC:Cv->Cv->List (Nat×Nat)->List (Nat×Nat)
 | .h i,.h j,r=>(j,i) :: r
 | .v _,.h j,r=>(j,100000+j) :: r
 | _,_,r=>r
def hpL:List Cv->List Cv->List (Nat×Nat)->List (Nat×Nat)
 | x :: l,y :: m,r=>hpC x y (hpL l m r)
 | _,_,r=>r
def hpA:Option (Bool×Av)->Av->List (Nat×Nat)->List (Nat×Nat)
 | some (_,.m _ l),.m _ m,r=>hpL l m r
 | _,_,r=>r
def hpV:Option Ob->Ob->List (Nat×Nat)->List (Nat×Nat)
 | some (.var l),.var m,r=>hpL l m r
 | _,_,r=>r
def hpT(tm:List (Nat×Bool×Av)):List (Nat×Bool×Av)->List (Nat×Nat)->List (Nat×Nat)
 | [],r=>r
 | q :: l,r=>hpA (get tm q.1) q.2.2 (hpT tm l r)
def hpO(ob:List (Nat×Ob)):List (Nat×Ob)->List (Nat×Nat)
 | []=>[]
 | q :: l=>hpV (get ob q.1) q.2 (hpO ob l)
def StR(ρ : List (Nat×Nat))(S S':St):Prop:=tmW ρ S.tm S'.ob S'.tm/\obW ρ S.ob S'.ob S'.ob []/\bdO S.ob/\sg ρ 0=0/\(dB0 S.ob=true->dB0 S'.ob=true)
def StW(S S':St):Prop:=StR (hpT S.tm S'.tm (hpO S.ob S'.ob)) S S'
theorem Sg{ρ : List (Nat×Nat)}{tm:List (Nat×Bool×Av)}{ob':List (Nat×Ob)}:∀{l:List (Nat×Bool×Av)},tmW ρ tm ob' l->∀q∈l,(∃x,get tm q.1=some x/\x.1=q.2.1/\AvE ρ x.2 q.2.2)/\q.2.2.tup=false/\inD ob' q.2.2.ids=true
 | [],_,q,hq=>by cases hq
 | p :: r,⟨h1,h2,h3,h4⟩,q,hq=>by
  cases hq with
  | head=>
   refine⟨?_,h2,h3⟩;cases hg:get tm p.1 with
   | none=>rw[hg]at h1;exact h1.elim
   | some x=>rw[hg]at h1;exact⟨x,rfl,h1⟩
  | tail _ hm=>exact Sg h4 q hm
theorem TZ{ρ : List (Nat×Nat)}{ob ob':List (Nat×Ob)}:∀{l:List (Nat×Ob)} {m:List Nat},obW ρ ob ob' l m->∀q∈l,((∃x,get ob (sg ρ q.1)=some x/\ObE ρ x q.2)\/SN q.2 (sg ρ q.1))/\inD ob' q.2.ids=true
 | [],_,_,q,hq=>by cases hq
 | p :: r,m,⟨h1,h2,_,h3⟩,q,hq=>by
  cases hq with
  | head=>
   refine⟨?_,h2⟩;cases hg:get ob (sg ρ p.1)with
   | none=>rw[hg]at h1;exact .inr h1
   | some x=>rw[hg]at h1;exact .inl ⟨x,rfl,h1⟩
  | tail _ hm=>exact TZ h3 q hm
theorem TP{a:Nat}:∀{l:List Nat},nin a l->a∉l
 | [],_=>by simp
 | b :: r,⟨h,h'⟩=>by simp[h,TP h']
theorem Pz{ρ : List (Nat×Nat)}{ob ob':List (Nat×Ob)}:∀{l:List (Nat×Ob)} {m:List Nat},obW ρ ob ob' l m->∀q∈l,sg ρ q.1∉m
 | [],_,_,q,hq=>by cases hq
 | p :: r,m,⟨_,_,h2,h3⟩,q,hq=>by
  cases hq with
  | head=>exact TP h2
  | tail _ hm=>exact fun h=>Pz h3 q hm (List.mem_cons_of_mem _ h)
theorem TY{ρ : List (Nat×Nat)}{ob ob':List (Nat×Ob)}:∀{l:List (Nat×Ob)} {m:List Nat},obW ρ ob ob' l m->∀q∈l,∀b∈l,sg ρ q.1=sg ρ b.1->q=b
 | [],_,_,q,hq=>by cases hq
 | p :: r,m,⟨_,_,h2,h3⟩,q,hq=>fun b a e=>by
  cases hq with
  | head=>cases a with
   | head=>rfl
   | tail _ hm=>exact(Pz h3 b hm (e▸List.mem_cons_self ..)).elim
  | tail _ hm=>cases a with
   | head=>exact(Pz h3 q hm (e▸List.mem_cons_self ..)).elim
   | tail _ hm'=>exact TY h3 q hm b hm' e
theorem ZV{ob:List (Nat×Ob)}{l:List Nat}(h:inD ob l=true):∀i∈l,dom ob i:=fun i hi=>by
 unfold inD at h;rw[List.all_eq_true]at h;exact h i hi
section
variable {P : Program} {T : Tb} {Γ : List (Nat × AL)} {w0 : World} {g0 : Gh} {N n : Nat}
theorem Rel.weak{S S':St}{a:Act}(h:Rel w0 g0 N S a w)(C:StW S S'):Rel w0 g0 N S' a w:=by
 obtain⟨E,h⟩:=h;unfold StW at C;generalize hpT S.tm S'.tm (hpO S.ob S'.ob) = ρ at C;obtain⟨D,m,F,G,H⟩:=C;have A:∀i,dom S.ob i->¬100000<=i:=fun i hi h=>by unfold dom at hi;rw[To F h]at hi;cases hi
 obtain⟨E,v⟩:∃I:En,I=⟨E.g,E.bl,fun i=>if 100000<=i then .slice none 0 0 else E.hv i⟩/\FO w0 g0 N S a w I:=by
  have p:AX (dom S.ob) w E w ⟨E.g,E.bl,fun i=>if 100000<=i then .slice none 0 0 else E.hv i⟩:=⟨Kp.refl _ _,fun _ _=>rfl,fun i hi=>if_neg (A i hi)⟩;exact⟨_,rfl,h.kp,fun d c s r=>⟨fun z=>((h.tm d c s r).1 z).ext p (fun _ h=>h),(h.tm d c s r).2⟩,fun i o hi=>ObR.ext p (fun _ h=>h) (by unfold dom;rw[hi];rfl) (X:=fun _=>False) (fun _ _ _=>⟨rfl,rfl⟩) (fun _ _ x=>x.elim) (fun _ _ _ _ x=>x.elim) (h.ob i o hi),h.df,h.sz,h.b0⟩
 obtain⟨v,h⟩:=v;have y:∀i,100000<=i->E.hv i = .slice none 0 0:=fun i hi=>by rw[v];exact if_pos hi
 obtain⟨τ,hτ⟩:∃τ : Nat->Nat,∀q∈S'.ob,τ (sg ρ q.1)=q.1:=by
  refine⟨fun i=>@dite _ (∃q∈S'.ob,sg ρ q.1=i) (Classical.propDecidable _) (fun h=>(Classical.choose h).1) (fun _=>0),fun q J=>?_⟩;have p:∃Q∈S'.ob,sg ρ Q.1=sg ρ q.1:=⟨q,J,rfl⟩;simp only[dif_pos p];have b:=Classical.choose_spec p;rw[TY m _ b.1 q J b.2]
 refine⟨E.rnm ρ τ,h.kp.rnm (τ:=τ),fun d c s r=>?_,fun i o hi=>?_,h.df,h.sz,fun B P=>let ⟨b,j⟩:=h.b0 B P;⟨H b,by show E.bl (sg ρ 0)=B;rw[G];exact j⟩⟩
 ·obtain⟨⟨x,b,j,u⟩,M,O⟩:=Sg D _ (Ld r);obtain⟨c0,t⟩:=x;obtain⟨K,L⟩:=h.tm d c0 t b;simp only at j;subst j;exact⟨fun z=>(K z).e y u M (ZV O),L⟩
 ·obtain⟨⟨x,b,j⟩ | b,u⟩:=TZ m _ (Ld hi)
  ·exact(h.ob _ x b).e y (hτ _ (Ld hi)) j (ZV u)
  ·cases o with
   | row k n f=>
    obtain⟨rfl,b⟩:=b;exact⟨none,0,y _ b,Nat.le_refl _,fun R=>by omega⟩
   | var l=>exact b.elim
   | dead=>exact b.elim
   | tl k n f=>exact b.elim
def ev(N:Nat)(T:Tb)(Γ : List (Nat×AL))(n:Nat):Code->St->(Exit->St->Prop)->Prop
 | .skip,S,K=>K .normal S
 | .region _ ops false,S,K=>runL N T Γ ops ops.toList ⟨fgt n S.tm,S.ob⟩ (K .normal)
 | .region _ ops true,S,K=>runT N T Γ ops ops.toList ⟨fgt n S.tm,S.ob⟩ [] (fun S ts=>chk ops.toList ts=true/\K .normal S)
 | .seq a b,S,K=>ev N T Γ n a S (fun e S=>match e with
  | .normal=>ev N T Γ n b S K
  | e=>K e S)
 | .cond c a b,S,K=>match opd S c with
  | some (cc,.m false [.v (.bool t)])=>cc=true/\(t=true->ev N T Γ n a S K)/\(t=false->ev N T Γ n b S K)
  | _=>False
 | .block id c,S,K=>ev N T Γ n c S (fun e S=>match e with
  | .exit i=>if i=id then K .normal S else K (.exit i) S
  | e=>K e S)
 | .loop c,S,K=>∃(I:Nat->St->Prop) (m:Nat) (S0:St),StW S S0/\I m S0/\∀m S,I m S->ev N T Γ n c S (fun e S'=>match e with
  | .normal=>∃m' S'',StW S' S''/\m'<m/\I m' S''
  | e=>K e S')
 | .exit id,S,K=>K (.exit id) S
 | .ret,S,K=>K .ret S
 | _,_,_=>False
def post(w0:World)(g0:Gh)(N:Nat)(K:Exit->St->Prop):Exit->Act->World->Prop
 | .normal,a,w=>∃S,K .normal S/\Rel w0 g0 N S a w
 | .exit i,a,w=>∃S,K (.exit i) S/\Rel w0 g0 N S a w
 | .ret,a,w=>∃S,K .ret S/\Rel w0 g0 N S a w
 | _,_,_=>False
theorem GL(o:DY P T)(hΓ : Gm P Γ w0 g0)(q:P.follows .mixedOrders=true):∀{c:Code} {S:St} {K:Exit->St->Prop} {a:Act} {w:World},ev N T Γ n c S K->Rel w0 g0 N S a w->c.wp P (post w0 g0 N K) a w
 | .skip,S,K,a,w,h,hr=>wp_skip ⟨S,h,hr⟩
 | .region id ops false,S,K,a,w,h,hr=>wp_mono (zDy (Q:=post w0 g0 N K) o hΓ hr h) (fun e a w d=>by cases e<;>exact d)
 | .region id ops true,S,K,a,w,h,hr=>wp_mono (zEf (Q:=post w0 g0 N K) o hΓ q hr h) (fun e a w d=>by cases e<;>exact d)
 | .seq x y,S,K,a,w,h,hr=>by
  refine wp_seq (wp_mono (GL o hΓ q (c:=x) h hr) (fun e a w d=>?_));cases e with
  | normal=>obtain⟨S',g,j⟩:=d;exact GL o hΓ q g j
  | _=>exact d
 | .cond c x y,S,K,a,w,h,hr=>by
  simp only[ev]at h;split at h
  ·rename_i X t hc
   obtain⟨rfl,g,j⟩:=h;obtain⟨E,v⟩:=hr;have R:=(vl1 (LO v hc rfl)).1;exact wp_cond_split R (fun G=>GL o hΓ q (g G) ⟨E,v⟩) (fun G=>GL o hΓ q (j G) ⟨E,v⟩)
  ·exact h.elim
 | .block id c,S,K,a,w,h,hr=>by
  refine wp_block (wp_mono (GL o hΓ q (c:=c) h hr) (fun e a w d=>?_));cases e with
  | exit i=>
   obtain⟨S',g,j⟩:=d;simp only[Exit.inBlock];simp only at g;by_cases hi:i=id
   ·rw[if_pos hi]at g ⊢;exact⟨S',g,j⟩
   ·rw[if_neg hi]at g ⊢;exact⟨S',g,j⟩
  | _=>exact d
 | .loop c,S,K,a,w,h,hr=>by
  obtain⟨I,m,J,O,g,j⟩:=h;have key:∀(m:Nat) (S:St) (a:Act) (w:World),I m S->Rel w0 g0 N S a w->(Code.loop c).wp P (post w0 g0 N K) a w:=by
   intro m S a w z B b k cs;have key:∀(m:Nat) (S:St) (a:Act) (w:World),I m S->Rel w0 g0 N S a w->∃e r w',post w0 g0 N K e r w'/\Arrives P (lone (b.at a (.code c :: .inLoop c :: k)) cs w) b k cs e r w':=by
    intro m
    induction m using Nat.strongRecOn with
    | _ m ih=>
     intro S a w z B;obtain⟨e,u,H,d,f⟩:=GL o hΓ q (c:=c) (j m S z) B b (.inLoop c :: k) cs;cases e with
     | normal=>
      obtain⟨S',⟨V,s,U,D,A⟩,C⟩:=d;obtain⟨M,L,W,F,p⟩:=ih V D s u H A (C.weak U);exact⟨M,L,W,F,.of_steps (Steps.trans f (.one step_inLoop)) p⟩
     | exit id=>exact⟨.exit id,u,H,d,.pass (x:=.inLoop c) rfl (fun _ _=>.inl (by simp)) f⟩
     | goto l=>exact d.elim
     | ret=>exact⟨.ret,u,H,d,.pass (x:=.inLoop c) rfl (fun _ _=>.inl (by simp)) f⟩
     | panic ch=>exact d.elim
     | outgrown=>exact d.elim
   obtain⟨e,r,w',d,f⟩:=key m S a w z B;exact⟨e,r,w',d,.of_steps (.one step_loop) f⟩
  exact key m J a w g (hr.weak O)
 | .exit id,S,K,a,w,h,hr=>wp_exit ⟨S,h,hr⟩
 | .ret,S,K,a,w,h,hr=>wp_ret ⟨S,h,hr⟩
 | .rangeFunc ..,S,K,a,w,h,hr=>h.elim
 | .scope ..,S,K,a,w,h,hr=>h.elim
 | .label ..,S,K,a,w,h,hr=>h.elim
 | .goto ..,S,K,a,w,h,hr=>h.elim
 | .refuse ..,S,K,a,w,h,hr=>h.elim
end
def E7:Nat->List (Bool×List Tr)->List (Nat×Bool×Av)
 | _,[]=>[]
 | i,q :: r=>(i,true,.m q.1 (q.2.map Tr.cv)) :: E7 (i+1) r
theorem YC:∀{a:List (Bool×List Tr)} {i d:Nat} {x:Bool×Av},get (E7 i a) d=some x->∃j q,d=i+j/\a[j]?=some q/\x=(true,.m q.1 (q.2.map Tr.cv))
 | [],i,d,x,h=>by cases h
 | p :: r,i,d,x,h=>by
  simp only[E7,get]at h;split at h
  ·rename_i e;cases h;exact⟨0,p,by omega,rfl,rfl⟩
  ·obtain⟨j,q,f,b,c⟩:=YC h;exact⟨j+1,q,by omega,by simpa using b,c⟩
variable{E:En}{D:Nat->Prop}
theorem zGZ{l:List Tr}{cs:List Value}(h:AR (Sh w E.g) l cs):CsR w E D (l.map Tr.cv) cs:=by
 induction h with
 | nil=>exact AR.nil
 | cons h1 _ ih=>exact AR.cons h1.cv ih
variable{ys xs:List Value}
theorem Pm{b:List (Bool×List Tr)}(h:AR (FL w E.g) b ys){i:Nat}{l:List Value}(v:l.drop i=ys ++ xs){a:Act}(t:a.tmps=l.toArray):TmR w E D (E7 i b) a:=by
 intro d c x u;obtain⟨j,q,p,r,s⟩:=YC u;subst p;cases s;obtain⟨y,o,k⟩:=h.at r;have e:a.tmps.getD (i+j) undef=y:=by
  have m:=(List.getElem?_eq_some_iff.1 o).1;have n:(l.drop i)[j]?=some y:=(by rw[v,List.getElem?_append_left m];exact o);rw[List.getElem?_drop]at n;rw[t,Array.getD_eq_getD_getElem?,List.getElem?_toArray,n];rfl
 refine⟨fun _=>?_,fun f=>by cases f⟩;rw[e];obtain⟨g,l⟩:=q;cases g with
 | true=>obtain⟨cs,e,f⟩:=k;exact⟨cs,e,zGZ f⟩
 | false=>obtain⟨T,e,f⟩:=k;simp only at e;subst e;exact⟨_,rfl,Sh.cv f⟩
variable{a:List (Bool×List Tr)}{N:Nat}
theorem Sr{g0:Nat->Bs}(h:AR (FL w g0) a ys)(c:a.length<=N):Rel w ⟨g0,none⟩ N ⟨E7 0 a,[]⟩ ⟨ys.toArray ++ Array.replicate (N - ys.toArray.size) undef,[]⟩ w:=by
 have d:=h.length;refine⟨⟨g0,fun _=>0,fun _=>.bool false⟩,Kp.refl _ _,Pm (E:=⟨g0,fun _=>0,fun _=>.bool false⟩) h (l:=ys ++ List.replicate (N - ys.length) undef) (xs:=List.replicate (N - ys.length) undef) (by simp) (by apply Array.ext';simp),fun i o hi=>(by cases hi),rfl,(by simp;omega),fun B b=>by cases b⟩
variable{vs:List Tr}
theorem zEv(o:AU w E (Fr vs))(h:AR (FL w E.g) a ys)(q:1+a.length<=N):Rel w ⟨E.g,some (E.bl 0)⟩ N ⟨(0,true,.m false [.p 0 0]) :: E7 1 a,Fr vs⟩ ⟨(.pointer (some ⟨E.bl 0,0,none⟩) :: ys).toArray ++ Array.replicate (N - (.pointer (some ⟨E.bl 0,0,none⟩) :: ys).toArray.size) undef,[]⟩ w:=by
 have r:=h.length;have f:dom (Fr vs) 0:=by unfold dom Fr;simp only[get,if_pos];rfl
 have e:(.pointer (some ⟨E.bl 0,0,none⟩) :: ys).toArray ++ Array.replicate (N - (.pointer (some ⟨E.bl 0,0,none⟩) :: ys).toArray.size) undef=((.pointer (some ⟨E.bl 0,0,none⟩) :: (ys ++ List.replicate (N - (ys.length+1)) undef)):List Value).toArray:=by apply Array.ext';simp
 refine⟨E,Kp.refl _ _,fun d c j b=>?_,o,rfl,(by simp;omega),fun B k=>by cases k;exact⟨f,rfl⟩⟩;simp only[get]at b;split at b
 ·rename_i e0
  subst e0;cases b;refine⟨fun _=>?_,fun n=>by cases n⟩;rw[e];exact av1 ⟨f,rfl⟩
 ·exact Pm h (i:=1) (l:=.pointer (some ⟨E.bl 0,0,none⟩) :: (ys ++ List.replicate (N - (ys.length+1)) undef)) (xs:=List.replicate (N - (ys.length+1)) undef) (by simp) e d c j b
theorem zEI{y:Value}(q:AU w E (Dd 0 vs))(h:AR (FL w E.g) a ys)(f:VlR w E (dom (Dd 0 vs)) true (DB 0 0 vs) y)(r:a.length+1<=N) :
 Rel w ⟨E.g,none⟩ N ⟨(a.length,true,.m true (DB 0 0 vs)) :: E7 0 a,Dd 0 vs⟩ ⟨(ys ++ [y]).toArray ++ Array.replicate (N - (ys ++ [y]).toArray.size) undef,[]⟩ w:=by
 have p:=h.length;have e:(ys ++ [y]).toArray ++ Array.replicate (N - (ys ++ [y]).toArray.size) undef=(ys ++ (y :: List.replicate (N - (ys.length+1)) undef):List Value).toArray:=by apply Array.ext';simp
 refine⟨E,Kp.refl _ _,fun d c j b=>?_,q,rfl,(by simp;omega),fun B n=>by cases n⟩;simp only[get]at b;split at b
 ·rename_i e0
  subst e0;cases b;refine⟨fun _=>?_,fun o=>by cases o⟩;have k:(⟨(ys ++ [y]).toArray ++ Array.replicate (N - (ys ++ [y]).toArray.size) undef,[]⟩:Act).tmps.getD a.length undef=y:=by
   rw[e,p];simp[Array.getD_eq_getD_getElem?]
  rw[k];exact f
 ·exact Pm h (i:=0) (l:=ys ++ (y :: List.replicate (N - (ys.length+1)) undef)) (xs:=y :: List.replicate (N - (ys.length+1)) undef) (by simp) e d c j b
def resCv(T:Tb)(S:St):List ResultVar->Option (List (Bool×List Cv))
 | []=>some []
 | .tmp t :: r=>match get S.tm t,resCv T S r with
  | some (true,.m g l),some q=>some ((g,l) :: q)
  | _,_=>none
 | .cell t ty :: r=>match get S.tm t,T.ty ty,resCv T S r with
  | some (true,.m false [.p i o]),some d,some q=>match evLoad d S.ob (.p i o)with
   | some (_,.m g l)=>some ((g,l) :: q)
   | _=>none
  | _,_,_=>none
def L7(tmps:Array Value):ResultVar->Sem Value
 | .tmp t=>pure (tmps.getD t undef)
 | .cell a t=>do loadVar t (<-asAddr (tmps.getD a undef))
theorem Kb{P:Program}{T:Tb}(k:DY P T){w0:World}{g0:Gh}{N:Nat}{S:St}{a:Act}{w:World}{E:En}(h:FO w0 g0 N S a w E):∀{rv:List ResultVar} {q:List (Bool×List Cv)},resCv T S rv=some q->
 ∃vs:List Value,(rv.mapM (L7 a.tmps)).run P w = .ok vs w/\AR (fun (q:Bool×List Cv) u=>VlR w E (dom S.ob) q.1 q.2 u) q vs
 | [],q,hq=>by cases hq;exact⟨[],by simp,.nil⟩
 | .tmp t :: r,q,hq=>by
  simp only[resCv]at hq;split at hq
  ·rename_i g l q' hg hr
   cases hq;obtain⟨vs,e,f⟩:=Kb k h hr;have b:=(h.tm t _ _ hg).1 rfl;exact⟨a.tmps.getD t undef :: vs,by simp[List.mapM_cons,e,L7],.cons b f⟩
  ·cases hq
 | .cell t ty :: r,q,hq=>by
  simp only[resCv]at hq;split at hq
  ·rename_i i o d q' hg hd hr
   split at hq
   ·rename_i c g l hl
    cases hq;obtain⟨vs,e,f⟩:=Kb k h hr;have b:=vl1 ((h.tm t _ _ hg).1 rfl);have s:c:=by
     simp only[evLoad]at hl;split at hl
     ·split at hl
      ·cases hl;trivial
      ·cases hl
     ·cases hl
    obtain⟨z,m,n⟩:=XQ (k.ok _ _ hd) h.ob hl s b;refine⟨z :: vs,?_,.cons n f⟩;have p:(L7 a.tmps (.cell t ty)).run P w = .ok z w:=by
     simp only[L7];rw[b.2];have j:=m;rw[b.2]at j;unfold Instr.loadAt at j;simpa[Instr.sureAddr,asAddr]using j
    rw[List.mapM_cons];simp[p,e]
   ·cases hq
  ·cases hq
def cellM(ob:List (Nat×Ob)):Cv->Tr->Prop
 | .v x,.v y=>x=y
 | .v x,.s .o k n f=>x = .slice none 0 0/\n=0
 | .h i,.s .o k n f=>match get ob i with
  | some (.row k' n' f')=>TrE (.s .o k' n' f') (.s .o k n f)/\(Tr.s .o k n f).kept
  | _=>False
 | .s fl k n f,.s .z k' n' f'=>fl≠.b/\TrE (.s .z k n f) (.s .z k' n' f')/\(Tr.s .z k' n' f').kept
 | _,_=>False
def LV(ob:List (Nat×Ob)):List Cv->List Tr->Prop
 | [],[]=>True
 | x :: r,y :: s=>cellM ob x y/\LV ob r s
 | _,_=>False
def JB(ob:List (Nat×Ob)):List (Bool×List Cv)->List (Bool×List Tr)->Prop
 | [],[]=>True
 | x :: r,y :: s=>x.1=y.1/\LV ob x.2 y.2/\JB ob r s
 | _,_=>False
def MX:Nat->List Cv->List (Nat×Nat)
 | _,[]=>[]
 | n,.h i :: r=>(i,n) :: MX (n+1) r
 | n,_ :: r=>MX (n+1) r
def Ei:Nat->List (Bool×List Cv)->List (Nat×Nat)
 | _,[]=>[]
 | n,q :: r=>MX n q.2 ++ Ei (n+q.2.length) r
def Ret(T:Tb)(rv:List ResultVar)(S:St)(rs:List (Bool×List Tr)):Prop:=
 match resCv T S rv with
 | some q=>JB S.ob q rs/\E8 ((Ei 0 q).map (·.1))=true
 | none=>False
def RetP(T:Tb)(rv:List ResultVar)(S:St)(rs:List (Bool×List Tr)):Prop:=
 match get S.ob 0,resCv T S rv with
 | some (.var l),some q=>JB S.ob ((true,l) :: q) rs/\E8 (0 :: (Ei 1 ((true,l) :: q)).map (·.1))=true
 | _,_=>False
def RetN(T:Tb)(rv:List ResultVar)(S:St)(rs:List (Bool×List Tr)):Prop:=
 match resCv T S rv with
 | some [(false,[.p i 0])]=>match get S.ob i with
  | some (.var l)=>JB S.ob [(true,l)] rs/\E8 (i :: (Ei 1 [(true,l)]).map (·.1))=true
  | _=>False
 | _=>False
def Bs.ren(r:Nat->Nat):Bs->Bs
 | .ow (.nm j) lim=>.ow (.nm (r j)) lim
 | s=>s
variable{r:Nat->Nat}
theorem Bs.ren_ok{e:Nat}(h:s.ok fl e):(s.ren r).ok fl e:=by
 cases s with
 | fz x=>exact h
 | ow o lim=>cases o<;>exact h
theorem Kp.ren{w':World}(h:Kp w g w' g'):Kp w g w' (fun b=>(g' b).ren r):=by
 refine⟨h.os,h.tape,h.output,h.size,fun b x d e=>?_,fun b o f d e=>?_⟩
 ·obtain⟨c,a⟩:=h.fz b x d e;exact⟨c,by simp only[a,Bs.ren]⟩
 ·obtain⟨c,⟨o',l',a,k⟩ | a⟩:=h.ow b o f d e
  ·refine⟨c,.inl ?_⟩;cases o' with
   | nm i=>exact⟨.nm (r i),l',by simp only[a,Bs.ren],k⟩
   | tl b j=>exact⟨.tl b j,l',by simp only[a,Bs.ren],k⟩
  ·exact⟨c,.inr (by simp only[a,Bs.ren])⟩
section
variable {w : World} {E : En} {ob : List (Nat × Ob)}
theorem zEa(R:AU w E ob){x:Cv}{y:Tr}(h:cellM ob x y)(q:CvR w E (dom ob) x u){n:Nat}(S:∀i,x = .h i->r i=n):NN w (fun b=>(E.g b).ren r) n y u:=by
 have A:∀b fl e,(E.g b).ok fl e->((E.g b).ren r).ok fl e:=fun b fl e h=>Bs.ren_ok h
 cases x with
 | v x=>
  cases y with
  | v y=>cases h;exact q
  | s fl k n f=>
   cases fl<;>simp only[cellM]at h
   obtain⟨rfl,rfl⟩:=h;exact⟨none,0,q.1,Nat.le_refl _,fun F=>by omega⟩
 | h i=>
  cases y with
  | v y=>exact h.elim
  | s fl k m f=>
   cases fl<;>simp only[cellM]at h
   split at h
   ·rename_i U n' f' hi
    obtain⟨⟨-,rfl,rfl,H⟩,l⟩:=h;obtain⟨a,cap,hv,hn,N⟩:=R _ _ hi;refine⟨a,cap,q.2.1.trans hv,hn,fun F=>?_⟩;obtain⟨L,O,c,t,P,Q,d⟩:=N F;refine⟨_,L,?_,c,t,P,Q,fun p j C B=>?_⟩
    ·show(E.g (E.bl i)).ren r=_;rw[O];simp only[Bs.ren,S i rfl]
    ·obtain⟨u,q,hs,T⟩:=d p j C B;exact⟨u,q,(hs.e (H p j C B)).okm A,l.2 p j C B,(T.e (H p j C B) hs).ext (fun b V M _=>⟨rfl,by show(E.g b).ren r=_;rw[M];rfl⟩)⟩
   ·exact h.elim
 | s fl k m f=>
  cases y with
  | v y=>exact h.elim
  | s fl' U n' f'=>
   cases fl'<;>simp only[cellM]at h
   obtain⟨I,J,K⟩:=h;refine⟨(Sh.e J ?_).okm A,K⟩;have G:=Sh.cv (E:=E) (D:=dom ob) q;cases fl with
   | b=>exact absurd rfl I
   | z=>exact G
   | o=>exact G
 | _=>cases y<;>exact h.elim
theorem XK(a:AU w E ob){r:Nat->Nat}:∀{l:List Cv} {m:List Tr} {us:List Value} {n:Nat},LV ob l m->CsR w E (dom ob) l us->(∀q∈MX n l,r q.1=q.2)->O1 w (fun b=>(E.g b).ren r) n m us
 | [],[],us,n,h,hu,hr=>by cases hu;rfl
 | x :: l,y :: m,us,n,h,hu,hr=>by
  cases hu with
  | cons h1 t=>
   refine⟨_,_,rfl,zEa a h.1 h1 (fun i e=>by subst e;exact hr (i,n) (List.mem_cons_self ..)),XK a h.2 t (fun q c=>hr q ?_)⟩;cases x<;>first | exact c | exact List.mem_cons_of_mem _ c
 | [],_ :: _,us,n,h,hu,hr=>h.elim
 | _ :: _,[],us,n,h,hu,hr=>h.elim
theorem YR:∀{l:List Cv} {m:List Tr},LV ob l m->l.length=m.length
 | [],[],_=>rfl
 | x :: l,y :: m,h=>by simp[YR h.2]
 | [],_ :: _,h=>h.elim
 | _ :: _,[],h=>h.elim
theorem Lq(f:AU w E ob){r:Nat->Nat}:∀{q:List (Bool×List Cv)} {rs:List (Bool×List Tr)} {vs:List Value} {n:Nat},JB ob q rs->AR (fun (q:Bool×List Cv) u=>VlR w E (dom ob) q.1 q.2 u) q vs->(∀p∈Ei n q,r p.1=p.2)->JQ w (fun b=>(E.g b).ren r) n rs vs
 | [],[],vs,n,h,hv,hr=>by cases hv;rfl
 | x :: q,y :: rs,vs,n,h,hv,hr=>by
  cases hv with
  | @cons _ v _ vs' a t=>
   obtain⟨e,d,i⟩:=h;have j:=YR d;refine⟨v,vs',v.cells.toList,rfl,?_,XK f d (VlR.cells a) (fun p c=>hr p (List.mem_append_left _ c)),?_⟩
   ·rw[<-e];obtain⟨g,l⟩:=x;cases g with
    | true=>obtain⟨cs,rfl,_⟩:=a;simp[LM,Value.cells]
    | false=>
     obtain⟨x,_,k⟩:=a;have a:=k.one;have:v.cells=#[v]:=by cases v<;>first | rfl | (simp[Value.oneCell']at a)
     simp[LM,this]
   ·rw[<-j];exact Lq f i t (fun p c=>hr p (List.mem_append_right _ c))
 | [],_ :: _,vs,n,h,hv,hr=>h.elim
 | _ :: _,[],vs,n,h,hv,hr=>h.elim
end
theorem Nn{ob:List (Nat×Ob)}:∀{q:List (Bool×List Cv)} {rs:List (Bool×List Tr)},JB ob q rs->q.length=rs.length
 | [],[],_=>rfl
 | x :: q,y :: rs,h=>by simp[Nn h.2.2]
 | [],_ :: _,h=>h.elim
 | _ :: _,[],h=>h.elim
theorem Oi{P:Program}{fn:Func}{rv:Array ResultVar}(a:fn.results=rv){tmps:Array Value}{vs:List Value}(h:(rv.toList.mapM (L7 tmps)).run P w = .ok vs w):(results fn tmps).run P w = .ok (if h:vs.toArray.size=1 then vs.toArray[0] else .tuple vs.toArray) w:=by
 have e:results fn tmps=(do let vs <-fn.results.mapM (L7 tmps);pure (if h:vs.size=1 then vs[0] else .tuple vs)):=rfl;rw[e,a,Array.mapM_eq_mapM_toList];simp only[Sem.run_bind,Sem.run_map,h];rfl
section
variable {P : Program} {T : Tb} {Γ : List (Nat × AL)} {f : Nat} {fn : Func} {body : Code} {N : Nat} {rv : Array ResultVar}
variable{sp:AL}
theorem Z6(B:DY P T)(hΓ : ∀g0,(∀b,∃r,g0 b = .fz r)->Gm P Γ w ⟨g0,none⟩)(u:P.follows .mixedOrders=true)(I:P.funcs[f]?=some fn)(G:fn.body=some body)(F:fn.ntmps=N)(z:fn.results=rv)(n:Nat)
 (h:∀k c rs,sp k=some (c,rs)->c->k.length<=N/\ev N T Γ n body ⟨E7 0 k,[]⟩ (fun e S=>match e with
  | .ret=>Ret T rv.toList S rs
  | .normal=>Ret T rv.toList S rs
  | _=>False)):Fg P f sp w:=by
 intro k c rs A H g0 ys L K;obtain⟨t,x⟩:=h k c rs A H;refine calls_of_wp I G ?_;rw[F];refine wp_mono (GL B (hΓ g0 L) u x (Sr K t)) ?_;have s:∀S a w',Ret T rv.toList S rs->Rel w ⟨g0,none⟩ N S a w'->a.defers = []/\∃v,(results fn a.tmps).run P w' = .ok v w'/\∃C g,Ending.returned v = .returned C/\Kp w g0 w' g/\JE w' g rs C:=by
  intro S a w' j ⟨E,hE⟩;unfold Ret at j;split at j
  ·rename_i q o
   obtain⟨u,y⟩:=j;obtain⟨vs,l,m⟩:=Kb B hE o;have D:=Lq hE.ob (r:=fun i=>(get (Ei 0 q) i).getD 0) (n:=0) u m (fun p J=>by rw[J4 y J];rfl);have d:vs.length=rs.length:=m.length.symm.trans (Nn u);refine⟨hE.df,_,Oi z l,_,_,rfl,hE.kp.ren,vs,D,?_⟩
   match rs,d with
   | [r],d=>
    match vs,d with
    | [v],_=>rfl
   | [],d=>
    match vs,d with
    | [],_=>rfl
   | r1 :: r2 :: rr,d=>
    match vs,d with
    | v1 :: v2 :: vv,_=>simp
  ·exact j.elim
 intro e a w' o;cases e with
 | normal=>obtain⟨S,l,m⟩:=o;exact s S a w' l m
 | ret=>obtain⟨S,l,m⟩:=o;exact s S a w' l m
 | exit i=>obtain⟨S,l,m⟩:=o;exact l.elim
 | _=>exact o.elim
theorem zBg(F:DY P T)(hΓ : GOk P Γ)(u:P.follows .mixedOrders=true)(L:P.funcs[f]?=some fn)(J:fn.body=some body)(I:fn.ntmps=N)(A:fn.results=rv)(n:Nat)
 (h:∀vs j c rs,sp (j ++ [(true,vs)])=some (c,rs)->c->j.length+1<=N/\ev N T Γ n body ⟨(j.length,true,.m true (DB 0 0 vs)) :: E7 0 j,Dd 0 vs⟩ (fun e S=>match e with
  | .ret=>Ret T rv.toList S rs
  | .normal=>Ret T rv.toList S rs
  | _=>False)):NJ P f sp:=by
 intro w vs j c rs B K D ys y M Q C;obtain⟨t,x⟩:=h vs j c rs B K;refine calls_of_wp L J ?_;rw[I];refine wp_mono (GL F (fun w _ _=>hΓ w) u x (zEI M Q C t)) ?_;have s:∀S a w',Ret T rv.toList S rs->Rel w ⟨D.g,none⟩ N S a w'->a.defers = []/\∃v,(results fn a.tmps).run P w' = .ok v w'/\∃G g,Ending.returned v = .returned G/\Kp w D.g w' g/\JE w' g rs G:=by
  intro S a w' d ⟨E,hE⟩;unfold Ret at d;split at d
  ·rename_i q o
   obtain⟨u,z⟩:=d;obtain⟨vs,k,l⟩:=Kb F hE o;have H:=Lq hE.ob (r:=fun i=>(get (Ei 0 q) i).getD 0) (n:=0) u l (fun p O=>by rw[J4 z O];rfl);have b:vs.length=rs.length:=l.length.symm.trans (Nn u);refine⟨hE.df,_,Oi A k,_,_,rfl,hE.kp.ren,vs,H,?_⟩
   match rs,b with
   | [r],b=>
    match vs,b with
    | [v],_=>rfl
   | [],b=>
    match vs,b with
    | [],_=>rfl
   | r1 :: r2 :: rr,b=>
    match vs,b with
    | v1 :: v2 :: vv,_=>simp
  ·exact d.elim
 intro e a w' o;cases e with
 | normal=>obtain⟨S,k,l⟩:=o;exact s S a w' k l
 | ret=>obtain⟨S,k,l⟩:=o;exact s S a w' k l
 | exit i=>obtain⟨S,k,l⟩:=o;exact k.elim
 | _=>exact o.elim
theorem zBh(L:DY P T)(hΓ : GOk P Γ)(C:P.follows .mixedOrders=true)(X:P.funcs[f]?=some fn)(V:fn.body=some body)(U:fn.ntmps=N)(J:fn.results=rv)(n:Nat)
 (h:∀vs k c rs,sp ((true,vs) :: k)=some (c,rs)->c->1+k.length<=N/\ev N T Γ n body ⟨(0,true,.m false [.p 0 0]) :: E7 1 k,Fr vs⟩ (fun e S=>match e with
  | .ret=>RetP T rv.toList S rs
  | .normal=>RetP T rv.toList S rs
  | _=>False)):DK P f sp:=by
 intro w vs k c rs K W E ys Y Z;obtain⟨A,H⟩:=h vs k c rs K W;refine calls_of_wp X V ?_;rw[U];refine wp_mono (GL L (fun w _ _=>hΓ w) C H (zEv Y Z A)) ?_;have x:∀S a w',RetP T rv.toList S rs->Rel w ⟨E.g,some (E.bl 0)⟩ N S a w'->a.defers = []/\∃v,(results fn a.tmps).run P w' = .ok v w'/\∃M g,Ending.returned v = .returned M/\Kp w E.g w' g/\yZ w' g (E.bl 0) rs M:=by
  intro S a w' d ⟨O,hE⟩;unfold RetP at d;split at d
  ·rename_i l q h0 u
   obtain⟨C,o⟩:=d;simp only[E8,Bool.and_eq_true,Bool.not_eq_true']at o;obtain⟨B,o⟩:=o;obtain⟨j,s,t⟩:=Kb L hE u;obtain⟨z,cs,Q,y,G⟩:=hE.ob 0 _ h0;have F:=(hE.b0 _ rfl).2;rw[F]at z y;have I:∀p∈Ei 1 ((true,l) :: q),p.1≠0:=fun p D e=>by
    have:((Ei 1 ((true,l) :: q)).map (·.1)).contains 0=true:=by
     rw[List.contains_iff_mem];exact List.mem_map.2 ⟨p,D,e⟩
    rw[this]at B;cases B
   have R:=Lq hE.ob (r:=fun i=>if i=0 then 0 else(get (Ei 1 ((true,l) :: q)) i).getD 0) (n:=1) (q:=(true,l) :: q) (vs:=.agg cs.toArray :: j) C (.cons ⟨cs,rfl,G⟩ t) (fun p D=>by rw[if_neg (I p D),J4 o D];rfl);have b:j.length+1=rs.length:=by
    have:=Nn C;have:=t.length;simp at *;omega
   refine⟨hE.df,_,Oi J s,_,_,rfl,hE.kp.ren,cs,Q,j,y,?_,R,?_⟩
   ·show(O.g (E.bl 0)).ren _=_;rw[z];simp[Bs.ren]
   ·match rs,b with
    | [_,_],b=>
     match j,b with
     | [v],_=>rfl
    | [_],b=>
     match j,b with
     | [],_=>rfl
    | r0 :: r1 :: r2 :: rr,b=>
     match j,b with
     | v1 :: v2 :: vv,_=>simp
  ·exact d.elim
 intro e a w' u;cases e with
 | normal=>obtain⟨S,s,t⟩:=u;exact x S a w' s t
 | ret=>obtain⟨S,s,t⟩:=u;exact x S a w' s t
 | exit i=>obtain⟨S,s,t⟩:=u;exact s.elim
 | _=>exact u.elim
theorem zBf(K:DY P T)(hΓ : GOk P Γ)(G:P.follows .mixedOrders=true)(V:P.funcs[f]?=some fn)(R:fn.body=some body)(Q:fn.ntmps=N)(I:fn.results=rv)(n:Nat)
 (h:∀d c rs,sp d=some (c,rs)->c->d.length<=N/\ev N T Γ n body ⟨E7 0 d,[]⟩ (fun e S=>match e with
  | .ret=>RetN T rv.toList S rs
  | .normal=>RetN T rv.toList S rs
  | _=>False)):NI P f sp:=by
 intro w d c cells J U g0 ys Z X;obtain⟨u,D⟩:=h d c _ J U;refine calls_of_wp V R ?_;rw[Q];refine wp_mono (GL K (fun w _ _=>hΓ w) G D (Sr X u)) ?_;have t:∀S a w',RetN T rv.toList S [(true,cells)]->Rel w ⟨g0,none⟩ N S a w'->a.defers = []/\∃v,(results fn a.tmps).run P w' = .ok v w'/\∃B g,Ending.returned v = .returned (.pointer (some ⟨B,0,none⟩))/\Kp w g0 w' g/\∃(cs:List Value) (T:TypeId),w'.heap[B]?=some (.cells cs.toArray T (0,0))/\g B = .ow (.nm 0) 0/\JQ w' g 1 [(true,cells)] [.agg cs.toArray]:=by
  intro S a w' b ⟨E,hE⟩;unfold RetN at b;split at b
  ·rename_i i s
   split at b
   ·rename_i l h0
    obtain⟨G,k⟩:=b;simp only[E8,Bool.and_eq_true,Bool.not_eq_true']at k;obtain⟨y,k⟩:=k;obtain⟨Y,m,o⟩:=Kb K hE s;obtain⟨F,cs,L,A,C⟩:=hE.ob i _ h0;have H:∀p∈Ei 1 [(true,l)],p.1≠i:=fun p z e=>by
     have:((Ei 1 [(true,l)]).map (·.1)).contains i=true:=by
      rw[List.contains_iff_mem];exact List.mem_map.2 ⟨p,z,e⟩
     rw[this]at y;cases y
    have O:=Lq hE.ob (r:=fun j=>if j=i then 0 else(get (Ei 1 [(true,l)]) j).getD 0) (n:=1) (q:=[(true,l)]) (vs:=[.agg cs.toArray]) G (.cons ⟨cs,rfl,C⟩ .nil) (fun p z=>by rw[if_neg (H p z),J4 k z];rfl);cases o with
    | cons k1 k2=>
     cases k2;obtain⟨x,M,W⟩:=k1;cases M;obtain⟨-,rfl⟩:=W;refine⟨hE.df,_,Oi I m,E.bl i,_,rfl,hE.kp.ren,cs,L,A,?_,O⟩;show(E.g (E.bl i)).ren _=_;rw[F];simp[Bs.ren]
   ·exact b.elim
  ·exact b.elim
 intro e a w' s;cases e with
 | normal=>obtain⟨S,m,o⟩:=s;exact t S a w' m o
 | ret=>obtain⟨S,m,o⟩:=s;exact t S a w' m o
 | exit i=>obtain⟨S,m,o⟩:=s;exact m.elim
 | _=>exact s.elim
theorem zBF(g:DY P T)(hΓ : GOk P Γ)(k:P.follows .mixedOrders=true)(j:P.funcs[f]?=some fn)(i:fn.body=some body)(d:fn.ntmps=N)(b:fn.results=rv)(n:Nat)
 (h:∀a c rs,sp a=some (c,rs)->c->a.length<=N/\ev N T Γ n body ⟨E7 0 a,[]⟩ (fun e S=>match e with
  | .ret=>Ret T rv.toList S rs
  | .normal=>Ret T rv.toList S rs
  | _=>False)):An P f sp:=fun w=>Z6 g (fun _ _ w _ _=>hΓ w) k j i d b n h
end
abbrev i0:Value:=.int .i64 0
abbrev n0:Value:=.slice none 0 0
abbrev e0:Value:=.string ⟨#[]⟩
def tyT:Nat->Option TyD
 | 2=>some ⟨1,false,[i0],8,[],0⟩
 | 3=>some ⟨1,false,[i0],8,[],0⟩
 | 4=>some ⟨1,false,[.bool false],1,[],0⟩
 | 5=>some ⟨1,false,[.int .u8 0],1,[],0⟩
 | 9=>some ⟨1,false,[e0],16,[],0⟩
 | 23=>some ⟨1,false,[n0],24,[],94⟩
 | 24=>some ⟨1,false,[n0],24,[],2⟩
 | 39=>some ⟨1,false,[n0],24,[],38⟩
 | 27=>some ⟨1,false,[n0],24,[],46⟩
 | 28=>some ⟨1,false,[n0],24,[],41⟩
 | 90=>some ⟨1,false,[n0],24,[],4⟩
 | 38=>some ⟨2,true,[i0,i0],16,[(0,1),(1,1)],0⟩
 | 94=>some ⟨3,true,[i0,n0,e0],48,[(0,1),(1,1),(2,1)],0⟩
 | 26=>some ⟨2,true,[n0,n0],48,[(0,1),(1,1)],0⟩
 | 30=>some ⟨6,true,[n0,n0,i0,i0,n0,n0],112,[(0,2),(2,1),(3,1),(4,1),(5,1)],0⟩
 | 46=>some ⟨6,true,[e0,i0,i0,i0,i0,n0],72,[(0,1),(1,1),(2,1),(3,2),(5,1)],0⟩
 | 41=>some ⟨8,true,[i0,e0,e0,i0,i0,i0,i0,n0],96,[(0,1),(1,1),(2,1),(3,1),(4,1),(5,2),(7,1)],0⟩
 | 96=>some ⟨1,false,[.int .u64 0],8,[],0⟩
 | 22=>some ⟨1,false,[n0],24,[],5⟩
 | 57=>some ⟨1,false,[n0],24,[],9⟩
 | 81=>some ⟨6,true,[n0,n0,i0,i0,n0,i0],96,[(0,2),(2,2),(4,1),(5,1)],0⟩
 | 98=>some ⟨4,true,[n0,i0,.int .u64 0,i0],48,[(0,1),(1,1),(2,1),(3,1)],0⟩
 | 34=>some ⟨9,true,[n0,n0,i0,i0,n0,n0,i0,i0,i0],136,[(0,6),(6,1),(7,1),(8,1)],0⟩
 | _=>none
def ikT:Nat->Option IntKind
 | 2=>some .i64
 | 3=>some .i64
 | 5=>some .u8
 | 96=>some .u64
 | _=>none
def tb:Tb:=⟨tyT,4,38,9,39,27,22,5,ikT⟩
theorem zIX:∀t d,tyT t=some d->BA Tryz.prog t d:=by
 intro t d h;unfold tyT at h;split at h<;>first
  | (cases h;exact⟨by kernel_rfl,by kernel_rfl,rfl,rfl,rfl,fun _=>rfl,by decide,by decide,by kernel_rfl⟩)
  | (cases h;exact⟨by kernel_rfl,by kernel_rfl,rfl,rfl,rfl,fun h=>(by cases h),by decide,by decide,by kernel_rfl⟩)
  | (cases h;done)
theorem Al:DY Tryz.prog tb:=by
 refine⟨zIX,by kernel_rfl,by kernel_rfl,?_,by kernel_rfl,by kernel_rfl,by kernel_rfl,?_⟩;rotate_left
 ·intro t k h;simp only[tb,ikT]at h;split at h<;>first
   | (cases h;kernel_rfl)
   | (cases h;done)
 intro a b c d w;show(Op.equalIn (9998+1+1) 38 (.agg #[.int .i64 a,.int .i64 b]) (.agg #[.int .i64 c,.int .i64 d])).run Tryz.prog w=_;rw[Op.equalIn];simp[go_sem];by_cases h:a=c<;>by_cases e:b=d<;>simp[h,e]
theorem Ak:Tryz.prog.follows .mixedOrders=true:=by kernel_rfl
abbrev A0(x:Int):Value:=Value.int IntKind.i64 x
abbrev A5:Value:=Value.slice Option.none 0 0
def AJ(P:Prop)(e:Ending):Prop:=∃b:Bool,e = .returned (.bool b)/\(b=true↔P)
theorem AJ.yes{P:Prop}(h:P):AJ P (.returned (.bool true)):=⟨true,rfl,by simp[h]⟩
theorem AJ.no{P:Prop}(h:¬P):AJ P (.returned (.bool false)):=⟨false,rfl,by simp[h]⟩
variable{n:Nat}
theorem Br{k:Nat}{P:Nat->Prop}(b:k<n)(h:∀i,i<k->P i)(a:P k):∀i,i<k+1->P i:=fun i hi=>by
 by_cases e:i=k
 ·subst e;exact a
 ·exact h i (by omega)
variable{w':World}
theorem Js(h:Below B w w')(n:Nat):Below B w (w'.drewN n):=⟨h.os,h.tape,h.output,h.size,h.block⟩
variable{s t:ByteArray}
theorem LQ(h:s=t):(s.toList == t.toList)=true:=by simp[h]
theorem N3(h:¬s=t):(s.toList == t.toList)=false:=by
 rw[beq_eq_false_iff_ne];intro e;rw[Go.ByteArray.toList_eq,Go.ByteArray.toList_eq]at e;apply h;cases s;cases t;simp only[ByteArray.mk.injEq]at *;exact Array.toList_inj.1 e
variable{w1:World}
theorem Cp(h:Below w.drew.heap.size w.drew w1):Below w.heap.size w w1:=⟨h.os,h.tape,h.output,h.size,h.block⟩
theorem RC{wr:World}(a:Below w.heap.size w wr)(b:Below wr.drew.heap.size wr.drew w1):Below w.heap.size w w1:=
 a.drew.trans (b.mono a.size)
theorem A9{wr:World}(a:Below w.heap.size w wr)(b:Below wr.heap.size wr w1):Below w.heap.size w w1:=
 a.trans (b.mono a.size)
structure AH where
 birth:Int
 kn:Nat
 ks:Nat->Int
 kb:Nat->Int
 data:ByteArray
structure A7 where
 n:Nat
 s:Nat->AH
 hn:Nat
 h:Nat->Int
def JP(a b c d:Int):Prop:=a=c/\b=d
def Ih(lo hi:Nat)(w w':World):Prop:=∀k,lo<=k->k<hi->w'.heap[k]?=w.heap[k]?
variable{lo hi b o:Nat}
theorem Ih.cell(h:Ih lo hi w w')(a:lo<=b)(c:b<hi):w'.cell? ⟨b,o,none⟩=w.cell? ⟨b,o,none⟩:=
 World.cell?_of_block (w:=w) (h b a c)
variable{v:Value}
theorem AV(h:w.cell? ⟨b,o,none⟩=some v):b<w.heap.size:=by
 simp only[World.cell?]at h;by_cases a:b<w.heap.size
 ·exact a
 ·rw[Array.getElem?_eq_none (by omega)]at h;simp at h
def DA(w:World)(lo hi:Nat)(v:Value)(n:Nat)(f:Nat->Int):Prop:=
 n<=maxLen/\∃a cap,v = .slice a n cap/\n<=cap/\(0<n->∃b off,a=some ⟨b,off,none⟩/\lo<=b/\b<hi/\∀i,i<n->w.cell? ⟨b,off+i,none⟩=some (A0 (f i)))
def BG(w:World)(lo hi:Nat)(v:Value)(n:Nat)(fs fb:Nat->Int):Prop:=
 n<=maxLen/\∃a cap,v = .slice a n cap/\n<=cap/\(0<n->∃b off,a=some ⟨b,off,none⟩/\lo<=b/\b<hi/\∀i,i<n->w.cell? ⟨b,off+i*2,none⟩=some (A0 (fs i))/\w.cell? ⟨b,off+i*2+1,none⟩=some (A0 (fb i)))
def CU(w:World)(lo hi:Nat)(v0 v1 v2:Value)(s:AH):Prop:=
 v0=A0 s.birth/\BG w lo hi v1 s.kn s.ks s.kb/\v2 = .string s.data/\s.data.size<=maxLen
def CL(w:World)(lo hi:Nat)(v:Value)(n:Nat)(f:Nat->AH):Prop:=
 n<=maxLen/\∃a cap,v = .slice a n cap/\n<=cap/\(0<n->∃b off,a=some ⟨b,off,none⟩/\lo<=b/\b<hi/\∀i,i<n->∃v0 v1 v2,w.cell? ⟨b,off+i*3,none⟩=some v0/\w.cell? ⟨b,off+i*3+1,none⟩=some v1/\w.cell? ⟨b,off+i*3+2,none⟩=some v2/\CU w lo hi v0 v1 v2 (f i))
def CD(w:World)(lo hi:Nat)(v0 v1:Value)(p:A7):Prop:=CL w lo hi v0 p.n p.s/\DA w lo hi v1 p.hn p.h
variable{f:Nat->Int}
theorem DA.same(h:DA w lo hi v n f)(s:Ih lo hi w w'):DA w' lo hi v n f:=by
 obtain⟨g,a,cap,hv,c,l⟩:=h;refine⟨g,a,cap,hv,c,fun hn=>?_⟩;obtain⟨b,off,k,d,e,j⟩:=l hn;exact⟨b,off,k,d,e,fun i hi=>by rw[s.cell d e];exact j i hi⟩
variable{g:Nat->Int}
theorem BG.same(h:BG w lo hi v n f g)(s:Ih lo hi w w'):BG w' lo hi v n f g:=by
 obtain⟨j,a,cap,hv,e,m⟩:=h;refine⟨j,a,cap,hv,e,fun hn=>?_⟩;obtain⟨b,off,l,c,d,k⟩:=m hn;exact⟨b,off,l,c,d,fun i hi=>by rw[s.cell c d,s.cell c d];exact k i hi⟩
variable{v0 v1 v2:Value}
theorem CU.same{t:AH}(h:CU w lo hi v0 v1 v2 t)(s:Ih lo hi w w'):CU w' lo hi v0 v1 v2 t:=
 ⟨h.1,h.2.1.same s,h.2.2⟩
theorem CL.same{f:Nat->AH}(h:CL w lo hi v n f)(s:Ih lo hi w w'):CL w' lo hi v n f:=by
 obtain⟨j,a,cap,hv,e,m⟩:=h;refine⟨j,a,cap,hv,e,fun hn=>?_⟩;obtain⟨b,off,l,c,d,k⟩:=m hn;refine⟨b,off,l,c,d,fun i hi=>?_⟩;obtain⟨o,v1,p,c0,c1,g,hs⟩:=k i hi;exact⟨o,v1,p,by rw[s.cell c d];exact c0,by rw[s.cell c d];exact c1,by rw[s.cell c d];exact g,hs.same s⟩
theorem CD.same{p:A7}(h:CD w lo hi v0 v1 p)(s:Ih lo hi w w'):CD w' lo hi v0 v1 p:=⟨h.1.same s,h.2.same s⟩
theorem DA.A1(h:DA w lo hi v n f)(s:Below w.heap.size w w'):DA w' lo hi v n f:=by
 obtain⟨e,a,cap,hv,c,l⟩:=h;refine⟨e,a,cap,hv,c,fun hn=>?_⟩;obtain⟨b,off,k,g,j,d⟩:=l hn;exact⟨b,off,k,g,j,fun i hi=>(s.cell (AV (d i hi))).trans (d i hi)⟩
theorem BG.A1(h:BG w lo hi v n f g)(s:Below w.heap.size w w'):BG w' lo hi v n f g:=by
 obtain⟨e,a,cap,hv,d,m⟩:=h;refine⟨e,a,cap,hv,d,fun hn=>?_⟩;obtain⟨b,off,l,j,k,c⟩:=m hn;exact⟨b,off,l,j,k,fun i hi=>⟨(s.cell (AV (c i hi).1)).trans (c i hi).1,(s.cell (AV (c i hi).2)).trans (c i hi).2⟩⟩
theorem CU.A1{t:AH}(h:CU w lo hi v0 v1 v2 t)(s:Below w.heap.size w w'):CU w' lo hi v0 v1 v2 t:=
 ⟨h.1,h.2.1.A1 s,h.2.2⟩
theorem CL.A1{f:Nat->AH}(h:CL w lo hi v n f)(s:Below w.heap.size w w'):CL w' lo hi v n f:=by
 obtain⟨e,a,cap,hv,c,m⟩:=h;refine⟨e,a,cap,hv,c,fun hn=>?_⟩;obtain⟨b,off,l,g,j,k⟩:=m hn;refine⟨b,off,l,g,j,fun i hi=>?_⟩;obtain⟨o,v1,p,c0,c1,d,hs⟩:=k i hi;exact⟨o,v1,p,(s.cell (AV c0)).trans c0,(s.cell (AV c1)).trans c1,(s.cell (AV d)).trans d,hs.A1 s⟩
theorem CD.A1{p:A7}(h:CD w lo hi v0 v1 p)(s:Below w.heap.size w w'):CD w' lo hi v0 v1 p:=⟨h.1.A1 s,h.2.A1 s⟩
variable{a:Option Addr}
theorem DA.take{c m c':Nat}(h:DA w lo hi (.slice a n c) n f)(r:m<=n)(l:m<=c'):DA w lo hi (.slice a m c') m f:=by
 obtain⟨d,q,cap,hv,o,p⟩:=h;simp only[Value.slice.injEq,true_and]at hv;obtain⟨rfl,rfl⟩:=hv;refine⟨by omega,a,c',rfl,l,fun d=>?_⟩;obtain⟨b,off,k,e,g,j⟩:=p (by omega);exact⟨b,off,k,e,g,fun i hi=>j i (by omega)⟩
structure Jn (w:World) (b o:Nat) (lo hi:Nat) (ka:Option Addr) (kc:Nat) (s:AH):Prop where
 c0:w.cell? ⟨b,o,none⟩=some (A0 s.birth)
 c1:w.cell? ⟨b,o+1,none⟩=some (.slice ka s.kn kc)
 c2:w.cell? ⟨b,o+2,none⟩=some (.string s.data)
 slot:CU w lo hi (A0 s.birth) (.slice ka s.kn kc) (.string s.data) s
variable{s:AH}
theorem Jn.A1{ka:Option Addr}{kc:Nat}(h:Jn w b o lo hi ka kc s)(t:Below w.heap.size w w'):Jn w' b o lo hi ka kc s:=
 ⟨(t.cell (AV h.c0)).trans h.c0,(t.cell (AV h.c1)).trans h.c1,(t.cell (AV h.c2)).trans h.c2,h.slot.A1 t⟩
theorem CL.cells{c:Nat}{f:Nat->AH}(h:CL w lo hi (.slice a n c) n f){i:Nat}(hi':i<n) :
 ∃b off e kc,a=some ⟨b,off,none⟩/\Jn w b (off+i*3) lo hi e kc (f i):=by
 obtain⟨p,o,cap,hv,l,m⟩:=h;simp only[Value.slice.injEq,true_and]at hv;obtain⟨rfl,rfl⟩:=hv;obtain⟨b,off,k,q,r,j⟩:=m (by omega);obtain⟨s,v1,t,c0,c1,g,hs⟩:=j i hi';have d:=hs;obtain⟨rfl,⟨_,e,kc,rfl,_⟩,rfl,_⟩:=hs;exact⟨b,off,e,kc,k,⟨c0,c1,g,d⟩⟩
theorem BQ{P:Prop}{t:Bool}(a:t=true↔P)(h:¬P):t=false:=Bool.eq_false_iff.2 (fun e=>h (a.1 e))
def Ah(s:AH):Prop:=s.birth=0/\s.kn=0/\s.data.toList.isEmpty=true
def DS(n:Int):Prop:=1<=n/\n<=1000000
def B8(p:A7)(xs xb:Int):Prop:=1<=xb/\0<=xs/\xs<p.n/\(p.s xs.toNat).birth=xb
def Mp(p:A7)(b:Int)(xs xb:Int):Prop:=(xs=0/\xb=0)\/(B8 p xs xb/\xb<=b)
def C5(p:A7)(s:AH):Prop:=DS s.birth/\((s.kn=0/\s.data.size=16)\/(s.kn=8/\s.data.toList.isEmpty=true/\∀i,i<s.kn->Mp p s.birth (s.ks i) (s.kb i)))
def Has(n:Nat)(f:Nat->Int)(x:Int):Prop:=∃j,j<n/\f j=x
def ZY(p:A7)(i:Nat):Prop:=0<=p.h i/\p.h i<p.n/\¬Ah (p.s (p.h i).toNat)/\¬Has i p.h (p.h i)
def AZ(p:A7):Prop:=p.n<=200/\(∀i,i<p.n->Ah (p.s i)\/C5 p (p.s i))/\∀i,i<p.hn->ZY p i
structure AC (S:Nat->Prop) (w w':World):Prop where
 os:w'.os=w.os
 tape:w'.tape=w.tape
 output:w'.output=w.output
 size:w.heap.size<=w'.heap.size
 block:∀k,k<w.heap.size->¬S k->w'.heap[k]?=w.heap[k]?
theorem AC.refl(S:Nat->Prop)(w:World):AC S w w:=⟨rfl,rfl,rfl,Nat.le_refl _,fun _ _ _=>rfl⟩
variable{S:Nat->Prop}
theorem AC.trans{a b c:World}(h:AC S a b)(k:AC S b c):AC S a c:=
 ⟨k.os.trans h.os,k.tape.trans h.tape,k.output.trans h.output,Nat.le_trans h.size k.size,fun i hi hs=>(k.block i (Nat.lt_of_lt_of_le hi h.size) hs).trans (h.block i hi hs)⟩
theorem AC.mono{T:Nat->Prop}{a b:World}(h:AC S a b)(c:∀k,S k->T k):AC T a b:=
 ⟨h.os,h.tape,h.output,h.size,fun i hi hs=>h.block i hi (fun x=>hs (c i x))⟩
theorem AC.EF(h:Below w.heap.size w w'):AC S w w':=⟨h.os,h.tape,h.output,h.size,fun k a _=>h.block k a⟩
theorem AC.A1(h:AC S w w')(a:B<=w.heap.size)(hs:∀k,S k->B<=k):Below B w w':=
 ⟨h.os,h.tape,h.output,h.size,fun k b=>h.block k (by omega) (fun x=>by have:=hs k x;omega)⟩
theorem AC.setCell(h:AC S w w'){p:Addr}(a:S p.block)(u:Value):AC S w (w'.setCell p u):=
 h.trans ⟨rfl,rfl,rfl,by simp,fun k _ hs=>Below.heap_setCell _ _ _ _ (fun e=>hs (e▸a))⟩
theorem AC.put(w:World)(b o:Nat)(u:Value):AC (fun k=>k=b) w (w.setCell ⟨b,o,none⟩ u):=
 (AC.refl (fun k=>k=b) w).setCell (p:=⟨b,o,none⟩) rfl u
theorem AC.cell(h:AC S w w')(a:b<w.heap.size)(hs:¬S b):w'.cell? ⟨b,o,none⟩=w.cell? ⟨b,o,none⟩:=
 World.cell?_of_block (w:=w) (h.block b a hs)
theorem AC.frozen(h:AC S w w')(a:b<w.heap.size)(hs:¬S b):w'.frozen? ⟨b,o,none⟩=w.frozen? ⟨b,o,none⟩:=
 World.frozen?_of_block (w:=w) (h.block b a hs)
theorem AC.same(h:AC S w w')(c:hi<=w.heap.size)(hs:∀k,S k->k<lo\/hi<=k):Ih lo hi w w':=
 fun k a b=>h.block k (by omega) (fun x=>by have:=hs k x;omega)
def AO(w:World)(b o:Nat)(v:Value):Prop:=w.cell? ⟨b,o,none⟩=some v/\w.frozen? ⟨b,o,none⟩=false
theorem AO.lt(h:AO w b o v):b<w.heap.size:=AV h.1
theorem AO.AD(h:AO w b o v)(t:AC S w w')(hs:¬S b):AO w' b o v:=
 ⟨(t.cell h.lt hs).trans h.1,(t.frozen h.lt hs).trans h.2⟩
theorem AO.A1(h:AO w b o v)(t:Below w.heap.size w w'):AO w' b o v:=
 ⟨(t.cell h.lt).trans h.1,(t.frozen h.lt).trans h.2⟩
theorem AO.set(h:AO w b o v)(u:Value):AO (w.setCell ⟨b,o,none⟩ u) b o u:=
 ⟨World.cell?_setCell_same' _ _ _ (by rw[h.1];rfl),by rw[World.frozen?_setCell];exact h.2⟩
theorem AO.other(h:AO w b o v){b' o':Nat}(u:Value)(a:b'≠b\/o'≠o):AO (w.setCell ⟨b',o',none⟩ u) b o v:=by
 refine⟨?_,by rw[World.frozen?_setCell];exact h.2⟩;rw[World.cell?_setCell_other]
 ·exact h.1
 ·intro e;simp only[Addr.mk.injEq]at e;rcases a with h | h
  ·exact h e.1
  ·exact h e.2.1
def Ma(w:World)(b:Nat):Nat->List Value->World
 | _,[]=>w
 | o,u :: us=>Ma (w.setCell ⟨b,o,none⟩ u) b (o+1) us
theorem QC{b j:Nat}{v:Value}:∀(us:List Value) (w:World) (o:Nat),AO w b j v->j<o\/o+us.length<=j->AO (Ma w b o us) b j v
 | [],_,_,h,_=>h
 | u :: us,w,o,h,hj=>by
  rw[List.length_cons]at hj;exact QC us _ (o+1) (h.other u (Or.inr (by omega))) (by omega)
theorem LZ{b:Nat}{u v:Value}:∀(us:List Value) (w:World) (o i j:Nat),us[i]?=some u->o+i=j->AO w b j v->AO (Ma w b o us) b j u
 | [],_,_,_,_,h,_,_=>by simp at h
 | x :: us,w,o,0,j,h,e,hc=>by
  obtain rfl:x=u:=(by simpa using h);obtain rfl:o=j:=e;exact QC us _ (o+1) (hc.set x) (Or.inl (by omega))
 | x :: us,w,o,i+1,j,h,e,hc=>LZ us _ (o+1) i j (by simpa using h) (by omega) (hc.other x (Or.inr (by omega)))
def zIc(w:World)(b:Nat)(a:Option Addr)(n cap:Nat):Prop:=n<cap->0<n/\a=some ⟨b,0,none⟩/\cap<=maxLen/\∃cur,w.heap[b]?=some (.cells cur 2 (0,0))/\cur.size=cap
def Fe(w:World)(b:Nat)(v:Value)(n:Nat)(f:Nat->Int):Prop:=
 n<=maxLen/\∃a cap,v = .slice a n cap/\n<=cap/\(0<n->∃off,a=some ⟨b,off,none⟩/\∀i,i<n->AO w b (off+i) (A0 (f i)))/\zIc w b a n cap
def CS(w:World)(b:Nat)(v:Value)(n:Nat)(fs fb:Nat->Int):Prop:=
 n<=maxLen/\∃a cap,v = .slice a n cap/\n<=cap/\(0<n->∃off,a=some ⟨b,off,none⟩/\∀i,i<n->AO w b (off+i*2) (A0 (fs i))/\AO w b (off+i*2+1) (A0 (fb i)))
theorem Fe.at(h:Fe w b v n f)(d:0<n->lo<=b/\b<hi):DA w lo hi v n f:=by
 obtain⟨e,a,cap,hv,c,k,l⟩:=h;refine⟨e,a,cap,hv,c,fun hn=>?_⟩;obtain⟨off,j,g⟩:=k hn;exact⟨b,off,j,(d hn).1,(d hn).2,fun i hi=>(g i hi).1⟩
theorem CS.at(h:CS w b v n f g)(e:0<n->lo<=b/\b<hi):BG w lo hi v n f g:=by
 obtain⟨j,a,cap,hv,c,l⟩:=h;refine⟨j,a,cap,hv,c,fun hn=>?_⟩;obtain⟨off,k,d⟩:=l hn;exact⟨b,off,k,(e hn).1,(e hn).2,fun i hi=>⟨(d i hi).1.1,(d i hi).2.1⟩⟩
theorem Fe.AD(h:Fe w b v n f)(t:AC S w w')(hs:0<n->¬S b):Fe w' b v n f:=by
 obtain⟨j,a,cap,hv,d,m,o⟩:=h;refine⟨j,a,cap,hv,d,fun hn=>?_,fun e=>?_⟩;rotate_left
 ·obtain⟨r0,r1,p,c,g,q⟩:=o e;exact⟨r0,r1,p,c,(t.block b (Array.getElem?_eq_some_iff.1 g).1 (hs r0)).trans g,q⟩
 obtain⟨off,l,k⟩:=m hn;exact⟨off,l,fun i hi=>(k i hi).AD t (hs hn)⟩
theorem CS.AD(h:CS w b v n f g)(t:AC S w w')(hs:0<n->¬S b):CS w' b v n f g:=by
 obtain⟨e,a,cap,hv,c,k⟩:=h;refine⟨e,a,cap,hv,c,fun hn=>?_⟩;obtain⟨off,j,d⟩:=k hn;exact⟨off,j,fun i hi=>⟨(d i hi).1.AD t (hs hn),(d i hi).2.AD t (hs hn)⟩⟩
theorem CS.A1(h:CS w b v n f g)(t:Below w.heap.size w w'):CS w' b v n f g:=
 h.AD (AC.EF (S:=fun _=>False) t) (fun _ h=>h)
theorem Fe.A1(h:Fe w b v n f)(t:Below w.heap.size w w'):Fe w' b v n f:=
 h.AD (AC.EF (S:=fun _=>False) t) (fun _ h=>h)
structure H6 (w:World) (bs o kb:Nat) (kv:Value) (s:AH):Prop where
 birth:AO w bs o (A0 s.birth)
 kidsv:AO w bs (o+1) kv
 data:AO w bs (o+2) (.string s.data)
 kids:CS w kb kv s.kn s.ks s.kb
 CG:s.data.size<=maxLen
 Bn:0<s.kn->kb≠bs
variable{bs kb:Nat}{kv:Value}
theorem H6.AD(h:H6 w bs o kb kv s)(t:AC S w w')(a:¬S bs)(b:0<s.kn->¬S kb):H6 w' bs o kb kv s:=
 ⟨h.birth.AD t a,h.kidsv.AD t a,h.data.AD t a,h.kids.AD t b,h.CG,h.Bn⟩
theorem H6.A1(h:H6 w bs o kb kv s)(t:Below w.heap.size w w'):H6 w' bs o kb kv s:=
 h.AD (AC.EF (S:=fun _=>False) t) (fun h=>h) (fun _ h=>h)
theorem H6.at(h:H6 w bs o kb kv s)(a:0<s.kn->lo<=kb/\kb<hi):CU w lo hi (A0 s.birth) kv (.string s.data) s:=
 ⟨rfl,h.kids.at a,rfl,h.CG⟩
def FF(w:World)(bs:Nat)(kb:Nat->Nat)(kv:Nat->Value)(v:Value)(n:Nat)(f:Nat->AH):Prop:=
 n<=maxLen/\∃a cap,v = .slice a n cap/\n<=cap/\(0<n->∃off,a=some ⟨bs,off,none⟩/\∀i,i<n->H6 w bs (off+i*3) (kb i) (kv i) (f i))
def M1(kb:Nat->Nat)(n:Nat)(f:Nat->AH):Prop:=∀i j,i<n->j<n->i≠j->0<(f i).kn->0<(f j).kn->kb i≠kb j
def zGW(lo hi bs:Nat)(kb:Nat->Nat)(n:Nat)(f:Nat->AH):Prop:=0<n->(lo<=bs/\bs<hi)/\∀i,i<n->0<(f i).kn->lo<=kb i/\kb i<hi
variable{kb:Nat->Nat}{kv:Nat->Value}{f:Nat->AH}
theorem FF.at(h:FF w bs kb kv v n f)(c:zGW lo hi bs kb n f):CL w lo hi v n f:=by
 obtain⟨e,a,cap,hv,d,j⟩:=h;refine⟨e,a,cap,hv,d,fun hn=>?_⟩;obtain⟨off,g,b⟩:=j hn;refine⟨bs,off,g,(c hn).1.1,(c hn).1.2,fun i hi=>?_⟩;exact⟨_,_,_,(b i hi).birth.1,(b i hi).kidsv.1,(b i hi).data.1,(b i hi).at ((c hn).2 i hi)⟩
theorem FF.A1(h:FF w bs kb kv v n f)(t:Below w.heap.size w w'):FF w' bs kb kv v n f:=by
 obtain⟨c,a,cap,hv,b,g⟩:=h;refine⟨c,a,cap,hv,b,fun hn=>?_⟩;obtain⟨off,e,d⟩:=g hn;exact⟨off,e,fun i hi=>(d i hi).A1 t⟩
theorem FF.AD(h:FF w bs kb kv v n f)(t:AC S w w')
 (d:0<n->¬S bs) (e:∀i,i<n->0<(f i).kn->¬S (kb i)):FF w' bs kb kv v n f:=by
 obtain⟨c,a,cap,hv,b,k⟩:=h;refine⟨c,a,cap,hv,b,fun hn=>?_⟩;obtain⟨off,j,g⟩:=k hn;exact⟨off,j,fun i hi=>(g i hi).AD t (d hn) (e i hi)⟩
def Ad(w:World)(b:Nat)(v0 v1:Value):Prop:=AO w b 0 v0/\AO w b 1 v1
theorem Ad.A1(h:Ad w b v0 v1)(t:Below w.heap.size w w'):Ad w' b v0 v1:=⟨h.1.A1 t,h.2.A1 t⟩
theorem Ad.AD(h:Ad w b v0 v1)(t:AC S w w')(hs:¬S b):Ad w' b v0 v1:=⟨h.1.AD t hs,h.2.AD t hs⟩
theorem Ad.new(w:World)(a v1:Value)(t:TypeId):Ad (w.alloc (.cells #[a,v1] t)) w.heap.size a v1:=
 ⟨⟨by rw[World.cell?_alloc_at (hn:=rfl)];rfl,by rw[World.frozen?_alloc_at (hn:=rfl)]⟩,⟨by rw[World.cell?_alloc_at (hn:=rfl)];rfl,by rw[World.frozen?_alloc_at (hn:=rfl)]⟩⟩
def CZ(w:World)(b:Nat)(v0 v1 v2:Value):Prop:=AO w b 0 v0/\AO w b 1 v1/\AO w b 2 v2
theorem CZ.A1(h:CZ w b v0 v1 v2)(t:Below w.heap.size w w'):CZ w' b v0 v1 v2:=⟨h.1.A1 t,h.2.1.A1 t,h.2.2.A1 t⟩
theorem CZ.new(w:World)(a v1 b:Value)(t:TypeId):CZ (w.alloc (.cells #[a,v1,b] t)) w.heap.size a v1 b:=
 ⟨⟨by rw[World.cell?_alloc_at (hn:=rfl)];rfl,by rw[World.frozen?_alloc_at (hn:=rfl)]⟩,⟨by rw[World.cell?_alloc_at (hn:=rfl)];rfl,by rw[World.frozen?_alloc_at (hn:=rfl)]⟩,⟨by rw[World.cell?_alloc_at (hn:=rfl)];rfl,by rw[World.frozen?_alloc_at (hn:=rfl)]⟩⟩
theorem CZ.put(h:CZ w b v0 v1 v2)(a c u2:Value):CZ (((w.setCell ⟨b,0,none⟩ a).setCell ⟨b,1,none⟩ c).setCell ⟨b,2,none⟩ u2) b a c u2:=
 ⟨((h.1.set a).other _ (Or.inr (by omega))).other _ (Or.inr (by omega)),((h.2.1.other _ (Or.inr (by omega))).set c).other _ (Or.inr (by omega)),((h.2.2.other _ (Or.inr (by omega))).other _ (Or.inr (by omega))).set u2⟩
theorem Ad.put(h:Ad w b v0 v1)(a c:Value):Ad ((w.setCell ⟨b,0,none⟩ a).setCell ⟨b,1,none⟩ c) b a c:=
 ⟨(h.1.set a).other _ (Or.inr (by omega)),(h.2.other _ (Or.inr (by omega))).set c⟩
theorem CZ.other(h:CZ w b v0 v1 v2){b' o':Nat}(u:Value)(a:b'≠b):CZ (w.setCell ⟨b',o',none⟩ u) b v0 v1 v2:=
 ⟨h.1.other u (Or.inl a),h.2.1.other u (Or.inl a),h.2.2.other u (Or.inl a)⟩
theorem AB(w:World)(o:Obj):Below w.heap.size w (w.alloc o):=(Below.refl _ _).alloc (Nat.le_refl _) o
variable{cs:Array Value}
theorem Az{i:Nat}{t:TypeId}(h:w.heap[b]?=some (.cells cs t))(hi:cs[i]?=some v):AO w b i v:=by
 refine⟨?_,?_⟩
 ·simp[World.cell?,h,hi]
 ·simp[World.frozen?,h]
theorem Oz{t:TypeId}(v:Value)(h:w.heap[b]?=some (.cells cs t)):(w.setCell ⟨b,o,none⟩ v).heap[b]?=some (.cells (cs.setIfInBounds o v) t):=by
 simp[World.setCell,Array.getElem?_modify,h]
theorem Bw{base e size:Nat}(h:w.ownsRow base e size v n xs):∃a cap,v = .slice a n cap/\n<=cap:=by
 obtain⟨_,⟨h,rfl⟩ | ⟨g,cap,c,hv,_,_,b,_⟩⟩:=h
 ·exact⟨none,0,h,Nat.le_refl _⟩
 ·exact⟨_,cap,hv,b⟩
theorem FI{base e size:Nat}(h:w.ownsRow base e size v n xs)(hn:0<n) :
 ∃g cap,v = .slice (some ⟨g,0,none⟩) n cap/\n<=cap/\base<=g/\g<w.heap.size/\∀j u,xs[j]?=some u->AO w g j u:=by
 obtain⟨_,⟨h,rfl⟩ | ⟨g,cap,c,hv,k,b,f,m,o,i⟩⟩:=h
 ·omega
 ·refine⟨g,cap,hv,f,k,?_,fun j u l=>?_⟩
  ·by_cases d:g<w.heap.size
   ·exact d
   ·rw[Array.getElem?_eq_none (by omega)]at b;simp at b
  ·refine⟨?_,?_⟩
   ·simp only[World.cell?,b];have a:(c.toList.take (n*size))[j]?=some u:=(by rw[i];exact l);rw[List.getElem?_take]at a;split at a
    ·simpa using a
    ·simp at a
   ·simp only[World.frozen?,b];simp
def FM(s:AH):Prop:=DS s.birth/\s.kn=0/\s.data.size=16
def IM(s:AH):Prop:=DS s.birth/\s.kn=8/\s.data.toList.isEmpty=true
theorem Kr(k v1 l:Value)(lo hi:Nat)(s:AH)(w:World)(b:CU w lo hi k v1 l s) :
 Calls Tryz.prog 137 #[.agg #[k,v1,l]] w fun e w'=>AJ (Ah s) e/\Below w.heap.size w w':=by
 obtain⟨rfl,⟨m,a,c,rfl,_⟩,rfl,_⟩:=b;unfold maxLen at m;have d:=(Below.refl w.heap.size w).alloc (Nat.le_refl _) (.cells #[A0 s.birth,.slice a s.kn c,.string s.data] 94);by_cases b:s.birth=0
 ·by_cases f:s.kn=0
  ·by_cases g:s.data.toList.isEmpty=true
   ·have H:Hid (Ah s):=⟨b,f,g⟩;have i:(s.birth == 0)=true:=(by simp[b]);have j:((s.kn:Int) == 0)=true:=(by simp[f]);clear b f;go_enter Tryz.func137,Tryz.ntmps137;go_wp2;go_ret;exact⟨AJ.yes H.out,d⟩
   ·have H:Hid (¬Ah s):=fun h=>g h.2.2
    have i:(s.birth == 0)=true:=(by simp[b]);have j:((s.kn:Int) == 0)=true:=(by simp[f]);have n:s.data.toList.isEmpty=false:=(by simpa using g);clear b f g;go_enter Tryz.func137,Tryz.ntmps137;go_wp2;go_ret;exact⟨AJ.no H.out,d⟩
  ·have H:Hid (¬Ah s):=fun h=>f h.2.1
   have i:(s.birth == 0)=true:=(by simp[b]);have j:((s.kn:Int) == 0)=false:=(by simp;omega);clear b f;go_enter Tryz.func137,Tryz.ntmps137;go_wp2;go_ret;exact⟨AJ.no H.out,d⟩
 ·have H:Hid (¬Ah s):=fun h=>b h.1
  have i:(s.birth == 0)=false:=(by simp[b]);clear b;go_enter Tryz.func137,Tryz.ntmps137;go_wp2;go_ret;exact⟨AJ.no H.out,d⟩
theorem FJ(n:Int)(w:World):Calls Tryz.prog 136 #[A0 n] w fun e w'=>AJ (DS n) e/\w'=w:=by
 by_cases a:1<=n
 ·by_cases b:n<=1000000
  ·go_enter Tryz.func136,Tryz.ntmps136;go_wp2;go_ret;exact⟨AJ.yes ⟨a,b⟩,rfl⟩
  ·go_enter Tryz.func136,Tryz.ntmps136;go_wp2;go_ret;exact⟨AJ.no fun h=>by have:=h.2;omega,rfl⟩
 ·go_enter Tryz.func136,Tryz.ntmps136;go_wp2;go_ret;exact⟨AJ.no fun h=>by have:=h.1;omega,rfl⟩
theorem YD(l v1 m:Value)(lo hi:Nat)(s:AH)(w:World)(d:CU w lo hi l v1 m s) :
 Calls Tryz.prog 160 #[.agg #[l,v1,m]] w fun e w'=>AJ (FM s) e/\Below w.heap.size w w':=by
 obtain⟨rfl,⟨o,a,c,rfl,_⟩,rfl,p⟩:=d;unfold maxLen at o p;have f:=(Below.refl w.heap.size w).alloc (Nat.le_refl _) (.cells #[A0 s.birth,.slice a s.kn c,.string s.data] 94);by_cases d:DS s.birth
 ·have i:Hid (DS s.birth):=d;by_cases g:s.kn=0
  ·by_cases j:s.data.size=16
   ·have H:Hid (FM s):=⟨d,g,j⟩;have k:((s.kn:Int) == 0)=true:=(by simp[g]);have n:((s.data.size:Int) == 16)=true:=(by simp[j]);clear d g j;go_enter Tryz.func160,Tryz.ntmps160;go_wp2_with (go_at_call 136;refine(FJ _ _).mono ?_;rintro e w' ⟨⟨t,rfl,b⟩,rfl⟩;obtain rfl:t=true:=b.2 i.out;clear b);go_ret;exact⟨AJ.yes H.out,f⟩
   ·have H:Hid (¬FM s):=fun h=>j h.2.2
    have k:((s.kn:Int) == 0)=true:=(by simp[g]);have n:((s.data.size:Int) == 16)=false:=(by simp;omega);clear d g j;go_enter Tryz.func160,Tryz.ntmps160;go_wp2_with (go_at_call 136;refine(FJ _ _).mono ?_;rintro e w' ⟨⟨t,rfl,b⟩,rfl⟩;obtain rfl:t=true:=b.2 i.out;clear b);go_ret;exact⟨AJ.no H.out,f⟩
  ·have H:Hid (¬FM s):=fun h=>g h.2.1
   have k:((s.kn:Int) == 0)=false:=(by simp;omega);clear d g;go_enter Tryz.func160,Tryz.ntmps160;go_wp2_with (go_at_call 136;refine(FJ _ _).mono ?_;rintro e w' ⟨⟨t,rfl,b⟩,rfl⟩;obtain rfl:t=true:=b.2 i.out;clear b);go_ret;exact⟨AJ.no H.out,f⟩
 ·have i:Hid (¬DS s.birth):=d;clear d;go_enter Tryz.func160,Tryz.ntmps160;go_wp2_with (go_at_call 136;refine(FJ _ _).mono ?_;rintro e w' ⟨⟨t,rfl,b⟩,rfl⟩;obtain rfl:t=false:=BQ b i.out;clear b);go_ret;exact⟨AJ.no fun h=>i.out h.1,f⟩
theorem zAi(l v1 m:Value)(lo hi:Nat)(s:AH)(w:World)(d:CU w lo hi l v1 m s) :
 Calls Tryz.prog 161 #[.agg #[l,v1,m]] w fun e w'=>AJ (IM s) e/\Below w.heap.size w w':=by
 obtain⟨rfl,⟨n,a,c,rfl,_⟩,rfl,o⟩:=d;unfold maxLen at n o;have f:=(Below.refl w.heap.size w).alloc (Nat.le_refl _) (.cells #[A0 s.birth,.slice a s.kn c,.string s.data] 94);by_cases d:DS s.birth
 ·have i:Hid (DS s.birth):=d;by_cases g:s.kn=8
  ·by_cases j:s.data.toList.isEmpty=true
   ·have H:Hid (IM s):=⟨d,g,j⟩;have k:((s.kn:Int) == 8)=true:=(by simp[g]);clear d g;go_enter Tryz.func161,Tryz.ntmps161;go_wp2_with (go_at_call 136;refine(FJ _ _).mono ?_;rintro e w' ⟨⟨t,rfl,b⟩,rfl⟩;obtain rfl:t=true:=b.2 i.out;clear b);go_ret;exact⟨AJ.yes H.out,f⟩
   ·have H:Hid (¬IM s):=fun h=>j h.2.2
    have k:((s.kn:Int) == 8)=true:=(by simp[g]);have p:s.data.toList.isEmpty=false:=(by simpa using j);clear d g j;go_enter Tryz.func161,Tryz.ntmps161;go_wp2_with (go_at_call 136;refine(FJ _ _).mono ?_;rintro e w' ⟨⟨t,rfl,b⟩,rfl⟩;obtain rfl:t=true:=b.2 i.out;clear b);go_ret;exact⟨AJ.no H.out,f⟩
  ·have H:Hid (¬IM s):=fun h=>g h.2.1
   have k:((s.kn:Int) == 8)=false:=(by simp;omega);clear d g;go_enter Tryz.func161,Tryz.ntmps161;go_wp2_with (go_at_call 136;refine(FJ _ _).mono ?_;rintro e w' ⟨⟨t,rfl,b⟩,rfl⟩;obtain rfl:t=true:=b.2 i.out;clear b);go_ret;exact⟨AJ.no H.out,f⟩
 ·have i:Hid (¬DS s.birth):=d;clear d;go_enter Tryz.func161,Tryz.ntmps161;go_wp2_with (go_at_call 136;refine(FJ _ _).mono ?_;rintro e w' ⟨⟨t,rfl,b⟩,rfl⟩;obtain rfl:t=false:=BQ b i.out;clear b);go_ret;exact⟨AJ.no fun h=>i.out h.1,f⟩
theorem zG(v:Value)(n lo hi:Nat)(f:Nat->Int)(x:Int)(w:World)(z:DA w lo hi v n f) :
 Calls Tryz.prog 191 #[v,A0 x] w fun e w'=>(∃r:Int,e = .returned (A0 r)/\(0<=r↔Has n f x))/\w'=w:=by
 obtain⟨B,a,c,rfl,D,s⟩:=z;unfold maxLen at B;have q:Hid (0<n->∃b off,a=some ⟨b,off,none⟩/\lo<=b/\b<hi/\∀i,i<n->w.cell? ⟨b,off+i,none⟩=some (A0 (f i))):=s;clear s;go_enter Tryz.func191,Tryz.ntmps191;go_wp2
 go_loop [8] (fun i=>∃k:Nat,k<=n/\i=A0 k/\¬Has k f x) (fun i=>n - (intOf i).toNat)
 case atStart=>exact⟨0,Nat.zero_le _,rfl,fun ⟨j,t,_⟩=>absurd t (Nat.not_lt_zero _)⟩
 case round=>
  obtain⟨k,C,rfl,o⟩:=hrel;have g:Hid (¬Has k f x):=o;clear o;by_cases m:k<n
  ·have u:(k:Int)<(n:Int):=(by omega);obtain⟨b,off,rfl,_,_,y⟩:=q.out (by omega);have A:=y k m;clear y q;by_cases d:f k=x
   ·have H:Hid (Has n f x):=⟨k,m,d⟩;have p:(x == f k)=true:=(by simp[d]);clear d;go_wp2;go_ret;exact⟨⟨_,rfl,⟨fun _=>H.out,fun _=>Int.natCast_nonneg _⟩⟩,rfl⟩
   ·have H:Hid (¬f k=x):=d;have p:(x == f k)=false:=(by simp;exact fun e=>d e.symm);clear d;go_wp2
    go_round
    case rel=>
     refine⟨k+1,by omega,by go_num,?_⟩;rintro⟨j,t,l⟩;by_cases e:j=k
     ·subst e;exact H.out l
     ·exact g.out ⟨j,by omega,l⟩
    case measure=>simp[intOf];omega
  ·obtain rfl:k=n:=(by omega);go_wp2;go_ret;exact⟨⟨-1,rfl,⟨fun h=>absurd h (by omega),fun h=>absurd h g.out⟩⟩,rfl⟩
theorem On(v:Value)(n lo hi:Nat)(f:Nat->Int)(x:Int)(w:World)(b:DA w lo hi v n f) :
 Calls Tryz.prog 164 #[v,A0 x] w fun e w'=>AJ (Has n f x) e/\w'=w:=by
 have g:Hid (DA w lo hi v n f):=b;obtain⟨j,a,c,rfl,k,i⟩:=b;clear i;go_enter Tryz.func164,Tryz.ntmps164;go_wp2_with fail;refine(zG _ n lo hi f x _ g.out).mono ?_;rintro e w' ⟨⟨r,rfl,d⟩,rfl⟩;have h:Hid (0<=r↔Has n f x):=d;clear d;go_wp2;go_ret;exact⟨⟨_,rfl,by simpa using h.out⟩,rfl⟩
def Dw(n:Nat)(f:Nat->AH)(x ps pb:Int):Prop:=
 (0<=x/\x<n/\¬Ah (f x.toNat)/\ps=x/\pb=(f x.toNat).birth)\/(¬(0<=x/\x<n/\¬Ah (f x.toNat))/\ps=0/\pb=0)
theorem OJ(v:Value)(n lo hi:Nat)(f:Nat->AH)(x:Int)(w:World)(r:CL w lo hi v n f) :
 Calls Tryz.prog 163 #[v,A0 x] w fun e w'=>(∃ps y,e = .returned (.agg #[A0 ps,A0 y])/\Dw n f x ps y)/\Below w.heap.size w w':=by
 have B:Hid (CL w lo hi v n f):=r;obtain⟨G,a,c,rfl,N,C⟩:=r;unfold maxLen at G;clear C;have g:Hid (Below w.heap.size w (w.alloc (.cells #[A0 0,A0 0] 38))):=AB _ _;by_cases r:x<0
 ·have H:Hid (Dw n f x 0 0):=Or.inr ⟨fun h=>by omega,rfl,rfl⟩;go_enter Tryz.func163,Tryz.ntmps163;go_wp2;refine bodyPost_ret (v:=.agg #[A0 0,A0 0]) (by simp[results,Tryz.results163,go_sem]) rfl ⟨⟨0,0,rfl,H.out⟩,g.out⟩
 ·by_cases M:(n:Int)<=x
  ·have H:Hid (Dw n f x 0 0):=Or.inr ⟨fun h=>by omega,rfl,rfl⟩;go_enter Tryz.func163,Tryz.ntmps163;go_wp2;refine bodyPost_ret (v:=.agg #[A0 0,A0 0]) (by simp[results,Tryz.results163,go_sem]) rfl ⟨⟨0,0,rfl,H.out⟩,g.out⟩
  ·obtain⟨k,rfl⟩:=Int.eq_ofNat_of_zero_le (show 0<=x by omega);have D:k<n:=(by omega);have s:(k:Int)<(n:Int):=(by omega);obtain⟨b,off,F,kc,rfl,hs⟩:=B.out.cells D;have q:Hid (Jn w b (off+k*3) lo hi F kc (f k)):=hs;have E:=AV hs.c0;obtain⟨z,q1,A,_⟩:=hs;by_cases j:Ah (f k)
   ·have H:Hid (Dw n f k 0 0):=Or.inr ⟨fun h=>h.2.2 (by rw[Int.toNat_natCast];exact j),rfl,rfl⟩;have p:Hid (Ah (f k)):=j;clear j;go_enter Tryz.func163,Tryz.ntmps163;go_wp2_with fail;refine(Kr _ _ _ lo hi (f k) _ (q.out.slot.A1 g.out)).mono ?_;rintro e u ⟨⟨t,rfl,o⟩,d⟩;obtain rfl:t=true:=o.2 p.out;clear o;have l:Hid (Ad u w.heap.size (A0 0) (A0 0)):=(Ad.new w _ _ _).A1 d;have i:=A9 g.out d;clear d z q1 A;obtain⟨⟨I,J⟩,⟨K,L⟩⟩:=l.out;go_wp2;have m:=l.out.put (A0 0) (A0 0);refine bodyPost_ret (v:=.agg #[A0 0,A0 0]) (by simp[results,Tryz.results163,go_sem,m.1.1,m.2.1]) rfl ⟨⟨0,0,rfl,H.out⟩,(i.setCell (Nat.le_refl _) _).setCell (Nat.le_refl _) _⟩
   ·have H:Hid (Dw n f k k (f k).birth):=Or.inl ⟨by omega,s,by rw[Int.toNat_natCast];exact j,rfl,by rw[Int.toNat_natCast]⟩;have p:Hid (¬Ah (f k)):=j;clear j;go_enter Tryz.func163,Tryz.ntmps163;go_wp2_with fail;refine(Kr _ _ _ lo hi (f k) _ (q.out.slot.A1 g.out)).mono ?_;rintro e u ⟨⟨t,rfl,o⟩,d⟩;obtain rfl:t=false:=BQ o p.out;clear o;have l:Hid (Ad u w.heap.size (A0 0) (A0 0)):=(Ad.new w _ _ _).A1 d;have i:=A9 g.out d;have O:=(q.out.A1 i).c0;clear d z q1 A;obtain⟨⟨I,J⟩,⟨K,L⟩⟩:=l.out;go_wp2;have m:=l.out.put (A0 k) (A0 (f k).birth);refine bodyPost_ret (v:=.agg #[A0 k,A0 (f k).birth]) (by simp[results,Tryz.results163,go_sem,m.1.1,m.2.1]) rfl ⟨⟨_,_,rfl,H.out⟩,(i.setCell (Nat.le_refl _) _).setCell (Nat.le_refl _) _⟩
variable{P:Program}
theorem Z9(w:World)(n sT ty elem:TypeId)(size g o b f:Nat)(a:Addr)(c l:Nat)(d:Array Value)(t:TypeId)(cs:List Value)
 (s:P.underlying n=some (.slice elem)) (hs:(P.info? elem).map (·.size)=some size)
 (q:w.heap[g]?=some (.cells d t (0,0))) (hn:cs.length=Nat.min c b*size)
 (k:∀j v,cs[j]?=some v->w.cell? (a.add j)=some v) (h:o+cs.length<=d.size) (p:∀v∈cs,v.oneCell'=true) :
 (Builtin.copy_ #[n,sT] ty #[.slice (some ⟨g,o,none⟩) b f,.slice (some a) c l]).run P w =
  .ok (goInt (Nat.min c b)) (w.setRow g (d.toList.take o ++ cs ++ d.toList.drop (o+cs.length)).toArray):=by
 have r:=run_loadCells_list (P:=P) w a cs k;have m:=run_storeCells_at P g o t cs 0 d w q (by simpa using h) p;cases hq:P.info? elem with
 | none=>simp[hq]at hs
 | some i=>
  have hi:i.size=size:=(by simpa[hq]using hs);have e:Nat.min c b*i.size=cs.length:=(by rw[hi,hn]);simp[Builtin.copy_,run_underlying s,Builtin.lenOf,Builtin.firstCells,sizeOf,typeInfo,hq,e,r,m]
theorem zCN(w:World)(f sT ty elem:TypeId)(size:Nat)(d a:Option Addr)(c b e:Nat)
 (g:P.underlying f=some (.slice elem)) (hs:(P.info? elem).map (·.size)=some size) :
 (Builtin.copy_ #[f,sT] ty #[.slice d c b,.slice a 0 e]).run P w = .ok (goInt 0) w:=by
 cases hq:P.info? elem with
 | none=>simp[hq]at hs
 | some i=>
  cases a with
  | none=>cases d<;>simp[Builtin.copy_,run_underlying g,Builtin.lenOf,Builtin.firstCells,sizeOf,typeInfo,hq,storeCells]
  | some a=>cases d<;>simp[Builtin.copy_,run_underlying g,Builtin.lenOf,Builtin.firstCells,sizeOf,typeInfo,hq,storeCells,loadCells,loadCellsFrom]
def BC(s:AH)(j:Nat):Int:=if j / 2<s.kn then(if j % 2=0 then s.ks (j / 2)else s.kb (j / 2))else 0
def Aj(f:Nat->Int):Array Value:=((List.range 16).map fun j=>Value.int .i64 (f j)).toArray
def B9(s:AH):Array Value:=Aj (BC s)
theorem D4(f:Nat->Int):(Aj f).size=16:=by simp[Aj]
theorem EM(f:Nat->Int)(h:j<16):(Aj f)[j]?=some (A0 (f j)):=by simp[Aj,h]
theorem I7(f:Nat->Int):(Aj f).all (·.oneCell')=true:=by
 unfold Aj;rw[Array.all_eq_true_iff_forall_mem];intro v hv;simp at hv;obtain⟨j,_,rfl⟩:=hv;rfl
theorem XB{f:Nat->Int}(h:∀j,j<16->f j=g j):Aj f=Aj g:=by
 unfold Aj;congr 1;apply List.map_congr_left;intro j a;rw[h j (by simpa using a)]
theorem GV:(Tryz.prog.info? 121).map (·.size)=some 16:=by kernel_rfl
theorem RY:(Tryz.prog.info? 38).map (·.size)=some 2:=by kernel_rfl
theorem FP:Tryz.prog.underlying 121=some (.array 8 38):=by kernel_rfl
theorem YU(w:World)(b a c:Obj):(((w.alloc b).alloc a).alloc c).heap[w.heap.size+1]?=some a/\(((w.alloc b).alloc a).alloc c).heap[w.heap.size+1+1]?=some c/\w.heap.size+1+1<(((w.alloc b).alloc a).alloc c).heap.size:=by
 refine⟨?_,?_,by simp⟩
 ·rw[Below.heap_alloc _ _ _ (by simp)];have:=heap_alloc_last (w.alloc b) a;rw[World.size_alloc]at this;exact this
 ·have:=heap_alloc_last ((w.alloc b).alloc a) c;rw[World.size_alloc,World.size_alloc]at this;exact this
theorem AC.setRow(w:World)(g:Nat)(cs:Array Value):AC (fun k=>k=g) w (w.setRow g cs):=
 ⟨rfl,rfl,rfl,by simp[World.setRow],fun k _ hs=>setRow_other w g k cs hs⟩
theorem zCi{q:Array Oper}{o:Oper}{a:Act}{K:Act->World->Prop}{Q:Exit->Act->World->Prop}{E:Prop}(u:o.guard=none)(d s:Operand)
 (z:o.op = .call {callee:=.builtin .copy,args:=#[d,s],argTypes:=#[39,39]})
 (g:Nat) (x:Option Addr) (kc:Nat) (c:AH) (y:a.eval d = .slice (some ⟨g,0,none⟩) 8 8) (hs:a.eval s = .slice x c.kn kc)
 (t:w.heap[g]?=some (.cells (Aj fun _=>0) 121 (0,0))) (p:c.kn=0\/(c.kn=8/\∃b off,x=some ⟨b,off,none⟩/\∀i,i<c.kn->w.cell? ⟨b,off+i*2,none⟩=some (A0 (c.ks i))/\w.cell? ⟨b,off+i*2+1,none⟩=some (A0 (c.kb i))))
 (h:∀w' v,Hid (w'.heap[g]?=some (.cells (B9 c) 121 (0,0)))->AC (fun k=>k=g) w w'->K (a.put o.dst v) w') :
 if Region.wanted o (yielded q a.tmps)=true then Oper.wp Tryz.prog o a w K Q else E:=by
 have C:Region.wanted o (yielded q a.tmps)=true:=by simp[Region.wanted,u]
 rw[if_pos C];have A:Tryz.prog.underlying 39=some (.slice 38):=by kernel_rfl
 rcases p with p | ⟨p,b,off,rfl,B⟩
 ·rw[p]at hs;have f:=zCN (P:=Tryz.prog) w 39 39 o.type 38 2 (some ⟨g,0,none⟩) x 8 8 kc A RY;unfold Oper.wp;simp[execOp,z,resolve,invoke,builtin,y,hs,f,Result.andThen];refine h _ _ ?_ (AC.refl _ _);show _=_;rw[t];have:B9 c=Aj (fun _=>0):=XB fun j _=>by unfold BC;rw[if_neg (by omega)]
  rw[this]
 ·rw[p]at hs;have f:=Z9 (P:=Tryz.prog) w 39 39 o.type 38 2 g 0 8 8 ⟨b,off,none⟩ 8 kc (Aj fun _=>0) 121 (B9 c).toList A RY t (by simp[B9,Aj]) (fun j v r=>by
   have n:j<16:=by
    have:=(List.getElem?_eq_some_iff.1 r).1;simpa[B9,D4]using this
   have e:(B9 c).toList[j]?=some (A0 (BC c j)):=(by rw[Array.getElem?_toList];exact EM (BC c) n);rw[e]at r;simp only[Option.some.injEq]at r;subst r;have l:(⟨b,off,none⟩:Addr).add j=⟨b,off+j,none⟩:=(by unfold Addr.add;split<;>simp_all);rw[l];unfold BC;rw[if_pos (by omega)];have m:=B (j / 2) (by omega);split
   ·rw[show off+j=off+j / 2*2 by omega];exact m.1
   ·rw[show off+j=off+j / 2*2+1 by omega];exact m.2) (by simp[B9,Aj]) (fun v hv=>(Array.all_eq_true_iff_forall_mem.1 (I7 _)) v (by simpa[B9]using hv))
  unfold Oper.wp;simp[execOp,z,resolve,invoke,builtin,y,hs,f,Result.andThen];refine h _ _ ?_ (AC.setRow _ _ _);show _=_;rw[setRow_heap w g _ _ 121 (0,0) t];have e0:((Aj fun _=>0).toList.drop 16) = []:=List.drop_eq_nil_of_le (by simp[Aj]);simp[B9,D4,e0]
theorem OO(z v1 A:Value)(lo hi:Nat)(s:AH)(w:World)(H:CU w lo hi z v1 A s)(t:s.kn=0\/s.kn=8) :
 Calls Tryz.prog 141 #[.agg #[z,v1,A]] w fun e w'=>e = .returned (.agg (B9 s))/\Below w.heap.size w w':=by
 obtain⟨rfl,⟨K,a,c,rfl,T,y⟩,rfl,L⟩:=H;unfold maxLen at K L;have B:Hid (0<s.kn->∃b off,a=some ⟨b,off,none⟩/\lo<=b/\b<hi/\∀i,i<s.kn->w.cell? ⟨b,off+i*2,none⟩=some (A0 (s.ks i))/\w.cell? ⟨b,off+i*2+1,none⟩=some (A0 (s.kb i))):=y;have F:Hid (s.kn=0\/s.kn=8):=t;clear y t;go_enter Tryz.func141,Tryz.ntmps141;go_wp2_with fail;obtain⟨W,n⟩:∃W:World,W=((w.alloc (.cells #[A0 s.birth,.slice a s.kn c,.string s.data] 94)).alloc (.cells #[Value.int .i64 0,Value.int .i64 0,Value.int .i64 0,Value.int .i64 0,Value.int .i64 0,Value.int .i64 0,Value.int .i64 0,Value.int .i64 0,Value.int .i64 0,Value.int .i64 0,Value.int .i64 0,Value.int .i64 0,Value.int .i64 0,Value.int .i64 0,Value.int .i64 0,Value.int .i64 0] 121)).alloc (.cells #[Value.int .i64 0,Value.int .i64 0,Value.int .i64 0,Value.int .i64 0,Value.int .i64 0,Value.int .i64 0,Value.int .i64 0,Value.int .i64 0,Value.int .i64 0,Value.int .i64 0,Value.int .i64 0,Value.int .i64 0,Value.int .i64 0,Value.int .i64 0,Value.int .i64 0,Value.int .i64 0] 121):=⟨_,rfl⟩;have x:(#[Value.int .i64 0,Value.int .i64 0,Value.int .i64 0,Value.int .i64 0,Value.int .i64 0,Value.int .i64 0,Value.int .i64 0,Value.int .i64 0,Value.int .i64 0,Value.int .i64 0,Value.int .i64 0,Value.int .i64 0,Value.int .i64 0,Value.int .i64 0,Value.int .i64 0,Value.int .i64 0]:Array Value)=Aj (fun _=>0):=rfl;have q:Below w.heap.size w W:=by rw[n];exact A9 (A9 (AB _ _) (AB _ _)) (AB _ _)
 have G:Hid (CZ W w.heap.size (A0 s.birth) (.slice a s.kn c) (.string s.data)):=by rw[n];exact((CZ.new w _ _ _ _).A1 (AB _ _)).A1 (AB _ _)
 have d:=YU w (.cells #[A0 s.birth,.slice a s.kn c,.string s.data] 94) (.cells #[Value.int .i64 0,Value.int .i64 0,Value.int .i64 0,Value.int .i64 0,Value.int .i64 0,Value.int .i64 0,Value.int .i64 0,Value.int .i64 0,Value.int .i64 0,Value.int .i64 0,Value.int .i64 0,Value.int .i64 0,Value.int .i64 0,Value.int .i64 0,Value.int .i64 0,Value.int .i64 0] 121) (.cells #[Value.int .i64 0,Value.int .i64 0,Value.int .i64 0,Value.int .i64 0,Value.int .i64 0,Value.int .i64 0,Value.int .i64 0,Value.int .i64 0,Value.int .i64 0,Value.int .i64 0,Value.int .i64 0,Value.int .i64 0,Value.int .i64 0,Value.int .i64 0,Value.int .i64 0,Value.int .i64 0] 121);rw[<-n]at d;have E:Hid (W.heap[w.heap.size+1]?=some (.cells (Aj fun _=>0) 121 (0,0))):=d.1;have D:Hid (W.heap[w.heap.size+1+1]?=some (.cells (Aj fun _=>0) 121 (0,0))):=d.2.1;have J:w.heap.size+1+1<W.heap.size:=d.2.2;clear d;have C:Hid (s.kn=0\/(s.kn=8/\∃b off,a=some ⟨b,off,none⟩/\∀i,i<s.kn->W.cell? ⟨b,off+i*2,none⟩=some (A0 (s.ks i))/\W.cell? ⟨b,off+i*2+1,none⟩=some (A0 (s.kb i)))):=by
  rcases F.out with h | h
  ·exact Or.inl h
  ·obtain⟨b,off,I,_,_,o⟩:=B.out (by omega);exact Or.inr ⟨h,b,off,I,fun i hi=>⟨(q.cell (AV (o i hi).1)).trans (o i hi).1,(q.cell (AV (o i hi).2)).trans (o i hi).2⟩⟩
 rw[<-n];clear n x;obtain⟨⟨M,N⟩,⟨O,Q⟩,⟨R,S⟩⟩:=G.out
 go_region_law (refine zCi rfl (.tmp 4) (.tmp 6) rfl (w.heap.size+1+1) a c s (by simp[Act.eval]) (by simp[Act.eval]) D.out C.out ?_;intro u cv p j)
 have m:u.heap[w.heap.size+1]?=some (.cells (Aj fun _=>0) 121 (0,0)):=(j.block _ (by show _<W.heap.size;omega) (by omega)).trans E.out;have l:Hid (u.heap[w.heap.size+1]?=some (.cells (Aj fun _=>0) 121 (0,0))):=m;have r:Below w.heap.size w u:=q.drew.trans (j.A1 (by show _<=W.heap.size;omega) (by intro k t;omega));clear m j M N O Q R S;have g:(Tryz.prog.info? 121).map (·.size)=some (B9 s).size:=by rw[B9,D4];exact GV
 have f:Hid ((Tryz.prog.info? 121).map (·.size)=some (B9 s).size):=g;clear g;go_wp2_with (first
  | (refine wpList_load_row rfl 121 (.tmp 3) rfl (w.heap.size+1+1) rfl 121 (B9 s) (0,0) _ p.out FP rfl f.out ?_)
  | (refine wpList_store_row rfl 121 (.tmp 2) (.tmp 8) rfl (w.heap.size+1) (B9 s) rfl rfl 121 (Aj fun _=>0) l.out f.out (by rw[B9,D4,D4]) (I7 _) ?_))
 refine bodyPost_ret (v:=.agg (B9 s)) (results_cell_row (P:=Tryz.prog) (ty:=121) Tryz.results141 _ _ (w.heap.size+1) 121 (B9 s) (0,0) _ rfl (setRow_heap _ _ _ _ _ _ l.out) FP rfl f.out) rfl ⟨rfl,?_⟩;exact below_setRow r (by omega) _
def Fh(n:Nat)(f:Nat->AH)(b ks kb rs rb:Int):Prop:=
 ∃ps pb,Dw n f ks ps pb/\(((JP ks kb 0 0\/b<pb)/\rs=0/\rb=0)\/(¬(JP ks kb 0 0\/b<pb)/\rs=ps/\rb=pb))
theorem zCG(v:Value)(n lo hi:Nat)(f:Nat->AH)(g k b:Int)(w:World)(C:CL w lo hi v n f) :
 Calls Tryz.prog 190 #[v,.agg #[A0 g,A0 k],A0 b] w fun e w'=>(∃rs rb,e = .returned (.agg #[A0 rs,A0 rb])/\Fh n f b g k rs rb)/\Below w.heap.size w w':=by
 have F:Hid (CL w lo hi v n f):=C;obtain⟨M,a,c,rfl,N,I⟩:=C;clear I;have t:Hid (Below w.heap.size w ((w.alloc (.cells #[A0 g,A0 k] 38)).alloc (.cells #[A0 0,A0 0] 38))):=A9 (AB _ _) (AB _ _);go_enter Tryz.func190,Tryz.ntmps190;go_wp2_with fail;refine(OJ _ n lo hi f _ _ (F.out.A1 t.out)).mono ?_;rintro e r ⟨⟨ps,i,rfl,D⟩,l⟩;have y:Hid (Dw n f g ps i):=D;have A:Hid (Ad r w.heap.size (A0 g) (A0 k)):=((Ad.new w _ _ _).A1 (AB _ _)).A1 l;have x:Hid (Ad r (w.heap.size+1) (A0 0) (A0 0)):=by
  have:=(Ad.new (w.alloc (.cells #[A0 g,A0 k] 38)) (A0 0) (A0 0) 38).A1 l;rw[World.size_alloc]at this;exact this
 have z:=A9 t.out l;have L:w.heap.size<r.heap.size:=A.out.1.lt;have K:w.heap.size+1<r.heap.size:=x.out.1.lt;clear D l;obtain⟨⟨O,P⟩,⟨Q,R⟩⟩:=A.out;obtain⟨⟨S,T⟩,⟨U,V⟩⟩:=x.out;have B:=fun p q=>(x.out.put p q).A1 (AB _ (.cells #[A0 ps,A0 i] 38))
 have o:Hid (∀p q,Ad (((r.setCell ⟨w.heap.size+1,0,none⟩ p).setCell ⟨w.heap.size+1,1,none⟩ q).alloc (.cells #[A0 ps,A0 i] 38)) (w.heap.size+1) p q):=B;clear B;have m:Hid (∀p q,Below w.heap.size w (((r.setCell ⟨w.heap.size+1,0,none⟩ p).setCell ⟨w.heap.size+1,1,none⟩ q).alloc (.cells #[A0 ps,A0 i] 38))):=fun p q=>((z.setCell (by show _<=w.heap.size+1;omega) _).setCell (by show _<=w.heap.size+1;omega) _).alloc (by simp;omega) _
 by_cases d:JP g k 0 0
 ·obtain⟨rfl,rfl⟩:=d;have s:Hid (Fh n f b 0 0 0 0):=⟨ps,i,y.out,Or.inl ⟨Or.inl ⟨rfl,rfl⟩,rfl,rfl⟩⟩;go_wp2;have j:=o.out (A0 0) (A0 0);refine bodyPost_ret (v:=.agg #[A0 0,A0 0]) (by simp[results,Tryz.results190,go_sem,j.1.1,j.2.1]) rfl ⟨⟨_,_,rfl,s.out⟩,m.out _ _⟩
 ·have E:Hid (¬JP g k 0 0):=d;have e0:(g == 0)=false\/(g == 0)=true/\(k == 0)=false:=by
   by_cases h:g=0
   ·right;refine⟨by simp[h],?_⟩;have:k≠0:=fun J=>d ⟨h,J⟩
    simp[this]
   ·left;simp[h]
  clear d;by_cases u:b<i
  ·have s:Hid (Fh n f b g k 0 0):=⟨ps,i,y.out,Or.inl ⟨Or.inr u,rfl,rfl⟩⟩;have j:=o.out (A0 0) (A0 0);have G:Hid (Ad (((r.setCell ⟨w.heap.size+1,0,none⟩ (A0 0)).setCell ⟨w.heap.size+1,1,none⟩ (A0 0)).alloc (.cells #[A0 ps,A0 i] 38)) (w.heap.size+1) (A0 0) (A0 0)):=j;clear j;rcases e0 with e0 | ⟨e0,H⟩
   all_goals
    go_wp2;have j:=G.out;refine bodyPost_ret (v:=.agg #[A0 0,A0 0]) (by simp[results,Tryz.results190,go_sem,j.1.1,j.2.1]) rfl ⟨⟨_,_,rfl,s.out⟩,m.out _ _⟩
  ·have s:Hid (Fh n f b g k ps i):=⟨ps,i,y.out,Or.inr ⟨fun h=>by rcases h with h | h;exact E.out h;exact u h,rfl,rfl⟩⟩;rcases e0 with e0 | ⟨e0,H⟩
   all_goals
    go_wp2;have j:=o.out (A0 ps) (A0 i);refine bodyPost_ret (v:=.agg #[A0 ps,A0 i]) (by simp[results,Tryz.results190,go_sem,j.1.1,j.2.1]) rfl ⟨⟨_,_,rfl,s.out⟩,m.out _ _⟩
end Go.Proofs.YtddigaohmfpepaaGreatDoor
