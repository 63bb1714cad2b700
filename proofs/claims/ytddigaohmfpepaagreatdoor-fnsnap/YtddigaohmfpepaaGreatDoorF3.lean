/- A part of the proof. -/
import Derived.Test.YtddigaohmfpepaaGreatDoorF2
import Derived.Laws.BytesArg
set_option linter.unusedVariables false
set_option maxRecDepth 20000
set_option maxHeartbeats 4000000
namespace Go.Proofs.YtddigaohmfpepaaGreatDoor
open Go.RowKit
def pmC:Nat->List Cv->List (Nat×Nat)
 | _,[]=>[]
 | n,.h r :: l=>(r,rid 0 n) :: pmC (n+1) l
 | n,_ :: l=>pmC (n+1) l
def vT(ob:List (Nat×Ob)):Cv->Option Tr
 | .v x=>some (.v x)
 | .s .b k n f=>some (.s .b k n f)
 | .s _ k n f=>some (.s .z k n f)
 | .h r=>match get ob r with
  | some (.row k n f)=>some (.s .o k n f)
  | _=>none
 | _=>none
def varT(ob:List (Nat×Ob)):List Cv->Option (List Tr)
 | []=>some []
 | x :: l=>match vT ob x,varT ob l with
  | some T,some m=>some (T :: m)
  | _,_=>none
def Dd:Nat->List Tr->List (Nat×Ob)
 | _,[]=>[]
 | n,.s .o k m f :: l=>(rid 0 n,.row k m f) :: Dd (n+1) l
 | n,_ :: l=>Dd (n+1) l
def Fr(vs:List Tr):List (Nat×Ob):=(0,.var (DB 0 0 vs)) :: Dd 0 vs
def yZ(w':World)(g:Nat->Bs)(B:Nat)(rs:List (Bool×List Tr))(v:Value):Prop:=
 ∃(cs:List Value) (T:TypeId) (ys:List Value),w'.heap[B]?=some (.cells cs.toArray T (0,0))/\g B = .ow (.nm 0) 0/\JQ w' g 1 rs (.agg cs.toArray :: ys)/\match rs with
  | [_,_]=>ys = [v]
  | _=>v = .tuple ys.toArray
def KX(P:Program)(f:Nat)(sp:AL)(w:World):Prop:=
 ∀vs ags c rs,sp ((true,vs) :: ags)=some (c,rs)->c->∀(E:En) (ys:List Value),AU w E (Fr vs)->AR (FL w E.g) ags ys->
  Calls P f (.pointer (some ⟨E.bl 0,0,none⟩) :: ys).toArray w fun e w'=>∃v g,e = .returned v/\Kp w E.g w' g/\yZ w' g (E.bl 0) rs v
def DK(P:Program)(f:Nat)(sp:AL):Prop:=∀w,KX P f sp w
def Nr(P:Program)(f:Nat)(sp:AL)(w:World):Prop:=
 ∀ags c cells,sp ags=some (c,[(true,cells)])->c->∀(g0:Nat->Bs) (ys:List Value),(∀b,∃r,g0 b = .fz r)->AR (FL w g0) ags ys->
  Calls P f ys.toArray w fun e w'=>∃B g,e = .returned (.pointer (some ⟨B,0,none⟩))/\Kp w g0 w' g/\∃(cs:List Value) (T:TypeId),w'.heap[B]?=some (.cells cs.toArray T (0,0))/\g B = .ow (.nm 0) 0/\JQ w' g 1 [(true,cells)] [.agg cs.toArray]
def N7(P:Program)(f:Nat)(sp:AL):Prop:=∀w,Nr P f sp w
def CX(ob:List (Nat×Ob)):List (Nat×Nat)->List (Nat×Ob)
 | []=>ob
 | p :: l=>CX (put ob p.1 .dead) l
theorem I9{j:Nat}:∀{pm:List (Nat×Nat)} {ob:List (Nat×Ob)},get (CX ob pm) j=if j∈pm.map (·.1)then some .dead else get ob j
 | [],ob=>by simp[CX]
 | p :: l,ob=>by
  simp only[CX];rw[I9];simp only[List.map_cons,List.mem_cons,BD];by_cases h:j∈l.map (·.1)
  ·simp[h]
  ·by_cases a:p.1=j
   ·simp[a]
   ·rw[if_neg h,if_neg a,if_neg (fun e=>e.elim (fun e=>a e.symm) h)]
def gP(pm:List (Nat×Nat))(g:Nat->Bs)(b:Nat):Bs:=
 match g b with
 | .fz r=>.fz r
 | .ow (.nm x) l=>match get pm x with
  | some y=>.ow (.nm y) l
  | none=>.fz (some l)
 | .ow (.tl B c) l=>match g B with
  | .ow (.nm x) _=>match get pm x with
   | some _=>.ow (.tl B c) l
   | none=>.fz (some l)
  | _=>.fz (some l)
def Bs.isFz:Bs->Bool
 | .fz _=>true
 | _=>false
theorem Ly(a:List (Nat×Nat))(g:Nat->Bs)(b:Nat):(∃r,g b = .fz r/\gP a g b = .fz r)\/(∃o l,g b = .ow o l/\gP a g b = .fz (some l))\/(∃o o' l,g b = .ow o l/\gP a g b = .ow o' l):=by
 unfold gP;cases hg:g b with
 | fz r=>exact .inl ⟨r,rfl,rfl⟩
 | ow o l=>
  refine .inr ?_;cases o with
  | nm x=>
   dsimp only;split
   ·exact .inr ⟨_,_,l,rfl,rfl⟩
   ·exact .inl ⟨_,l,rfl,rfl⟩
  | tl B c=>
   dsimp only;split
   ·split
    ·exact .inr ⟨_,_,l,rfl,rfl⟩
    ·exact .inl ⟨_,l,rfl,rfl⟩
   ·exact .inl ⟨_,l,rfl,rfl⟩
variable{pm:List (Nat×Nat)}{g:Nat->Bs}{b:Nat}
theorem KD{fl:Fl}{e:Nat}(h:(g b).ok fl e):(gP pm g b).ok fl e:=by
 rcases Ly pm g b with⟨r,a,c⟩ | ⟨o,l,a,c⟩ | ⟨o,o',l,a,c⟩
 ·rw[c,<-a];exact h
 ·rw[a]at h;rw[c];exact .inr fun l' d=>by cases d;exact h
 ·rw[a]at h;rw[c];exact h
variable{j l:Nat}
theorem NE(h:g b = .ow (.nm j) l)(a:get pm j=none):gP pm g b = .fz (some l):=by
 unfold gP;rw[h];dsimp only;rw[a]
theorem PX{y:Nat}(h:g b = .ow (.nm j) l)(a:get pm j=some y):gP pm g b = .ow (.nm y) l:=by
 unfold gP;rw[h];dsimp only;rw[a]
variable{B:Nat}
theorem Mu{c q:Nat}(h:g b = .ow (.tl B c) l)(a:g B = .ow (.nm j) q):gP pm g b=match get pm j with | some _=>.ow (.tl B c) l | none=>.fz (some l):=by
 unfold gP;rw[h];dsimp only;rw[a]
def Bs.rnP(d i:Nat):Bs->Bs
 | .ow (.nm j) l=>.ow (.nm (if j=0 then i else rid d j)) l
 | s=>s
variable{d i:Nat}
theorem Bs.rnP_ok{s:Bs}{fl:Fl}{e:Nat}(h:s.ok fl e):(s.rnP d i).ok fl e:=by
 cases s with
 | fz r=>exact h
 | ow o l=>cases o<;>exact h
theorem Oe(h:j∉pm.map (·.1)):get pm j=none:=by
 cases hg:get pm j with
 | none=>rfl
 | some y=>exact absurd (List.mem_map.2 ⟨_,Lc hg,rfl⟩) h
def swp(pm:List (Nat×Nat)):List (Nat×Nat):=pm.map fun p=>(p.2,p.1)
theorem KN{x y:Nat}(hn:E8 (pm.map (·.2))=true)(h:(x,y)∈pm):get (swp pm) y=some x:=by
 refine J4 ?_ (List.mem_map.2 ⟨(x,y),h,rfl⟩);rw[swp,List.map_map];exact hn
theorem Qd{ob:List (Nat×Ob)}{j:Nat}{o:Ob}:∀{l:List Cv} {vs:List Tr} {n:Nat},varT ob l=some vs->get (Dd n vs) j=some o->∃r k m f,(r,j)∈pmC n l/\get ob r=some (.row k m f)/\o = .row k m f
 | [],vs,n,h,a=>by cases h;cases a
 | x :: l,vs,n,h,a=>by
  simp only[varT]at h;split at h
  ·rename_i T m hT hm
   cases h;have rest:get (Dd (n+1) m) j=some o->∃r k m f,(r,j)∈pmC n (x :: l)/\get ob r=some (.row k m f)/\o = .row k m f:=fun a=>by
    obtain⟨r,k,q,f,d,g⟩:=Qd hm a;refine⟨r,k,q,f,?_,g⟩;cases x<;>first | exact d | exact List.mem_cons_of_mem _ d
   cases T with
   | v y=>exact rest a
   | s fl k q f=>
    cases fl with
    | b=>exact rest a
    | z=>exact rest a
    | o=>
     simp only[Dd,get]at a;split at a
     ·rename_i e
      subst e;cases a;cases x<;>simp only[vT]at hT<;>try (cases hT;done)
      ·rename_i c i n' f'
       cases c<;>cases hT
      ·rename_i r
       split at hT
       ·rename_i i n' f' hr
        cases hT;exact⟨r,_,_,_,List.mem_cons_self ..,hr,rfl⟩
       ·cases hT
     ·exact rest a
  ·cases h
theorem Kn{ob:List (Nat×Ob)}{r j:Nat}:∀{l:List Cv} {vs:List Tr} {n:Nat},varT ob l=some vs->(r,j)∈pmC n l->dom (Dd n vs) j/\∃k m f,get ob r=some (.row k m f)
 | [],vs,n,h,a=>by cases a
 | x :: l,vs,n,h,a=>by
  simp only[varT]at h;split at h
  ·rename_i T m hT hmm
   cases h;have g:dom (Dd (n+1) m) j->dom (Dd n (T :: m)) j:=fun h=>by
    cases T with
    | v y=>exact h
    | s fl k q f=>
     cases fl with
     | b=>exact h
     | z=>exact h
     | o=>
      unfold dom at *;simp only[Dd,get];split
      ·rfl
      ·exact h
   cases x with
   | h r'=>
    simp only[vT]at hT;split at hT
    ·rename_i i n' f' hr
     cases hT;rcases List.mem_cons.1 a with e | a
     ·cases e;exact⟨by unfold dom;simp only[Dd,get,if_pos];rfl,_,_,_,hr⟩
     ·obtain⟨c,d⟩:=Kn hmm a;exact⟨g c,d⟩
    ·cases hT
   | _=>
    obtain⟨c,d⟩:=Kn hmm a;exact⟨g c,d⟩
  ·cases h
theorem QZ{w:World}{E E0:En}{D D0:Nat->Prop}{ob:List (Nat×Ob)}(a:∀b fl e,(E.g b).ok fl e->(E0.g b).ok fl e):∀{l:List Cv} {vs:List Tr} {n:Nat} {cs:List Value},varT ob l=some vs->(∀p∈pmC n l,E0.hv p.2=E.hv p.1/\D0 p.2)->CsR w E D l cs->CsR w E0 D0 (DB 0 n vs) cs
 | [],vs,n,cs,h,hp,hc=>by cases h;cases hc;exact AR.nil
 | x :: l,vs,n,cs,h,hp,hc=>by
  simp only[varT]at h;split at h
  ·rename_i T m hT hm
   cases h;cases hc with
   | cons h1 t=>
    have c:∀p∈pmC (n+1) l,E0.hv p.2=E.hv p.1/\D0 p.2:=fun p c=>hp p (by cases x<;>first | exact c | exact List.mem_cons_of_mem _ c)
    refine AR.cons ?_ (QZ a hm c t);cases x with
    | v x=>cases hT;exact h1
    | s fl k q f=>
     cases fl with
     | b=>cases hT;exact Sh.okm a h1
     | z=>cases hT;exact Sh.okm a h1
     | o=>cases hT;exact Sh.okm a (Sh.cv (D:=D) (T:=.s .o k q f) h1)
    | h r=>
     simp only[vT]at hT;split at hT
     ·cases hT;obtain⟨e,d⟩:=hp (r,rid 0 n) (List.mem_cons_self ..);exact⟨d,by rw[e];exact h1.2.1,h1.2.2⟩
     ·cases hT
    | _=>cases hT
  ·cases h
variable{w:World}{E:En}{ob:List (Nat×Ob)}{cl:List Cv}{vs:List Tr}
theorem zI8(J:AU w E ob)(hi:get ob i=some (.var cl))(hv:varT ob cl=some vs)(hn:E8 (((i,0) :: pmC 0 cl).map (·.1))=true)(n:E8 (((i,0) :: pmC 0 cl).map (·.2))=true) :
 ∃C,C.g=gP ((i,0) :: pmC 0 cl) E.g/\C.bl 0=E.bl i/\AU w C (Fr vs):=by
 obtain⟨c,t⟩:∃c,c=(i,0) :: pmC 0 cl:=⟨_,rfl⟩;rw[<-t]at hn n ⊢;have l:∀p∈pmC 0 cl,p∈c:=fun p v=>by rw[t];exact List.mem_cons_of_mem _ v
 have d:(i,0)∈c:=by rw[t];exact List.mem_cons_self ..
 refine⟨⟨gP c E.g,fun j=>E.bl ((get (swp c) j).getD 0),fun j=>E.hv ((get (swp c) j).getD 0)⟩,rfl,by simp[KN n d],fun j o A=>?_⟩;unfold Fr at A;simp only[get]at A;split at A
 ·rename_i e
  subst e;cases A;obtain⟨B,cs,T,F,D⟩:=J i _ hi;have e0:(get (swp c) 0).getD 0=i:=(by rw[KN n d];rfl);refine⟨?_,cs,T,?_,?_⟩
  ·show gP c E.g (E.bl ((get (swp c) 0).getD 0))=_;rw[e0];exact PX B (J4 hn d)
  ·show w.heap[E.bl ((get (swp c) 0).getD 0)]?=_;rw[e0];exact F
  ·refine QZ (fun b fl e h=>KD h) hv (fun p v=>?_) D;obtain⟨x,y⟩:=p;refine⟨?_,?_⟩
   ·show E.hv ((get (swp c) y).getD 0)=E.hv x;rw[KN n (l _ v)];rfl
   ·have:=(Kn hv v).1;unfold dom at *;simp only[Fr,get];split
    ·rfl
    ·exact this
 ·obtain⟨r,k,m,f,I,L,rfl⟩:=Qd hv A;have e0:(get (swp c) j).getD 0=r:=(by rw[KN n (l _ I)];rfl);obtain⟨a,cap,H,G,O⟩:=J r _ L;refine⟨a,cap,?_,G,fun K=>?_⟩
  ·show E.hv ((get (swp c) j).getD 0)=_;rw[e0];exact H
  ·obtain⟨M,B,cs,T,F,P,s⟩:=O K;have z:=J4 hn (l _ I);refine⟨?_,?_,cs,T,?_,P,fun p q v Q=>?_⟩
   ·show a=some ⟨E.bl ((get (swp c) j).getD 0),0,none⟩;rw[e0];exact M
   ·show gP c E.g (E.bl ((get (swp c) j).getD 0))=_;rw[e0];exact PX B z
   ·show w.heap[E.bl ((get (swp c) j).getD 0)]?=_;rw[e0];exact F
   ·obtain⟨u,S,hs,R⟩:=s p q v Q;refine⟨u,S,Sh.okm (fun b fl e h=>KD h) hs,?_⟩;show CM w (gP c E.g) (E.bl ((get (swp c) j).getD 0)) _ _ _;rw[e0];refine R.ext (fun b U N _=>⟨rfl,?_⟩);rw[Mu N B,z]
def evCallP(keep:Bool)(sp:AL)(d i:Nat)(ob:List (Nat×Ob))(l:List Av):Option Dl:=
 match get (CI keep l ob).2 i with
 | some (.var cl)=>match varT (CI keep l ob).2 cl,IW keep (CX (CI keep l ob).2 ((i,0) :: pmC 0 cl)) (CI keep l ob).1 with
  | some vs,some ags=>if E8 (((i,0) :: pmC 0 cl).map (·.1))=true/\E8 (((i,0) :: pmC 0 cl).map (·.2))=true then
    match sp ((true,vs) :: ags)with
    | some (c,(true,v0) :: rs)=>match Ea d 1 (CX (CI keep l ob).2 ((i,0) :: pmC 0 cl)) ((true,v0) :: rs)with
     | some ob'=>if tot ((true,v0) :: rs)<=38 then some ⟨c,some (match rs with
      | [q]=>.m q.1 (DB d (1+v0.length) q.2)
      | _=>.t (JT d (1+v0.length) rs)),put ob' i (.var (DB d 1 v0)),true⟩else none
     | none=>none
    | _=>none
   else none
  | _,_=>none
 | _=>none
variable{P:Program}{f:Nat}{sp:AL}{l:List Av}{ys:List Value}
theorem Y3(hs:KX P f sp w){keep:Bool}(ho:AU w E ob){D:Dl}(F:evCallP keep sp d i ob l=some D)(hc:D.c){x:Value}(hx:AvR w E (dom ob) (.m false [.p i 0]) x)(hy:AR (AvR w E (dom ob)) l ys) :
 Calls P f (x :: ys).toArray w fun e w'=>∃v L,e = .returned v/\AX (dom ob) w E w' L/\(∀j,dom ob j->dom D.ob j)/\AU w' L D.ob/\∃av,D.av=some av/\AvR w' L (dom D.ob) av v:=by
 unfold evCallP at F;obtain⟨C,x1,V,a1,d1⟩:=PV (keep:=keep) ho hy;generalize (CI keep l ob).2=obf at *;generalize (CI keep l ob).1=l1 at *;have kC:AvR w C (dom obf) (.m false [.p i 0]) x:=hx.ext x1 (fun j A=>(d1 j).1 A);obtain⟨lA,rfl⟩:=vl1 kC;split at F
 ·rename_i cl hi
  split at F
  ·rename_i vs ags hvs has
   split at F
   ·rename_i fC
    obtain⟨hn,dC⟩:=fC;split at F
    ·rename_i c v0 rs hsp
     split at F
     ·rename_i ob' hob
      split at F
      case isFalse=>cases F
      cases F;obtain⟨E0,e0,nB,oi⟩:=zI8 V hi hvs hn dC;have bC:i∈((i,0) :: pmC 0 cl).map (·.1):=(by simp);have aC:∀j,j∈((i,0) :: pmC 0 cl).map (·.1)->dom obf j:=fun j A=>by
       simp only[List.map_cons,List.mem_cons,List.mem_map]at A;rcases A with rfl | ⟨⟨r,y⟩,hp,rfl⟩
       ·exact lA
       ·obtain⟨-,k,m,f,h⟩:=Kn hvs hp;unfold dom;rw[h];rfl
      obtain⟨g00,oA,-⟩:=V i _ hi;have gD:C.g (C.bl i) = .ow (.nm i) 0:=(V i _ hi).1;clear g00 oA;have cC:(i,0)∈(i,0) :: pmC 0 cl:=List.mem_cons_self ..;generalize jD:(i,0) :: pmC 0 cl=pm at *;have M:∀j,dom obf j↔dom (CX obf pm) j:=fun j=>by
       unfold dom;rw[I9];split
       ·rename_i h
        have:=aC j h;unfold dom at this;simp[this]
       ·exact Iff.rfl
      have o2:AU w C (CX obf pm):=fun j o A=>by
       rw[I9]at A;split at A
       ·cases A;trivial
       ·exact ObR.ext (AX.refl _ _ _) (fun j A=>(M j).1 A) (by unfold dom;rw[A];rfl) (X:=fun _=>False) (fun _ _ _=>⟨rfl,rfl⟩) (fun _ _ x=>x.elim) (fun _ _ _ _ x=>x.elim) (V j o A)
      have a2:AR (AvR w C (dom (CX obf pm))) l1 ys:=by
       have cA:∀{l:List Av} {us:List Value},AR (AvR w C (dom obf)) l us->AR (AvR w C (dom (CX obf pm))) l us:=fun {l us} h=>by
        induction h with
        | nil=>exact .nil
        | cons h _ ih=>exact .cons (h.ext (AX.refl _ _ _) (fun j A=>(M j).1 A)) ih
       exact cA a1
      have aA:Ou C (CX obf pm) E0.g:=by
       rw[e0];refine⟨fun b fl e h=>KD h,fun j q hq b l G=>?_⟩;have A:j∉pm.map (·.1):=fun h=>by
        unfold rowE at hq;rw[I9,if_pos h]at hq;cases hq
       exact⟨_,NE G (Oe A)⟩
      have Q:=hs vs ags c _ hsp hc E0 ys oi (Nu aA o2 has a2);rw[nB]at Q;refine Q.mono ?_;rintro e w' ⟨v,g,rfl,Z,cs,T,oC,pB,fA,jC,hv⟩;rw[e0]at Z;have hA:∀b,b<w.heap.size->(gP pm C.g b).isFz=true->g b=gP pm C.g b/\w'.heap[b]?=w.heap[b]?:=fun b G N=>by
       cases hg:gP pm C.g b with
       | fz r=>obtain⟨k1,U⟩:=Z.fz b r hg G;exact⟨U,k1⟩
       | ow o l=>rw[hg]at N;cases N
      obtain⟨ge,pA⟩:∃ge:Nat->Bs,ge=fun b=>if b<w.heap.size/\(gP pm C.g b).isFz=true then C.g b else(g b).rnP d i:=⟨_,rfl⟩
      have gA:∀b,b<w.heap.size->(gP pm C.g b).isFz=true->ge b=C.g b:=fun b H I=>by rw[pA];exact if_pos ⟨H,I⟩
      have gB:∀b,¬(b<w.heap.size/\(gP pm C.g b).isFz=true)->ge b=(g b).rnP d i:=fun b h=>by rw[pA];exact if_neg h
      have tA:Kp w C.g w' ge:=by
       refine⟨Z.os,Z.tape,Z.output,Z.size,fun b r G S=>?_,fun b o K G S=>?_⟩
       ·have N:(gP pm C.g b).isFz=true:=by
         unfold gP;rw[G];rfl
        exact⟨(hA b S N).2,by rw[gA b S N];exact G⟩
       ·rcases Ly pm C.g b with⟨r,H,I⟩ | ⟨V,l,H,I⟩ | ⟨V,mC,l,H,I⟩
        ·rw[G]at H;cases H
        ·have N:(gP pm C.g b).isFz=true:=(by rw[I];rfl);exact⟨fun j _=>World.cell?_of_block (w:=w) (hA b S N).2,.inl ⟨o,K,by rw[gA b S N];exact G,Nat.le_refl _⟩⟩
        ·rw[G]at H;cases H;obtain⟨k1,U⟩:=Z.ow b _ _ I S;have O:=gB b (fun h=>by rw[I]at h;cases h.2);refine⟨k1,?_⟩;rcases U with⟨o2,l2,U,k3⟩ | U
         ·refine .inl ?_;rw[O,U];cases o2 with
          | nm j=>exact⟨_,l2,rfl,k3⟩
          | tl B c=>exact⟨_,l2,rfl,k3⟩
         ·refine .inr ?_;rw[O,U];rfl
      have aB:∀b fl e,fl≠.b->(g b).ok fl e->(ge b).ok fl e:=fun b fl e N h=>by
       by_cases G:b<w.heap.size/\(gP pm C.g b).isFz=true
       ·rw[gA b G.1 G.2];rw[(hA b G.1 G.2).1]at h;rcases Ly pm C.g b with⟨r,H,I⟩ | ⟨V,l,H,I⟩ | ⟨V,mC,l,H,I⟩
        ·rw[H,<-I];exact h
        ·rw[I]at h;rw[H];exact(h.resolve_left N) l rfl
        ·rw[I]at h;rw[H];exact h
       ·rw[gB b G];exact Bs.rnP_ok h
      have bA:∀b o K,g b = .ow o K->ge b=(g b).rnP d i:=fun b o K G=>gB b (fun h=>by
       have H:=(hA b h.1 h.2).1;rw[G]at H;rw[<-H]at h;cases h.2)
      have lC:AX (dom (CX obf pm)) w C w' ⟨ge,C.bl,C.hv⟩:=⟨tA,fun _ _=>rfl,fun _ _=>rfl⟩;have vA:AU w' ⟨ge,C.bl,C.hv⟩ (CX obf pm):=fun j o A=>by
       by_cases rA:j∈pm.map (·.1)
       ·rw[I9,if_pos rA]at A;cases A;trivial
       ·have sA:=Oe rA;refine ObR.ext lC (fun _ h=>h) (by unfold dom;rw[A];rfl) (X:=fun b=>¬(gP pm C.g b).isFz=true) (fun b G eC=>?_) (fun b K G O=>?_) (fun vB b j' K G O=>?_) (o2 j o A)
        ·have N:=Classical.not_not.1 eC;exact⟨(hA b G N).2,gA b G N⟩
        ·rw[NE O sA]at G;exact G rfl
        ·rw[Mu O vB,sA]at G;exact G rfl
      obtain⟨L,e1,x2,o3,c1⟩:=Lx (d:=d) (E:=⟨ge,C.bl,C.hv⟩) (fun j T u A h=>by
       cases T with
       | v x=>exact h
       | s fl k n f=>
        cases fl with
        | b=>exact h.elim
        | z=>exact h.1.gn aB h.2
        | o=>
         obtain⟨a,cap,e,hn,kA⟩:=h;refine⟨a,cap,e,hn,fun bB=>?_⟩;obtain⟨b,ha,hg,cs,t,Y,S,W⟩:=kA bB;refine⟨b,ha,?_,cs,t,Y,S,fun p q hp hq=>?_⟩
         ·show ge b=_;rw[bA b _ _ hg,hg];simp only[Bs.rnP];rw[if_neg (by omega)]
         ·obtain⟨u,hu,H,I,h3⟩:=W p q hp hq;refine⟨u,hu,H.gn aB I,h3.ext (fun b' K iA _=>⟨rfl,?_⟩)⟩;show ge b'=_;rw[bA b' _ _ iA,iA];rfl) vA hob jC
      have sB:∀j,dom obf j->dom ob' j:=fun j A=>Kt hob ((M j).1 A)
      cases c1 with
      | @cons _ u0 _ us H ht=>
       obtain⟨lB,R,Y⟩:=H;have R:cs=lB:=by
        simp only[Value.agg.injEq]at R;exact congrArg Array.toList R
       subst R;have mA:dom (CX obf pm) i:=(M i).1 lA;have jA:L.bl i=C.bl i:=x2.bl i mA;have rB:L.g (L.bl i) = .ow (.nm i) 0:=by
        rw[e1,jA];show ge (C.bl i)=_;rw[bA _ _ _ fA,fA];rfl
       have hD:∀j,dom ob' j->dom (put ob' i (.var (DB d 1 v0))) j:=fun j A=>BT A
       have hfin:AU w' L (put ob' i (.var (DB d 1 v0))):=fun j o A=>by
        rw[BD]at A;by_cases e:i=j
        ·rw[if_pos e]at A;cases A;subst e;exact⟨rB,cs,T,by rw[jA];exact pB,CsR.ext (AX.refl _ _ _) hD Y⟩
        ·rw[if_neg e]at A;exact ObR.ext (AX.refl _ _ _) hD (by unfold dom;rw[A];rfl) (X:=fun _=>False) (fun _ _ _=>⟨rfl,rfl⟩) (fun _ _ x=>x.elim) (fun _ _ _ _ x=>x.elim) (o3 j o A)
       have tB:AX (dom ob) w E w' L:=x1.trans ⟨by rw[e1];exact tA,fun j A=>x2.bl j ((M j).1 A),fun j A=>x2.hv j ((M j).1 A)⟩ (fun j A=>(d1 j).1 A);refine⟨v,L,rfl,tB,fun j A=>hD j (sB j ((d1 j).1 A)),hfin,_,rfl,?_⟩;have J:AR (fun (q:Bool×List Cv) u=>VlR w' L (dom (put ob' i (.var (DB d 1 v0)))) q.1 q.2 u) (JT d (1+v0.length) rs) oC:=by
        have dA:∀{l:List (Bool×List Cv)} {us:List Value},AR (fun (q:Bool×List Cv) u=>VlR w' L (dom ob') q.1 q.2 u) l us->AR (fun (q:Bool×List Cv) u=>VlR w' L (dom (put ob' i (.var (DB d 1 v0)))) q.1 q.2 u) l us:=fun {l us} h=>by
         induction h with
         | nil=>exact .nil
         | cons h _ ih=>exact .cons (h.ext (AX.refl _ _ _) hD) ih
        exact dA ht
       match rs,hv,J with
       | [q],hv,J=>
        cases hv;cases J with
        | cons k1 U=>exact k1
       | [],hv,J=>exact⟨_,hv,J⟩
       | q1 :: q2 :: r,hv,J=>exact⟨_,hv,J⟩
     ·cases F
    ·cases F
   ·cases F
  ·cases F
 ·cases F
def evCallN(sp:AL)(d:Nat)(ob:List (Nat×Ob))(l:List Av):Option Dl:=
 match IW true (CI true l ob).2 (CI true l ob).1 with
 | some ags=>match sp ags with
  | some (c,[(true,v0)])=>match Ea d 1 (CI true l ob).2 [(true,v0)] with
   | some ob'=>match get ob' d with
    | none=>if v0.length<=38 then some ⟨c,some (.m false [.p d 0]),put ob' d (.var (DB d 1 v0)),true⟩else none
    | some _=>none
   | none=>none
  | _=>none
 | none=>none
theorem zAa(hs:Nr P f sp w)(ho:AU w E ob){D:Dl}(m:evCallN sp d ob l=some D)(hc:D.c)(hy:AR (AvR w E (dom ob)) l ys) :
 Calls P f ys.toArray w fun e w'=>∃v G,e = .returned v/\AX (dom ob) w E w' G/\(∀j,dom ob j->dom D.ob j)/\AU w' G D.ob/\∃av,D.av=some av/\AvR w' G (dom D.ob) av v:=by
 unfold evCallN at m;obtain⟨A,x1,o1,a1,d1⟩:=PV (keep:=true) ho hy;generalize (CI true l ob).2=ob1 at *;generalize (CI true l ob).1=l1 at *;split at m
 ·rename_i bA has
  split at m
  ·rename_i c v0 hsp
   split at m
   ·rename_i ob' hob
    split at m
    case h_2=>cases m
    rename_i gA
    split at m
    case isFalse=>cases m
    cases m;refine(hs bA c _ hsp hc (gC A.g) ys (IZ _) (Nu ⟨fun b fl e h=>qh h,fun _ _ _ b _ _=>IZ _ b⟩ o1 has a1)).mono ?_;rintro e w' ⟨B,g,rfl,V,cs,T,eA,O,jA⟩;have N:∀b,b<w.heap.size->g b=gC A.g b/\w'.heap[b]?=w.heap[b]?:=fun b C=>by
     obtain⟨r,hr⟩:=IZ A.g b;obtain⟨k1,k2⟩:=V.fz b r hr C;exact⟨k2.trans hr.symm,k1⟩
    have W:Kp w A.g w' (fun b=>if b<w.heap.size then A.g b else(g b).rnP d d):=by
     refine⟨V.os,V.tape,V.output,V.size,fun b r C K=>⟨(N b K).2,by rw[if_pos K];exact C⟩,fun b o F C K=>⟨fun j _=>World.cell?_of_block (w:=w) (N b K).2,.inl ⟨o,F,by rw[if_pos K];exact C,Nat.le_refl _⟩⟩⟩
    have hx:AX (dom ob1) w A w' ⟨fun b=>if b<w.heap.size then A.g b else(g b).rnP d d,A.bl,A.hv⟩:=⟨W,fun _ _=>rfl,fun _ _=>rfl⟩;have Y:AU w' ⟨fun b=>if b<w.heap.size then A.g b else(g b).rnP d d,A.bl,A.hv⟩ ob1:=fun j b y=>
     ObR.ext hx (fun _ h=>h) (by unfold dom;rw[y];rfl) (X:=fun _=>False) (fun b C _=>⟨(N b C).2,if_pos C⟩) (fun _ _ x=>x.elim) (fun _ _ _ _ x=>x.elim) (o1 j b y)
    have U:∀b fl e,fl≠.b->(g b).ok fl e->Bs.ok fl e (if b<w.heap.size then A.g b else(g b).rnP d d):=fun b fl e hf h=>by
     by_cases C:b<w.heap.size
     ·rw[if_pos C];rw[(N b C).1]at h;exact qg hf h
     ·rw[if_neg C];exact Bs.rnP_ok h
    have L:∀b o F,g b = .ow o F->¬b<w.heap.size:=fun b o F C h=>by
     obtain⟨r,hr⟩:=IZ A.g b;rw[(N b h).1,hr]at C;cases C
    obtain⟨G,e1,x2,o2,c1⟩:=Lx (d:=d) (E:=⟨fun b=>if b<w.heap.size then A.g b else(g b).rnP d d,A.bl,A.hv⟩) (fun j T u y h=>by
     cases T with
     | v x=>exact h
     | s fl k n f=>
      cases fl with
      | b=>exact h.elim
      | z=>exact h.1.gn U h.2
      | o=>
       obtain⟨a,cap,e,hn,R⟩:=h;refine⟨a,cap,e,hn,fun Z=>?_⟩;obtain⟨b,ha,hg,cs,t,J,K,I⟩:=R Z;refine⟨b,ha,?_,cs,t,J,K,fun p q hp hq=>?_⟩
       ·show(if b<w.heap.size then _ else _)=_;rw[if_neg (L b _ _ hg),hg];simp only[Bs.rnP];rw[if_neg (by omega)]
       ·obtain⟨u,hu,h1,h2,h3⟩:=I p q hp hq;refine⟨u,hu,h1.gn U h2,h3.ext (fun b' F Q _=>⟨rfl,?_⟩)⟩;show(if b'<w.heap.size then _ else _)=_;rw[if_neg (L b' _ _ Q),Q];rfl) Y hob jA
    have kA:AX (dom ob) w E w' G:=x1.trans ⟨by rw[e1];exact W,fun i hi=>x2.bl i hi,fun i hi=>x2.hv i hi⟩ (fun j y=>(d1 j).1 y);have iA:∀j,dom ob' j->j≠d:=fun j y=>Ik y gA
    have S:∀j,dom ob j->dom ob' j:=fun j y=>Kt hob ((d1 j).1 y)
    have M:AX (dom ob') w' G w' ⟨G.g,fun j=>if j=d then B else G.bl j,G.hv⟩:=⟨Kp.refl _ _,fun j y=>if_neg (iA j y),fun _ _=>rfl⟩;have hD:∀j,dom ob' j->dom (put ob' d (.var (DB d 1 v0))) j:=fun j y=>BT y
    cases c1 with
    | @cons _ u0 _ us h1 ht=>
     obtain⟨cA,H,J⟩:=h1;have H:cs=cA:=by
      simp only[Value.agg.injEq]at H;exact congrArg Array.toList H
     subst H;refine⟨_,_,rfl,kA.trans M S,fun j y=>hD j (S j y),fun j o y=>?_,_,rfl,.p d 0,rfl,by unfold dom;rw[BD,if_pos rfl];rfl,by simp⟩;rw[BD]at y;by_cases e:d=j
     ·rw[if_pos e]at y;cases y;subst e;refine⟨?_,cs,T,by simpa using eA,CsR.ext M hD J⟩;show G.g (if d=d then B else _)=_;rw[if_pos rfl,e1];show(if B<w.heap.size then _ else _)=_;rw[if_neg (L _ _ _ O),O];rfl
     ·rw[if_neg e]at y;exact ObR.ext M hD (by unfold dom;rw[y];rfl) (X:=fun _=>False) (fun _ _ _=>⟨rfl,rfl⟩) (fun _ _ x=>x.elim) (fun _ _ _ _ x=>x.elim) (o2 j o y)
   ·cases m
  ·cases m
 ·cases m
def Ns(P:Program)(f:Nat)(sp:AL)(w:World):Prop:=
 ∀vs ags c rs,sp (ags ++ [(true,vs)])=some (c,rs)->c->∀(E:En) (ys:List Value) (y:Value),AU w E (Dd 0 vs)->AR (FL w E.g) ags ys->VlR w E (dom (Dd 0 vs)) true (DB 0 0 vs) y->
  Calls P f (ys ++ [y]).toArray w fun e w'=>∃v g,e = .returned v/\Kp w E.g w' g/\JE w' g rs v
def N8(P:Program)(f:Nat)(sp:AL):Prop:=∀w,Ns P f sp w
def unlast:List Av->Option (List Av×List Cv)
 | []=>none
 | x :: l=>match l,x with
  | [],.m true c=>some ([],c)
  | [],_=>none
  | _ :: _,_=>match unlast l with
   | some q=>some (x :: q.1,q.2)
   | none=>none
theorem Qm:∀{r l:List Av} {c:List Cv},unlast r=some (l,c)->r=l ++ [.m true c]
 | [],l,c,h=>by cases h
 | x :: r,l,c,h=>by
  unfold unlast at h;split at h
  ·cases h;rfl
  ·cases h
  ·split at h
   ·rename_i q hq
    cases h;rw[Qm (l:=q.1) (c:=q.2) hq];rfl
   ·cases h
theorem zGD{D:Nat->Prop}(O:AU w E ob)(hv:varT ob cl=some vs)(hn:E8 ((pmC 0 cl).map (·.1))=true)(l:E8 ((pmC 0 cl).map (·.2))=true) :
 ∃v,v.g=gP (pmC 0 cl) E.g/\AU w v (Dd 0 vs)/\∀cs,CsR w E D cl cs->CsR w v (dom (Dd 0 vs)) (DB 0 0 vs) cs:=by
 obtain⟨c,t⟩:∃c,c=pmC 0 cl:=⟨_,rfl⟩;rw[<-t]at hn l ⊢;have d:∀p∈pmC 0 cl,p∈c:=fun p n=>by rw[t];exact n
 refine⟨⟨gP c E.g,fun j=>E.bl ((get (swp c) j).getD 0),fun j=>E.hv ((get (swp c) j).getD 0)⟩,rfl,fun j o M=>?_,fun cs z=>QZ (fun b fl e h=>KD h) hv (fun p n=>?_) z⟩
 ·obtain⟨r,k,m,f,C,H,rfl⟩:=Qd hv M;have e0:(get (swp c) j).getD 0=r:=(by rw[KN l (d _ C)];rfl);obtain⟨a,cap,B,A,K⟩:=O r _ H;refine⟨a,cap,?_,A,fun G=>?_⟩
  ·show E.hv ((get (swp c) j).getD 0)=_;rw[e0];exact B
  ·obtain⟨I,F,cs,T,L,N,i⟩:=K G;have s:=J4 hn (d _ C);refine⟨?_,?_,cs,T,?_,N,fun p q n P=>?_⟩
   ·show a=some ⟨E.bl ((get (swp c) j).getD 0),0,none⟩;rw[e0];exact I
   ·show gP c E.g (E.bl ((get (swp c) j).getD 0))=_;rw[e0];exact PX F s
   ·show w.heap[E.bl ((get (swp c) j).getD 0)]?=_;rw[e0];exact L
   ·obtain⟨u,R,hs,Q⟩:=i p q n P;refine⟨u,R,Sh.okm (fun b fl e h=>KD h) hs,?_⟩;show CM w (gP c E.g) (E.bl ((get (swp c) j).getD 0)) _ _ _;rw[e0];refine Q.ext (fun b S J _=>⟨rfl,?_⟩);rw[Mu J F,s]
 ·obtain⟨x,y⟩:=p;refine⟨?_,(Kn hv n).1⟩;show E.hv ((get (swp c) y).getD 0)=E.hv x;rw[KN l (d _ n)];rfl
def evCallO(sp:AL)(d:Nat)(ob:List (Nat×Ob))(r:List Av):Option Dl:=
 match unlast r with
 | some (l,cl)=>match varT ob cl,IW false (CX ob (pmC 0 cl)) l with
  | some vs,some ags=>if E8 ((pmC 0 cl).map (·.1))=true/\E8 ((pmC 0 cl).map (·.2))=true then
    match sp (ags ++ [(true,vs)])with
    | some (c,rs)=>match Ea d 0 (CX ob (pmC 0 cl)) rs with
     | some ob'=>if tot rs<=40 then some ⟨c,some (match rs with
      | [q]=>.m q.1 (DB d 0 q.2)
      | _=>.t (JT d 0 rs)),ob',true⟩else none
     | none=>none
    | none=>none
   else none
  | _,_=>none
 | none=>none
theorem YN{α β : Type}{R:α->β->Prop}:∀{l l':List α} {ys:List β},AR R (l ++ l') ys->∃a b,ys=a ++ b/\AR R l a/\AR R l' b
 | [],l',ys,h=>⟨[],ys,rfl,.nil,h⟩
 | x :: l,l',ys,h=>by
  cases h with
  | cons h1 t=>
   obtain⟨a,b,rfl,c,d⟩:=YN (l:=l) t;exact⟨_ :: a,b,rfl,.cons h1 c,d⟩
theorem zAc(hs:Ns P f sp w)(ho:AU w E ob){D:Dl}(i:evCallO sp d ob l=some D)(hc:D.c)(hy:AR (AvR w E (dom ob)) l ys) :
 Calls P f ys.toArray w fun e w'=>∃v V,e = .returned v/\AX (dom ob) w E w' V/\(∀j,dom ob j->dom D.ob j)/\AU w' V D.ob/\∃av,D.av=some av/\AvR w' V (dom D.ob) av v:=by
 unfold evCallO at i;split at i
 ·rename_i l1 cl hul
  rw[Qm hul]at hy;obtain⟨rA,yl,rfl,a1,nB⟩:=YN hy;cases nB with
  | @cons _ y _ us hyo tt=>
  cases tt;split at i
  ·rename_i vs ags hvs has
   split at i
   ·rename_i jB
    obtain⟨hn,fB⟩:=jB;split at i
    ·rename_i c rs hsp
     split at i
     ·rename_i ob' hob
      split at i
      case isFalse=>cases i
      cases i;obtain⟨vA,W,cA⟩:=hyo;obtain⟨E0,e0,oi,Q⟩:=zGD (D:=dom ob) ho hvs hn fB;have eB:∀j,j∈(pmC 0 cl).map (·.1)->dom ob j:=fun j C=>by
       obtain⟨⟨r,y⟩,hp,rfl⟩:=List.mem_map.1 C;obtain⟨-,k,m,f,h⟩:=Kn hvs hp;unfold dom;rw[h];rfl
      generalize lC:pmC 0 cl=pm at *;have K:∀j,dom ob j↔dom (CX ob pm) j:=fun j=>by
       unfold dom;rw[I9];split
       ·rename_i h
        have:=eB j h;unfold dom at this;simp[this]
       ·exact Iff.rfl
      have o2:AU w E (CX ob pm):=fun j o C=>by
       rw[I9]at C;split at C
       ·cases C;trivial
       ·exact ObR.ext (AX.refl _ _ _) (fun j C=>(K j).1 C) (by unfold dom;rw[C];rfl) (X:=fun _=>False) (fun _ _ _=>⟨rfl,rfl⟩) (fun _ _ x=>x.elim) (fun _ _ _ _ x=>x.elim) (ho j o C)
      have a2:AR (AvR w E (dom (CX ob pm))) l1 rA:=by
       have Y:∀{l:List Av} {us:List Value},AR (AvR w E (dom ob)) l us->AR (AvR w E (dom (CX ob pm))) l us:=fun {l us} h=>by
        induction h with
        | nil=>exact .nil
        | cons h _ ih=>exact .cons (h.ext (AX.refl _ _ _) (fun j C=>(K j).1 C)) ih
       exact Y a1
      have S:Ou E (CX ob pm) E0.g:=by
       rw[e0];refine⟨fun b fl e h=>KD h,fun j q hq b l A=>?_⟩;have C:j∉pm.map (·.1):=fun h=>by
        unfold rowE at hq;rw[I9,if_pos h]at hq;cases hq
       exact⟨_,NE A (Oe C)⟩
      have N:=hs vs ags c _ hsp hc E0 rA y oi (Nu S o2 has a2) ⟨vA,W,Q _ cA⟩;refine N.mono ?_;rintro e w' ⟨v,g,rfl,R,rC,lB,hv⟩;rw[e0]at R;have Z:∀b,b<w.heap.size->(gP pm E.g b).isFz=true->g b=gP pm E.g b/\w'.heap[b]?=w.heap[b]?:=fun b A I=>by
       cases hg:gP pm E.g b with
       | fz r=>obtain⟨k1,M⟩:=R.fz b r hg A;exact⟨M,k1⟩
       | ow o l=>rw[hg]at I;cases I
      obtain⟨ge,eA⟩:∃ge:Nat->Bs,ge=fun b=>if b<w.heap.size/\(gP pm E.g b).isFz=true then E.g b else(g b).rn d:=⟨_,rfl⟩
      have gA:∀b,b<w.heap.size->(gP pm E.g b).isFz=true->ge b=E.g b:=fun b F G=>by rw[eA];exact if_pos ⟨F,G⟩
      have gB:∀b,¬(b<w.heap.size/\(gP pm E.g b).isFz=true)->ge b=(g b).rn d:=fun b h=>by rw[eA];exact if_neg h
      have U:∀{s:Bs} {fl:Fl} {e:Nat},s.ok fl e->(s.rn d).ok fl e:=fun {s fl e} h=>by
       cases s with
       | fz r=>exact h
       | ow o l=>cases o<;>exact h
      have jA:Kp w E.g w' ge:=by
       refine⟨R.os,R.tape,R.output,R.size,fun b r A L=>?_,fun b o H A L=>?_⟩
       ·have I:(gP pm E.g b).isFz=true:=by
         unfold gP;rw[A];rfl
        exact⟨(Z b L I).2,by rw[gA b L I];exact A⟩
       ·rcases Ly pm E.g b with⟨r,F,G⟩ | ⟨o1,l,F,G⟩ | ⟨o1,pB,l,F,G⟩
        ·rw[A]at F;cases F
        ·have I:(gP pm E.g b).isFz=true:=(by rw[G];rfl);exact⟨fun j _=>World.cell?_of_block (w:=w) (Z b L I).2,.inl ⟨o,H,by rw[gA b L I];exact A,Nat.le_refl _⟩⟩
        ·rw[A]at F;cases F;obtain⟨k1,M⟩:=R.ow b _ _ G L;have J:=gB b (fun h=>by rw[G]at h;cases h.2);refine⟨k1,?_⟩;rcases M with⟨o2,l2,M,k3⟩ | M
         ·refine .inl ?_;rw[J,M];cases o2 with
          | nm j=>exact⟨_,l2,rfl,k3⟩
          | tl B c=>exact⟨_,l2,rfl,k3⟩
         ·refine .inr ?_;rw[J,M];rfl
      have mA:∀b fl e,fl≠.b->(g b).ok fl e->(ge b).ok fl e:=fun b fl e I h=>by
       by_cases A:b<w.heap.size/\(gP pm E.g b).isFz=true
       ·rw[gA b A.1 A.2];rw[(Z b A.1 A.2).1]at h;rcases Ly pm E.g b with⟨r,F,G⟩ | ⟨o1,l,F,G⟩ | ⟨o1,pB,l,F,G⟩
        ·rw[F,<-G];exact h
        ·rw[G]at h;rw[F];exact(h.resolve_left I) l rfl
        ·rw[G]at h;rw[F];exact h
       ·rw[gB b A];exact U h
      have kA:∀b o H,g b = .ow o H->ge b=(g b).rn d:=fun b o H A=>gB b (fun h=>by
       have F:=(Z b h.1 h.2).1;rw[A]at F;rw[<-F]at h;cases h.2)
      have mB:AX (dom (CX ob pm)) w E w' ⟨ge,E.bl,E.hv⟩:=⟨jA,fun _ _=>rfl,fun _ _=>rfl⟩;have lA:AU w' ⟨ge,E.bl,E.hv⟩ (CX ob pm):=fun j o C=>by
       by_cases fA:j∈pm.map (·.1)
       ·rw[I9,if_pos fA]at C;cases C;trivial
       ·have iA:=Oe fA;refine ObR.ext mB (fun _ h=>h) (by unfold dom;rw[C];rfl) (X:=fun b=>¬(gP pm E.g b).isFz=true) (fun b A iB=>?_) (fun b H A J=>?_) (fun cB b j' H A J=>?_) (o2 j o C)
        ·have I:=Classical.not_not.1 iB;exact⟨(Z b A I).2,gA b A I⟩
        ·rw[NE J iA]at A;exact A rfl
        ·rw[Mu J cB,iA]at A;exact A rfl
      obtain⟨V,e1,x2,o3,c1⟩:=Lx (d:=d) (E:=⟨ge,E.bl,E.hv⟩) (fun j T u C h=>by
       cases T with
       | v x=>exact h
       | s fl k n f=>
        cases fl with
        | b=>exact h.elim
        | z=>exact h.1.gn mA h.2
        | o=>
         obtain⟨a,cap,e,hn,bA⟩:=h;refine⟨a,cap,e,hn,fun nA=>?_⟩;obtain⟨b,ha,hg,cs,t,Q,L,O⟩:=bA nA;refine⟨b,ha,?_,cs,t,Q,L,fun p q hp hq=>?_⟩
         ·show ge b=_;rw[kA b _ _ hg,hg];rfl
         ·obtain⟨u,hu,F,G,h3⟩:=O p q hp hq;refine⟨u,hu,F.gn mA G,h3.ext (fun b' H aA _=>⟨rfl,?_⟩)⟩;show ge b'=_;rw[kA b' _ _ aA,aA];rfl) lA hob lB
      have bB:AX (dom ob) w E w' V:=⟨by rw[e1];exact jA,fun j C=>x2.bl j ((K j).1 C),fun j C=>x2.hv j ((K j).1 C)⟩;refine⟨v,V,rfl,bB,fun j C=>Kt hob ((K j).1 C),o3,_,rfl,?_⟩
      match rs,hv,c1 with
      | [q],hv,c1=>
       cases hv;cases c1 with
       | cons k1 M=>exact k1
      | [],hv,c1=>exact⟨_,hv,c1⟩
      | q1 :: q2 :: r,hv,c1=>exact⟨_,hv,c1⟩
     ·cases i
    ·cases i
   ·cases i
  ·cases i
 ·cases i
theorem Kp.turnL{a:Nat}{o o':Ow}(h:g B = .ow o f)(k:f<=a){c0:List Value}{T:TypeId}(m:w.heap[B]?=some (.cells c0.toArray T (0,0))){c:List Value}(p:∀j,j<f->c[j]?=c0[j]?):Kp w g (w.setRow B c.toArray) (fun b=>if b=B then .ow o' a else g b):=by
 refine⟨rfl,rfl,rfl,by simp[World.setRow],fun b r d s=>?_,fun b q l d s=>?_⟩
 ·have i:b≠B:=fun e=>by rw[e,h]at d;cases d
  exact⟨Fk w B _ b i,by rw[if_neg i];exact d⟩
 ·by_cases e:b=B
  ·subst e;rw[h]at d;cases d;refine⟨fun j n=>?_,.inl ⟨o',a,if_pos rfl,k⟩⟩;rw[cell_of_row _ _ _ _ T _ (setRow_heap _ _ _ _ _ _ m),cell_of_row _ _ _ _ T _ m];simpa using p j n
  ·exact⟨fun j n=>World.cell?_of_block (w:=w) (Fk w B _ b e),.inl ⟨q,l,by rw[if_neg e];exact d,Nat.le_refl _⟩⟩
def tlOf(k:Nat)(ob:List (Nat×Ob)):Cv->Option (Nat×Nat×(Nat->Nat->Tr))
 | .h i=>match get ob i with
  | some (.tl k' n f)=>if k'=k then some (i,n,f)else none
  | _=>none
 | _=>none
def evAppendT(de:TyD)(ob:List (Nat×Ob))(r:Nat)(x y:Cv):Option (Prop×List (Nat×Ob)):=
 match get ob r,tlOf de.k ob x,srcOf de.k ob y with
 | none,some (i,n,f),some (C,m,f')=>some (C/\n+m<=1000000000,put (put ob i .dead) r (.tl de.k (n+m) (Ai f n f')))
 | _,_,_=>none
variable{r k n:Nat}{f:Nat->Nat->Tr}
theorem NT{w':World}(U:AU w E ob)(hi:dom ob i)(Y:get ob r=none){a:Option Addr}{cap:Nat}{c1:List Value}{T:TypeId}(hn:n<=cap)
 (S:0<cap->Kp w E.g w' (fun b=>if b=B then .ow (.nm r) (n*k)else E.g b)) (I:cap=0->Kp w E.g w' E.g) (t:∀b,b<w.heap.size->¬(0<cap/\b=B)->w'.heap[b]?=w.heap[b]?) (O:0<cap->w.heap.size<=B\/∃o,E.g B = .ow (.nm i) o)
 (P:0<cap->a=some ⟨B,0,none⟩/\w'.heap[B]?=some (.cells c1.toArray T (0,0))/\c1.length=cap*k/\∀p j,p<n->j<k->∃u,c1[p*k+j]?=some u/\Sh w E.g (f p j) u) :
 ∃F,AX (dom ob) w E w' F/\AU w' F (put (put ob i .dead) r (.tl k n f))/\AvR w' F (dom (put (put ob i .dead) r (.tl k n f))) (.m false [.h r]) (.slice a n cap):=by
 have C:∀j,dom ob j->j≠r:=fun j c=>Ik c Y
 obtain⟨g',A,H,G⟩:∃g':Nat->Bs,Kp w E.g w' g'/\(∀b,¬(0<cap/\b=B)->g' b=E.g b)/\(0<cap->g' B = .ow (.nm r) (n*k)):=by
  rcases Nat.eq_zero_or_pos cap with e | e
  ·exact⟨E.g,I e,fun _ _=>rfl,fun h=>by omega⟩
  ·exact⟨_,S e,fun b s=>if_neg (fun y=>s ⟨e,y⟩),fun _=>if_pos rfl⟩
 have K:AX (dom ob) w E w' ⟨g',fun j=>if j=r then B else E.bl j,fun j=>if j=r then .slice a n cap else E.hv j⟩:=⟨A,fun j c=>if_neg (C j c),fun j c=>if_neg (C j c)⟩;refine⟨_,K,fun j b c=>?_,.h r,rfl,by unfold dom;rw[BD,if_pos rfl];rfl,by simp,rfl⟩;rw[BD,BD]at c;by_cases e:r=j
 ·subst e;rw[if_pos rfl]at c;cases c;refine⟨a,cap,by simp,hn,fun D=>?_⟩;obtain⟨v,L,M,N⟩:=P D;exact⟨by simp[v],by simp[G D],c1,T,by simp[L],M,fun p q V W=>let ⟨u,hu,hs⟩:=N p q V W;⟨u,hu,hs.kp A⟩⟩
 ·rw[if_neg e]at c;by_cases y:i=j
  ·rw[if_pos y]at c;cases c;trivial
  ·rw[if_neg y]at c;have Q:dom ob j:=(by unfold dom;rw[c];rfl);have z:∀b,(0<cap/\b=B/\b<w.heap.size)->∃o,E.g b = .ow (.nm i) o:=fun b s=>by
    obtain⟨D,rfl,Z⟩:=s;rcases O D with v | v
    ·omega
    ·exact v
   refine ObR.ext K (fun j c=>BT (BT c)) Q (X:=fun b=>0<cap/\b=B/\b<w.heap.size) (fun b s J=>?_) (fun b o s d=>?_) (fun R b j' o s d=>?_) (U j b c)
   ·have x:¬(0<cap/\b=B):=fun h=>J ⟨h.1,h.2,s⟩
    exact⟨t b s x,H b x⟩
   ·obtain⟨l,v⟩:=z b s;rw[v]at d;cases d;exact y rfl
   ·obtain⟨l,v⟩:=z b s;rw[v]at d;cases d
variable{ob':List (Nat×Ob)}{x:Cv}{c:Prop}
theorem zCC{t:Nat}{d de:TyD}(h:BA P t d)(he:d.el≠0)(h':BA P d.el de)(ho:AU w E ob){y:Cv}(Q:evAppendT de ob r x y=some (c,ob'))(hc:c){u v:Value}(G:CvR w E (dom ob) x u)(hv:CvR w E (dom ob) y v)(ty:Nat) :
 ∃z w' H,(Builtin.append_ #[t,t] ty #[u,v]).run P w = .ok z w'/\AX (dom ob) w E w' H/\(∀j,dom ob j->dom ob' j)/\AU w' H ob'/\AvR w' H (dom ob') (.m false [.h r]) z:=by
 unfold evAppendT at Q;split at Q
 ·rename_i i n f C m f' hr hd hs
  cases Q;obtain⟨hC,fA⟩:=hc;obtain⟨-,a',c',rfl,lA⟩:=U8 ho hs hC hv;cases x<;>simp only[tlOf]at hd<;>try (cases hd;done)
  rename_i i'
  split at hd
  ·rename_i k' n' fo hi
   split at hd
   ·rename_i ek
    subst ek;cases hd;obtain⟨a,cap,gB,hn,gA⟩:=ho _ _ hi;obtain⟨N,rfl,-⟩:=G;rw[gB];have O:∀j,dom ob j->dom (put (put ob i .dead) r (.tl de.k (n+m) (Ai f n f'))) j:=fun j D=>BT (BT D)
    obtain⟨b,o,s,Z,L,eA,kA⟩:∃b o,∃s:List Value,s.length=m*de.k/\(∀(j:Nat) u,s[j]?=some u->w.cell? ⟨b,o+j,none⟩=some u)/\(0<m->a'=some ⟨b,o,none⟩)/\∀p j,p<m->j<de.k->∃u,s[p*de.k+j]?=some u/\Sh w E.g (f' p j) u:=by
     rcases Nat.eq_zero_or_pos m with e | e
     ·subst e;exact⟨0,0,[],by simp,fun j u h=>by simp at h,fun h=>by omega,fun p j J=>by omega⟩
     ·obtain⟨b,o,ha,A⟩:=lA e;obtain⟨cs,h1,h2⟩:=Y7 m (fun p j J D=>let ⟨u,G,_⟩:=A p j J D;⟨u,G⟩);refine⟨b,o,cs,h1,h2,fun _=>ha,fun p j J D=>?_⟩;obtain⟨u,G,F⟩:=A p j J D;have K:=Fb J D;have h5:cs[p*de.k+j]?=some cs[p*de.k+j]:=List.getElem?_eq_getElem (by omega);have h6:=h2 _ _ h5;rw[G]at h6;cases h6;exact⟨_,h5,F⟩
    have jA:∀u∈s,u.oneCell'=true:=fun u G=>by
     obtain⟨q,hq⟩:=List.getElem?_of_mem G;have K:=(List.getElem?_eq_some_iff.1 hq).1;have J:=h'.pos;obtain⟨u',nA,fB⟩:=kA (q / de.k) (q % de.k) ((Nat.div_lt_iff_lt_mul J).2 (by omega)) (Nat.mod_lt _ J);rw[Nat.mul_comm,Nat.div_add_mod,hq]at nA;cases nA;exact fB.one
    have U:∀(olds rest:List Value),olds.length=n*de.k->(∀p j,p<n->j<de.k->∃u,olds[p*de.k+j]?=some u/\Sh w E.g (f p j) u)->∀p j,p<n+m->j<de.k->∃u,(olds ++ s ++ rest)[p*de.k+j]?=some u/\Sh w E.g (Ai f n f' p j) u:=fun olds rest M holds p j J D=>by
     by_cases aA:p<n
     ·obtain⟨u,G,F⟩:=holds p j aA D;have K:=(List.getElem?_eq_some_iff.1 G).1;exact⟨u,by rw[List.append_assoc,List.getElem?_append_left K];exact G,by unfold Ai;rw[if_pos aA];exact F⟩
     ·obtain⟨u,G,F⟩:=kA (p - n) j (by omega) D;have e:p*de.k+j=n*de.k+((p - n)*de.k+j):=by
       rw[<-Nat.add_assoc,<-Nat.add_mul];congr 2;omega
      refine⟨u,?_,by unfold Ai;rw[if_neg aA];exact F⟩;have K:=(List.getElem?_eq_some_iff.1 G).1;rw[e,List.append_assoc,List.getElem?_append_right (by omega),M,Nat.add_sub_cancel_left,List.getElem?_append_left K];exact G
    have R:∀(olds:List Value),olds.length=n*de.k->(∀p j,p<n->j<de.k->∃u,olds[p*de.k+j]?=some u/\Sh w E.g (f p j) u)->(0<n->∃B,a=some ⟨B,0,none⟩/\∀(j:Nat) u,olds[j]?=some u->w.cell? ⟨B,j,none⟩=some u)->cap<n+m->
     ∃z w' H,(Builtin.append_ #[t,t] ty #[.slice a n cap,.slice a' m c']).run P w = .ok z w'/\AX (dom ob) w E w' H/\(∀j,dom ob j->dom (put (put ob i .dead) r (.tl de.k (n+m) (Ai f n f'))) j)/\AU w' H (put (put ob i .dead) r (.tl de.k (n+m) (Ai f n f')))/\AvR w' H (dom (put (put ob i .dead) r (.tl de.k (n+m) (Ai f n f')))) (.m false [.h r]) z:=by
     intro olds M holds hB bB;have ea:=eA (by omega);subst ea;obtain⟨cA,rest,h1,h2,h3⟩:=QQ h he h' (w:=w) (a:=a) (n:=n) (cap:=cap) (olds:=olds) M hB Z L hn bB fA ty (c':=c');have I:∀b,b<w.heap.size->(w.drew.alloc (.cells (olds ++ s ++ rest).toArray d.el)).heap[b]?=w.heap[b]?:=fun b S=>Below.heap_alloc w.drew _ _ S
     obtain⟨H,V,W,X⟩:=NT (w':=w.drew.alloc (.cells (olds ++ s ++ rest).toArray d.el)) ho N hr (k:=de.k) (n:=n+m) (f:=Ai f n f') (a:=some ⟨w.heap.size,0,none⟩) (cap:=cA) (B:=w.heap.size) (c1:=olds ++ s ++ rest) (T:=d.el) h1
      (fun _=>⟨rfl,rfl,rfl,by show _<=(w.heap.push _).size;simp,fun b x S Z=>⟨I b Z,by rw[if_neg (by omega)];exact S⟩,fun b x l S Z=>⟨fun j _=>World.cell?_of_block (w:=w) (I b Z),.inl ⟨x,l,by rw[if_neg (by omega)];exact S,Nat.le_refl _⟩⟩⟩)
      (fun e=>by omega) (fun b S _=>I b S) (fun _=>.inl (Nat.le_refl _))
      (fun _=>⟨rfl,O4 w.drew _,by rw[List.length_append,List.length_append,M,Z,h2,<-Nat.add_mul,<-Nat.add_mul];congr 1;omega,U olds rest M holds⟩)
     exact⟨_,_,H,h3,V,O,W,X⟩
    rcases Nat.eq_zero_or_pos cap with e0 | e0
    ·subst e0;have en:n=0:=(by omega);subst en;rcases Nat.eq_zero_or_pos m with e | e
     ·subst e;obtain⟨H,V,W,X⟩:=NT (w':=w) ho N hr (k:=de.k) (n:=0+0) (f:=Ai f 0 f') (a:=a) (cap:=0) (B:=0) (c1:=[]) (T:=0) (Nat.le_refl _) (fun h=>by omega) (fun _=>Kp.refl _ _) (fun _ _ _=>rfl) (fun h=>by omega) (fun h=>by omega);exact⟨_,_,H,Nt h he h' hn ty,V,O,W,X⟩
     ·exact R [] (by simp) (fun p j J=>by omega) (fun h0=>by omega) (by omega)
    ·obtain⟨ha,hg,cs,T,Y,iA,A⟩:=gA e0;subst ha;have cC:=Nat.mul_le_mul_right de.k hn;have mA:(cs.take (n*de.k)).length=n*de.k:=(by simp;omega);have holds:∀p j,p<n->j<de.k->∃u,(cs.take (n*de.k))[p*de.k+j]?=some u/\Sh w E.g (f p j) u:=fun p j J D=>by
      obtain⟨u,G,F⟩:=A p j J D;exact⟨u,by rw[List.getElem?_take,if_pos (Fb J D)];exact G,F⟩
     by_cases hm:n+m<=cap
     ·rcases Nat.eq_zero_or_pos m with e | e
      ·subst e;have hk:Kp w E.g w (fun b=>if b=E.bl i then .ow (.nm r) ((n+0)*de.k)else E.g b):=by
        have:=Kp.turnL (w:=w) (o':=.nm r) hg (Nat.le_refl _) Y (c:=cs) (fun _ _=>rfl);rw[setRow_self _ _ _ T (0,0) Y]at this;exact this
       obtain⟨H,V,W,X⟩:=NT (w':=w) ho N hr (k:=de.k) (n:=n+0) (f:=Ai f n f') (a:=some ⟨E.bl i,0,none⟩) (cap:=cap) (B:=E.bl i) (c1:=cs) (T:=T) hm (fun _=>hk) (fun e=>by omega) (fun _ _ _=>rfl) (fun _=>.inr ⟨_,hg⟩) (fun _=>⟨rfl,Y,iA,fun p j J D=>by
        obtain⟨u,G,F⟩:=A p j (by omega) D;exact⟨u,G,by unfold Ai;rw[if_pos (by omega)];exact F⟩⟩)
       exact⟨_,_,H,Nt h he h' hn ty,V,O,W,X⟩
      ·have ea:=eA e;subst ea;have eB:=V6 h he h' Y iA Z L jA hm ty (c':=c');have bC:(n+m)*de.k<=cap*de.k:=Nat.mul_le_mul_right _ hm;have mB:n*de.k+m*de.k=(n+m)*de.k:=(Nat.add_mul _ _ _).symm;obtain⟨H,V,W,X⟩:=NT (w':=w.setRow (E.bl i) (cs.take (n*de.k) ++ s ++ cs.drop (n*de.k+s.length)).toArray) ho N hr (k:=de.k) (n:=n+m) (f:=Ai f n f') (a:=some ⟨E.bl i,0,none⟩) (cap:=cap) (B:=E.bl i) (c1:=cs.take (n*de.k) ++ s ++ cs.drop (n*de.k+s.length)) (T:=T) hm
        (fun _=>Kp.turnL hg (by omega) Y (fun j D=>by rw[List.append_assoc,List.getElem?_append_left (by omega),List.getElem?_take,if_pos D])) (fun e=>by omega) (fun b S cB=>Fk _ _ _ _ (fun e'=>cB ⟨e0,e'⟩)) (fun _=>.inr ⟨_,hg⟩)
        (fun _=>⟨rfl,setRow_heap _ _ _ _ _ _ Y,by simp;omega,U _ _ mA holds⟩)
       exact⟨_,_,H,eB,V,O,W,X⟩
     ·exact R _ mA holds (fun _=>⟨_,rfl,fun j u D=>by
       rw[cell_of_row w _ _ _ T _ Y];rw[List.getElem?_take]at D;split at D
       ·simpa using D
       ·cases D⟩) (by omega)
   ·cases hd
  ·cases hd
 ·cases Q
def mvOf(k:Nat)(ob:List (Nat×Ob)):Cv->Option (Prop×Nat×Nat×Nat×Nat×(Nat->Nat->Tr))
 | .h i=>match get ob i with
  | some (.row k' n f)=>if k'=k then some (True,i,0,n,n,f)else none
  | _=>none
 | .hs i k' lo m=>match get ob i with
  | some (.row k2 n f)=>if k'=k/\k2=k then some (lo+m<=n,i,lo,m,n,f)else none
  | _=>none
 | _=>none
variable{lo:Nat}
theorem zH8(l:AU w E ob){m:Nat}{C:Prop}(h:mvOf k ob x=some (C,i,lo,m,n,f))(d:C){y:Value}(b:CvR w E (dom ob) x y) :
 get ob i=some (.row k n f)/\lo+m<=n/\∃a c,y = .slice a m c/\(0<m->a=some ⟨E.bl i,lo*k,none⟩):=by
 unfold mvOf at h;split at h
 ·rename_i o
  split at h
  ·rename_i p n' f' hi
   split at h
   ·rename_i e
    subst e;cases h;obtain⟨a,cap,hv,hn,j⟩:=l _ _ hi;exact⟨hi,by omega,a,cap,b.2.1.trans hv,fun q=>by simpa using (j (by omega)).1⟩
   ·cases h
  ·cases h
 ·rename_i o p lo' m'
  split at h
  ·rename_i r n' f' hi
   split at h
   ·rename_i e
    obtain⟨rfl,rfl⟩:=e;cases h;obtain⟨-,a,c,e,g⟩:=b;exact⟨hi,d,a,c,e,g⟩
   ·cases h
  ·cases h
 ·cases h
def ntR(F:Nat->Nat->Tr)(lo m:Nat):Nat->Nat->Tr:=fun p q=>if lo<=p/\p<lo+m then(F p q).nt else F p q
def evAppendM(de:TyD)(ob:List (Nat×Ob))(r:Nat)(x y:Cv):Option (Prop×List (Nat×Ob)):=
 match get ob r,dstOf de.k ob x,mvOf de.k ob y with
 | none,some (id,n,f),some (C,i,lo,m,N,F)=>if id≠some i then some (C/\n+m<=1000000000,put (put (DQ ob id) i (.row de.k N (ntR F lo m))) r (.row de.k (n+m) (Ai f n fun p q=>F (lo+p) q)))else none
 | _,_,_=>none
def Bs.rl(B B' lo hi to:Nat):Bs->Bs
 | .ow (.tl b c) l=>if b=B/\lo<=c/\c<hi then .ow (.tl B' (c - lo+to)) l else .ow (.tl b c) l
 | s=>s
theorem Bs.rl_nm{B' hi to:Nat}{s:Bs}{l:Nat}(h:s = .ow (.nm i) l):s.rl B B' lo hi to = .ow (.nm i) l:=by subst h;rfl
theorem zIu(ho:AU w E ob){N M m:Nat}{F G:Nat->Nat->Tr}(hi:get ob i=some (.row k N F))(hr:get ob r=some (.row k M G))(mA:i≠r)(rB:lo+m<=N)(hM:M=n+m)
 (hG:∀p q,p<m->q<k->∃u,G (n+p) q = .v u/\w.cell? ⟨E.bl i,(lo+p)*k+q,none⟩=some u) :
 ∃E',E'.bl=E.bl/\E'.hv=E.hv/\AX (dom ob) w E w E'/\AU w E' (put (put ob i (.row k N (ntR F lo m))) r (.row k M (fun p q=>if p<n then G p q else F (lo+(p - n)) q))):=by
 have Y:Kp w E.g w (fun b=>(E.g b).rl (E.bl i) (E.bl r) (lo*k) ((lo+m)*k) (n*k)):=by
  refine⟨rfl,rfl,rfl,Nat.le_refl _,fun b x y _=>⟨rfl,by rw[y];rfl⟩,fun b o l y _=>⟨fun _ _=>rfl,.inl ?_⟩⟩;rw[y];cases o with
  | nm j=>exact⟨_,l,rfl,Nat.le_refl _⟩
  | tl b c=>
   simp only[Bs.rl];split
   ·exact⟨_,l,rfl,Nat.le_refl _⟩
   ·exact⟨_,l,rfl,Nat.le_refl _⟩
 have S:AX (dom ob) w E w ⟨fun b=>(E.g b).rl (E.bl i) (E.bl r) (lo*k) ((lo+m)*k) (n*k),E.bl,E.hv⟩:=⟨Y,fun _ _=>rfl,fun _ _=>rfl⟩;have mB:dom ob i:=by unfold dom;rw[hi];rfl
 have nB:dom ob r:=by unfold dom;rw[hr];rfl
 have hD:∀j,dom ob j->dom (put (put ob i (.row k N (ntR F lo m))) r (.row k M (fun p q=>if p<n then G p q else F (lo+(p - n)) q))) j:=fun j t=>BT (BT t)
 obtain⟨ai,U,aB,nA,h⟩:=ho i _ hi;have jA:0<m->E.g (E.bl i) = .ow (.nm i) 0:=fun A=>(h (by omega)).2.1
 have H:∀{j:Nat},0<m->E.g (E.bl j) = .ow (.nm j) 0->j≠i->E.bl j≠E.bl i:=fun A t lA e=>by
  rw[e,jA A]at t;cases t;exact lA rfl
 have C:∀{B c:Nat} {T:Tr} {u:Value},¬(0<m/\B=E.bl i/\lo*k<=c/\c<(lo+m)*k)->CM w E.g B c T u->CM w (fun b=>(E.g b).rl (E.bl i) (E.bl r) (lo*k) ((lo+m)*k) (n*k)) B c T u:=fun {B c T u} hn=>by
  cases T with
  | v x=>exact id
  | s fl k2 n2 f2=>
   cases fl with
   | b=>exact id
   | z=>exact id
   | o=>
    rintro⟨a,cp,rfl,hc⟩;refine⟨a,cp,rfl,fun A=>?_⟩;obtain⟨b,y,f,O⟩:=hc A;refine⟨b,y,?_,O⟩;show(E.g b).rl _ _ _ _ _=_;rw[f];simp only[Bs.rl];rw[if_neg];rintro⟨J,D,V⟩;refine hn ⟨?_,J,D,V⟩;rcases Nat.eq_zero_or_pos m with e | e
    ·rw[e,Nat.add_zero]at V;omega
    ·exact e
 refine⟨⟨fun b=>(E.g b).rl (E.bl i) (E.bl r) (lo*k) ((lo+m)*k) (n*k),E.bl,E.hv⟩,rfl,rfl,S,fun j o t=>?_⟩;rw[BD,BD]at t;by_cases e:r=j
 ·subst e;rw[if_pos rfl]at t;cases t;obtain⟨a,cap,hv,hn,bA⟩:=ho r _ hr;refine⟨a,cap,hv,hn,fun A=>?_⟩;obtain⟨ha,hg,cs,T,hh,hl,L⟩:=bA A;refine⟨ha,Bs.rl_nm hg,cs,T,hh,hl,fun p q hp R=>?_⟩;obtain⟨u,hu,hs,ht⟩:=L p q hp R;refine⟨u,hu,?_⟩;by_cases aA:p<n
  ·simp only[if_pos aA];refine⟨hs.kp Y,C (fun S=>?_) ht⟩;exact H S.1 hg (fun e=>mA e.symm) S.2.1
  ·simp only[if_neg aA];obtain⟨u',J,D⟩:=hG (p - n) q (by omega) R;rw[show n+(p - n)=p by omega]at J;rw[J]at hs;obtain⟨rfl,-⟩:=hs;obtain⟨W,I,ci,Ti,P,Z,d⟩:=h (by omega);obtain⟨v,vA,rA,tA⟩:=d (lo+(p - n)) q (by omega) R;rw[cell_of_row w _ _ _ Ti _ P]at D;simp only[List.getElem?_toArray]at D;rw[vA]at D;cases D;refine⟨rA.kp Y,?_⟩;revert tA;cases F (lo+(p - n)) q with
   | v x=>exact id
   | s fl k2 n2 f2=>
    cases fl with
    | b=>exact id
    | z=>exact id
    | o=>
     rintro⟨a,cp,rfl,hc⟩;refine⟨a,cp,rfl,fun A=>?_⟩;obtain⟨b,y,f,O⟩:=hc A;refine⟨b,y,?_,O⟩;show(E.g b).rl _ _ _ _ _=_;rw[f];have e1:(lo+(p - n))*k=lo*k+(p - n)*k:=Nat.add_mul _ _ _;have e2:=Fb (show lo+(p - n)<lo+m by omega) R;have e3:p*k=n*k+(p - n)*k:=(by rw[<-Nat.add_mul];congr 1;omega);simp only[Bs.rl];rw[if_pos ⟨by first | trivial | rfl,by omega,e2⟩];congr 2;omega
 ·rw[if_neg e]at t;by_cases e':i=j
  ·rw[if_pos e']at t;cases t;subst e';refine⟨ai,U,aB,nA,fun A=>?_⟩;obtain⟨W,I,ci,Ti,P,Z,d⟩:=h A;refine⟨W,Bs.rl_nm I,ci,Ti,P,Z,fun p q hp R=>?_⟩;obtain⟨u,hu,hs,ht⟩:=d p q hp R;by_cases Q:lo<=p/\p<lo+m
   ·rw[show ntR F lo m p q=(F p q).nt by unfold ntR;rw[if_pos Q]];exact⟨u,hu,hs.nt.kp Y,Tr.nt_tail⟩
   ·rw[show ntR F lo m p q=F p q by unfold ntR;rw[if_neg Q]];refine⟨u,hu,hs.kp Y,C (fun S=>Q ?_) ht⟩;obtain⟨J,-,D,V⟩:=S;constructor
    ·rcases Nat.lt_or_ge p lo with K | K
     ·have:=Fb K R;omega
     ·exact K
    ·rcases Nat.lt_or_ge p (lo+m)with K | K
     ·exact K
     ·have:=Nat.mul_le_mul_right k K;omega
  ·rw[if_neg e']at t;have hd:dom ob j:=(by unfold dom;rw[t];rfl);refine ObR.ext S hD hd (X:=fun b=>(E.g b).rl (E.bl i) (E.bl r) (lo*k) ((lo+m)*k) (n*k)≠E.g b) (fun b _ y=>⟨rfl,Classical.not_not.1 y⟩) (fun b l y f=>y (by rw[f];rfl)) (fun kA b j' l y f=>?_) (ho j o t);apply y;rw[f];simp only[Bs.rl];rw[if_neg];rintro⟨J,D,V⟩;have A:0<m:=by
    rcases Nat.eq_zero_or_pos m with e | e
    ·rw[e,Nat.add_zero]at V;omega
    ·exact e
   exact H A kA (fun e=>e' e.symm) J
theorem zCB{t:Nat}{d de:TyD}(h:BA P t d)(he:d.el≠0)(h':BA P d.el de)(ho:AU w E ob){y:Cv}(b:evAppendM de ob r x y=some (c,ob'))(hc:c){u v:Value}(hu:CvR w E (dom ob) x u)(hv:CvR w E (dom ob) y v)(ty:Nat) :
 ∃z w' S,(Builtin.append_ #[t,t] ty #[u,v]).run P w = .ok z w'/\AX (dom ob) w E w' S/\(∀j,dom ob j->dom ob' j)/\AU w' S ob'/\AvR w' S (dom ob') (.m false [.h r]) z:=by
 unfold evAppendM at b;split at b
 ·rename_i id n f C i lo m N F hr hd hs
  split at b
  ·rename_i M
   cases b;obtain⟨hC,I⟩:=hc;obtain⟨hi,bA,a',c',rfl,W⟩:=zH8 ho hs hC hv;obtain⟨ai,kA,iB,fB,B⟩:=ho i _ hi;have J:dom ob i:=(by unfold dom;rw[hi];rfl);have K:i≠r:=Ik J hr;obtain⟨U,V⟩:∃U:Nat->Nat->Value,∀p q,p<m->q<de.k->w.cell? ⟨E.bl i,(lo+p)*de.k+q,none⟩=some (U p q)/\(U p q).oneCell'=true:=by
    refine⟨fun p q=>(w.cell? ⟨E.bl i,(lo+p)*de.k+q,none⟩).getD (.bool false),fun p q O H=>?_⟩;obtain⟨X,s,ci,Ti,G,aA,a⟩:=B (by omega);obtain⟨v,gA,fA,-⟩:=a (lo+p) q (by omega) H;have:w.cell? ⟨E.bl i,(lo+p)*de.k+q,none⟩=some v:=by
     rw[cell_of_row w _ _ _ Ti _ G];simpa using gA
    simp only[this,Option.getD_some];exact⟨trivial,fA.one⟩
   obtain⟨z,w',E1,g1,Q,T,g4,g5,g6⟩:=Yd h he h' ho hr hd I (f':=fun p q=>.v (U p q)) (v:=.slice a' m c') hu (fun _ _ _ _ _=>trivial) ⟨a',c',rfl,fun h0=>⟨_,_,W h0,fun p q O H=>⟨U p q,by rw[<-Nat.add_assoc,<-Nat.add_mul];exact(V p q O H).1,rfl,(V p q O H).2⟩⟩⟩ ty;have Z:get (DQ ob id) i=some (.row de.k N F):=by
    cases id with
    | none=>exact hi
    | some q=>show get (put ob q .dead) i=_;rw[BD,if_neg (fun e=>M (by rw[e]))];exact hi
   have Y:get (put (DQ ob id) r (.row de.k (n+m) (Ai f n fun p q=>.v (U p q)))) i=some (.row de.k N F):=by
    rw[BD,if_neg (fun e=>K e.symm)];exact Z
   obtain⟨E2,e1,e2,R,k2⟩:=zIu g4 Y (by rw[BD,if_pos rfl]) K bA rfl (fun p q O H=>by
    refine⟨U p q,by unfold Ai;rw[if_neg (by omega),Nat.add_sub_cancel_left],?_⟩;obtain⟨X,s,ci,Ti,G,aA,a⟩:=B (by omega);have cA:=(Array.getElem?_eq_some_iff.1 G).1;obtain⟨h1,-⟩:=g6 (E.bl i) cA (fun q' eA=>⟨fun l L=>by rw[s]at L;cases L;exact M eA,fun j l L=>by rw[s]at L;cases L⟩);rw[Q.bl i J,<-(V p q O H).1];exact World.cell?_of_block (w:=w) h1)
   have g:∀j,get (put (put (put (DQ ob id) r (.row de.k (n+m) (Ai f n fun p q=>.v (U p q)))) i (.row de.k N (ntR F lo m))) r (.row de.k (n+m) (fun p q=>if p<n then Ai f n (fun p q=>.v (U p q)) p q else F (lo+(p - n)) q))) j=get (put (put (DQ ob id) i (.row de.k N (ntR F lo m))) r (.row de.k (n+m) (Ai f n fun p q=>F (lo+p) q))) j:=fun j=>by
    have ef:(fun p q=>if p<n then Ai f n (fun p q=>.v (U p q)) p q else F (lo+(p - n)) q)=Ai f n fun p q=>F (lo+p) q:=by
     funext p q;unfold Ai;split<;>rfl
    rw[ef];simp only[BD];by_cases e:r=j
    ·simp[e]
    ·simp[e]
   have D:dom (put (put (put (DQ ob id) r (.row de.k (n+m) (Ai f n fun p q=>.v (U p q)))) i (.row de.k N (ntR F lo m))) r (.row de.k (n+m) (fun p q=>if p<n then Ai f n (fun p q=>.v (U p q)) p q else F (lo+(p - n)) q)))=dom (put (put (DQ ob id) i (.row de.k N (ntR F lo m))) r (.row de.k (n+m) (Ai f n fun p q=>F (lo+p) q))):=by
    funext j;unfold dom;rw[g]
   refine⟨z,w',E2,g1,⟨Q.kp.trans R.kp,fun j A=>(R.bl j (T j A)).trans (Q.bl j A),fun j A=>(R.hv j (T j A)).trans (Q.hv j A)⟩,fun j A=>?_,fun j o A=>?_,?_⟩
   ·rw[<-D];exact BT (BT (T j A))
   ·rw[<-D];exact k2 j o (by rw[g];exact A)
   ·rw[<-D];exact g5.ext R (fun j A=>BT (BT A))
  ·cases b
 ·cases b
def Do(P:Program)(f:Nat):Prop:=∀(args:Array Value) (w:World),(callFunc f args).run P w = .ok (.enter f args) w
structure Bi (P:Program) (Γ : List (Nat×AL)) (w:World):Prop where
 a:∀f sp,f<1000000->get Γ f=some sp->Fg P f sp w/\Do P f
 k:∀f sp,f<1000000->get Γ (f+1000000)=some sp->Fg P f sp w/\Do P f
 p:∀f sp,f<1000000->get Γ (f+2000000)=some sp->KX P f sp w/\Do P f
 pk:∀f sp,f<1000000->get Γ (f+3000000)=some sp->KX P f sp w/\Do P f
 n:∀f sp,f<1000000->get Γ (f+4000000)=some sp->Nr P f sp w/\Do P f
 o:∀f sp,f<1000000->get Γ (f+5000000)=some sp->Ns P f sp w/\Do P f
def GOk(P:Program)(Γ : List (Nat×AL)):Prop:=∀w,Bi P Γ w
theorem Bi.nil:Bi P [] w:=⟨fun _ _ _ h=>(by cases h),fun _ _ _ h=>(by cases h),fun _ _ _ h=>(by cases h),fun _ _ _ h=>(by cases h),fun _ _ _ h=>(by cases h),fun _ _ _ h=>(by cases h)⟩
theorem KZ{α : Type}{Γ : List (Nat×α)}{g:Nat}{x y:α}(h:get ((k,x) :: Γ) g=some y):(k=g/\x=y)\/get Γ g=some y:=by
 simp only[get]at h;split at h
 · rename_i e;cases h;exact .inl ⟨e,rfl⟩
 · exact .inr h
section
variable {P : Program} {w : World} {Γ : List (Nat × AL)} {f : Nat} {sp : AL}
theorem Bi.putA(m:f<1000000)(h:Fg P f sp w)(l:Do P f)(i:Bi P Γ w):Bi P ((f,sp) :: Γ) w:=by
 refine⟨fun g s c d=>?_,fun g s c d=>?_,fun g s c d=>?_,fun g s c d=>?_,fun g s c d=>?_,fun g s c d=>?_⟩<;>rcases KZ d with⟨e,j⟩ | b
 all_goals first
  | omega
  | (obtain rfl:f=g:=by omega
     subst j;exact⟨h,l⟩)
  | exact i.a g s c b
  | exact i.k g s c b
  | exact i.p g s c b
  | exact i.pk g s c b
  | exact i.n g s c b
  | exact i.o g s c b
theorem Bi.putK(m:f<1000000)(h:Fg P f sp w)(l:Do P f)(i:Bi P Γ w):Bi P ((f+1000000,sp) :: Γ) w:=by
 refine⟨fun g s c d=>?_,fun g s c d=>?_,fun g s c d=>?_,fun g s c d=>?_,fun g s c d=>?_,fun g s c d=>?_⟩<;>rcases KZ d with⟨e,j⟩ | b
 all_goals first
  | omega
  | (obtain rfl:f=g:=by omega
     subst j;exact⟨h,l⟩)
  | exact i.a g s c b
  | exact i.k g s c b
  | exact i.p g s c b
  | exact i.pk g s c b
  | exact i.n g s c b
  | exact i.o g s c b
theorem Bi.putP(m:f<1000000)(h:KX P f sp w)(l:Do P f)(i:Bi P Γ w):Bi P ((f+2000000,sp) :: Γ) w:=by
 refine⟨fun g s c d=>?_,fun g s c d=>?_,fun g s c d=>?_,fun g s c d=>?_,fun g s c d=>?_,fun g s c d=>?_⟩<;>rcases KZ d with⟨e,j⟩ | b
 all_goals first
  | omega
  | (obtain rfl:f=g:=by omega
     subst j;exact⟨h,l⟩)
  | exact i.a g s c b
  | exact i.k g s c b
  | exact i.p g s c b
  | exact i.pk g s c b
  | exact i.n g s c b
  | exact i.o g s c b
theorem Bi.putQ(m:f<1000000)(h:KX P f sp w)(l:Do P f)(i:Bi P Γ w):Bi P ((f+3000000,sp) :: Γ) w:=by
 refine⟨fun g s c d=>?_,fun g s c d=>?_,fun g s c d=>?_,fun g s c d=>?_,fun g s c d=>?_,fun g s c d=>?_⟩<;>rcases KZ d with⟨e,j⟩ | b
 all_goals first
  | omega
  | (obtain rfl:f=g:=by omega
     subst j;exact⟨h,l⟩)
  | exact i.a g s c b
  | exact i.k g s c b
  | exact i.p g s c b
  | exact i.pk g s c b
  | exact i.n g s c b
  | exact i.o g s c b
theorem Bi.putN(m:f<1000000)(h:Nr P f sp w)(l:Do P f)(i:Bi P Γ w):Bi P ((f+4000000,sp) :: Γ) w:=by
 refine⟨fun g s c d=>?_,fun g s c d=>?_,fun g s c d=>?_,fun g s c d=>?_,fun g s c d=>?_,fun g s c d=>?_⟩<;>rcases KZ d with⟨e,j⟩ | b
 all_goals first
  | omega
  | (obtain rfl:f=g:=by omega
     subst j;exact⟨h,l⟩)
  | exact i.a g s c b
  | exact i.k g s c b
  | exact i.p g s c b
  | exact i.pk g s c b
  | exact i.n g s c b
  | exact i.o g s c b
theorem Bi.putO(m:f<1000000)(h:Ns P f sp w)(l:Do P f)(i:Bi P Γ w):Bi P ((f+5000000,sp) :: Γ) w:=by
 refine⟨fun g s c d=>?_,fun g s c d=>?_,fun g s c d=>?_,fun g s c d=>?_,fun g s c d=>?_,fun g s c d=>?_⟩<;>rcases KZ d with⟨e,j⟩ | b
 all_goals first
  | omega
  | (obtain rfl:f=g:=by omega
     subst j;exact⟨h,l⟩)
  | exact i.a g s c b
  | exact i.k g s c b
  | exact i.p g s c b
  | exact i.pk g s c b
  | exact i.n g s c b
  | exact i.o g s c b
theorem GOk.nil:GOk P []:=fun _=>Bi.nil
theorem GOk.cons(h:An P f sp)(a:Do P f)(c:GOk P Γ)(b:f<1000000:=by decide):GOk P ((f,sp) :: Γ):=fun w=>Bi.putA b (h w) a (c w)
theorem GOk.ptr(h:DK P f sp)(a:Do P f)(c:GOk P Γ)(b:f<1000000:=by decide):GOk P ((f+2000000,sp) :: Γ):=fun w=>Bi.putP b (h w) a (c w)
theorem GOk.ptrK(h:DK P f sp)(a:Do P f)(c:GOk P Γ)(b:f<1000000:=by decide):GOk P ((f+3000000,sp) :: Γ):=fun w=>Bi.putQ b (h w) a (c w)
theorem GOk.own(h:N8 P f sp)(a:Do P f)(c:GOk P Γ)(b:f<1000000:=by decide):GOk P ((f+5000000,sp) :: Γ):=fun w=>Bi.putO b (h w) a (c w)
theorem GOk.new(h:N7 P f sp)(a:Do P f)(c:GOk P Γ)(b:f<1000000:=by decide):GOk P ((f+4000000,sp) :: Γ):=fun w=>Bi.putN b (h w) a (c w)
end
def partsOf:List (Nat×Operand)->List Av->Option (List (Nat×List Cv))
 | [],[]=>some []
 | (i,_) :: r,.m _ c :: s=>match partsOf r s with
   | some q=>some ((i,c) :: q)
   | none=>none
 | _,_=>none
def shp:Option Ob->Option (Nat×Nat)
 | some (.row k n _)=>some (k,n)
 | _=>none
def evSlice(ob:List (Nat×Ob))(k:Nat)(lo hi:Option Operand):List Av->Option (Prop×Cv)
 | [.m false [.s fl k' n f],.m false [.v (.int _ x)]]=>if k'=k then match lo,hi with
   | none,some _=>some (0<=x/\x<=n,.s fl k x.toNat f)
   | some _,none=>some (0<=x/\x<=n,.s fl k (n - x.toNat) fun p q=>f (x.toNat+p) q)
   | _,_=>none
   else none
 | [.m false [.h i],.m false [.v (.int _ x)]]=>match shp (get ob i)with
   | some (k',n)=>if k'=k then match lo,hi with
     | none,some _=>some (0<=x/\x<=n,.hs i k 0 x.toNat)
     | some _,none=>some (0<=x/\x<=n,.hs i k x.toNat (n - x.toNat))
     | _,_=>none
     else none
   | none=>none
 | _=>none
def evLd(T:Tb)(t:Nat)(d:TyD)(ob:List (Nat×Ob))(dst:Option Nat)(x:Cv):Option Dl:=
 match (if t=T.tk/\d.k=1/\d.g=false then dst else none).bind fun i=>evTake ob (rid i 0) x with
 | some q=>some ⟨q.1,dst.map fun i=>.m false [.h (rid i 0)],q.2,true⟩
 | none=>match evLoad d ob x with
   | some q=>some ⟨q.1,some q.2,ob,false⟩
   | none=>none
def evSt(d:TyD)(ob:List (Nat×Ob))(c:List Cv)(x:Cv):Option (Prop×List (Nat×Ob)):=
 match c,x with
 | [.h r],.e i k a j=>evStoreH d ob r (.e i k a j)
 | _,.e i k a j=>evStore d (frz c ob).2 (frz c ob).1 (.e i k a j)
 | _,_=>evStore d ob c x
def JJ(T:Tb)(t:Nat)(de:TyD)(ob:List (Nat×Ob))(r:Nat)(x y:Cv):Option (Prop×List (Nat×Ob)):=
 match if t=T.mv then evAppendM de ob r x y else none with
 | some q=>some q
 | none=>match evAppendT de ob r x y with
   | some q=>some q
   | none=>evAppend de ob r x y
def evField(d:TyD)(f:Nat)(c:List Cv):Option Av:=
 match d.fs[f]? with
 | some q=>if q.1+q.2<=c.length then some (.m (q.2 != 1) ((c.drop q.1).take q.2))else none
 | none=>none
def yR:Tr->Int
 | .v (.int _ x)=>x
 | _=>0
def Md(n:Nat)(f:Nat->Nat->Tr):ByteArray:=strOfNums ((List.range n).map fun p=>yR (f p 0))
def evConv(T:Tb)(src dst:Nat)(ob:List (Nat×Ob)):Cv->Option (Prop×Value)
 | .v (.int _ x)=>match T.ik src,T.ik dst with
   | some _,some k=>some (True,.int k (k.wrap x))
   | _,_=>none
 | .h i=>match rowE ob i with
   | some (k,n,f)=>if src=T.by'/\dst=T.sx/\k=1 then some (∀p,p<n->∃x,f p 0 = .v (.int .u8 x),.string (Md n f))else none
   | none=>none
 | _=>none
def evC(Γ : List (Nat×AL))(f i:Nat)(ob:List (Nat×Ob))(r:List Av):Option Dl:=
 if f<1000000 then match get Γ f with
  | some sp=>evCall false sp i ob r
  | none=>match get Γ (f+1000000)with
    | some sp=>evCall true sp i ob r
    | none=>match get Γ (f+4000000)with
      | some sp=>evCallN sp i ob r
      | none=>match get Γ (f+5000000)with
       | some sp=>evCallO sp i ob r
       | none=>match r with
        | .m false [.p j 0] :: r'=>match get Γ (f+2000000)with
          | some sp=>evCallP false sp i j ob r'
          | none=>match get Γ (f+3000000)with
            | some sp=>evCallP true sp i j ob r'
            | none=>none
        | _=>none
 else none
def coreU(T:Tb)(Γ : List (Nat×AL))(dst:Option Nat)(ob:List (Nat×Ob))(op:Op)(l:List Av):Option Dl:=
 match op with
 | .move _=>match l with | [x]=>some ⟨True,some x,ob,false⟩ | _=>none
 | .assign _=>match l with | [x]=>some ⟨True,some x,ob,false⟩ | _=>none
 | .nilCheck _=>match l with | [.m false [.p i o]]=>some ⟨True,some (.m false [.p i o]),ob,false⟩ | _=>none
 | .unOp .not _ _=>match l with | [.m false [.v (.bool b)]]=>some ⟨True,some (.m false [.v (.bool !b)]),ob,false⟩ | _=>none
 | .binOp o t _ _ _=>match l with
   | [x,y]=>match bin T o t x y with
     | some q=>some ⟨q.1,some (.m false [.v q.2]),ob,false⟩
     | none=>none
   | _=>none
 | .alloc t=>match l,T.ty t,dst with
   | [],some d,some i=>match evAlloc d ob i with
     | some ob'=>some ⟨True,some (.m false [.p i 0]),ob',true⟩
     | none=>none
   | _,_,_=>none
 | .box t _=>match l,dst with
   | [.m _ c],some i=>match KC ob i c with
     | some ob'=>some ⟨True,some (.m false [.p i 0]),ob',true⟩
     | none=>none
   | _,_=>none
 | .load t _=>match l,T.ty t with
   | [.m false [x]],some d=>evLd T t d ob dst x
   | _,_=>none
 | .store t _ _=>match l,T.ty t,dst with
   | [.m false [x],.m _ c],some d,none=>match evSt d ob c x with
     | some q=>some ⟨q.1,none,q.2,true⟩
     | none=>none
   | _,_,_=>none
 | .fieldAddr t _ f=>match l,T.ty t with
   | [.m false [x]],some d=>match d.fs[f]?,x with
     | some q,.p i o=>some ⟨True,some (.m false [.p i (o+q.1)]),ob,false⟩
     | some q,.e i k a j=>some ⟨True,some (.m false [.e i k a (j+q.1)]),ob,false⟩
     | some q,.q fl k n g a j=>some ⟨True,some (.m false [.q fl k n g a (j+q.1)]),ob,false⟩
     | _,_=>none
   | _,_=>none
 | .indexAddr t _ _=>match l,T.ty t with
   | [.m false [x],.m false [.v (.int _ ix)]],some d=>match T.ty d.el,x with
     | some de,.s fl k n g=>if k=de.k/\d.el≠0 then some ⟨0<=ix/\ix<n,some (.m false [.q fl k n g ix.toNat 0]),ob,false⟩else none
     | some de,.h i=>match get ob i with
       | some (.row k n g)=>if k=de.k/\d.el≠0 then some ⟨0<=ix/\ix<n,some (.m false [.e i k ix.toNat 0]),ob,false⟩else none
       | _=>none
     | _,_=>none
   | _,_=>none
 | .index t _ _=>match l with
   | [.m false [.v (.string s)],.m false [.v (.int _ ix)]]=>if t=T.sx then some ⟨0<=ix/\ix<s.size,some (.m false [.v (.int .u8 ((s[ix.toNat]?).getD 0).toNat)]),ob,false⟩else none
   | _=>none
 | .extract _ ix=>match l with
   | [.t q]=>match q[ix]? with
     | some r=>some ⟨True,some (.m r.1 r.2),ob,false⟩
     | none=>none
   | _=>none
 | .build t ps=>match T.ty t,partsOf ps.toList l with
   | some d,some q=>match fillC (fun f=>d.fs[f]?) (d.z.map .v) q with
     | some c=>if d.fs.isEmpty then none else some ⟨True,some (.m true c),ob,false⟩
     | none=>none
   | _,_=>none
 | .buildSlice t n ps=>match T.ty t,partsOf ps.toList l,dst with
   | some d,some q,some i=>match T.ty d.el with
     | some de=>match MF de ob (rid i 0) n q with
       | some ob'=>if d.el=0 then none else some ⟨True,some (.m false [.h (rid i 0)]),ob',true⟩
       | none=>none
     | none=>none
   | _,_,_=>none
 | .slice t _ lo hi none=>match T.ty t with
   | some d=>match T.ty d.el with
     | some de=>match evSlice ob de.k lo hi l with
       | some q=>if d.el=0 then none else some ⟨q.1,some (.m false [q.2]),ob,false⟩
       | none=>none
     | none=>none
   | none=>none
 | .makeSlice t _ _=>match l,T.ty t,dst with
   | [.m false [.v (.int _ x)],.m false [.v (.int _ y)]],some d,some i=>match T.ty d.el with
     | some de=>match evMakeSlice de ob (rid i 0) x with
       | some ob'=>if d.el=0 then none else some ⟨y=x/\0<=x/\x<=1000000,some (.m false [.h (rid i 0)]),ob',true⟩
       | none=>none
     | none=>none
   | _,_,_=>none
 | .call ⟨.builtin .len,_,tys⟩=>match l with
   | [.m false [.v (.string s)]]=>if tys.toList = [T.sx] then some ⟨True,some (.m false [.v (.int .i64 s.size)]),ob,false⟩else none
   | [.m false [x]]=>match tys.toList with
     | [t]=>match T.ty t,evLen ob x with
       | some d,some n=>if d.el=0 then none else some ⟨True,some (.m false [.v (.int .i64 n)]),ob,false⟩
       | _,_=>none
     | _=>none
   | _=>none
 | .call ⟨.builtin .append,_,tys⟩=>match l,tys.toList,dst with
   | [.m false [x],.m false [y]],[t,t'],some i=>match T.ty t with
     | some d=>match T.ty d.el with
       | some de=>match JJ T t de ob (rid i 0) x y with
         | some q=>if t'=t/\d.el≠0 then some ⟨q.1,some (.m false [.h (rid i 0)]),q.2,true⟩else none
         | none=>none
       | none=>none
     | none=>none
   | _,_,_=>none
 | .call ⟨.value (.func f),args,_⟩=>match l,dst with
   | _ :: r,some i=>evC Γ f i ob r
   | _,_=>none
 | .field t _ f=>match l,T.ty t with
   | [.m true c],some d=>match evField d f c with
     | some av=>some ⟨True,some av,ob,false⟩
     | none=>none
   | _,_=>none
 | .convert src t _=>match l with
   | [.m false [x]]=>match evConv T src t ob x with
     | some q=>some ⟨q.1,some (.m false [.v q.2]),ob,false⟩
     | none=>none
   | _=>none
 | _=>none
def BB(T:Tb)(Γ : List (Nat×AL))(dst:Option Nat)(ob:List (Nat×Ob))(op:Op)(l:List Av):Option Dl:=coreU T Γ dst ob op l
def Ri(E:En)(w:World)(ob:List (Nat×Ob))(o:Oper)(a:Act)(D:Dl):Act->World->Prop:=fun a' w'=>
 ∃y E',a'=a.put o.dst y/\AX (dom ob) w E w' E'/\(∀j,dom ob j->dom D.ob j)/\AU w' E' D.ob/\∀av,D.av=some av->AvR w' E' (dom D.ob) av y
section
variable {P : Program} {a : Act} {w : World} {o : Oper} {K : Act -> World -> Prop} {Q : Exit -> Act -> World -> Prop}
theorem Cu{s:Sem Value}{z:Value}{w':World}(h:execOp a.eval o=(do pure (.value (<-s))))(b:s.run P w = .ok z w')(hK:K (a.put o.dst z) w'):o.wp P a w K Q:=by
 unfold Oper.wp;rw[h];simp only[Sem.run_bind,b,Result.andThen_ok];exact hK
theorem PN{s:Sem Unit}{w':World}(h:execOp a.eval o=(do s;pure .skip))(b:s.run P w = .ok () w')(hK:K (a.put o.dst undef) w'):o.wp P a w K Q:=by
 unfold Oper.wp;rw[h];simp only[Sem.run_bind,b,Result.andThen_ok];exact hK
end
variable{α β:Type}
theorem V5{R:α->β->Prop}{l:List β}(h:AR R [] l):l = []:=by cases h;rfl
theorem Fi{R:α->β->Prop}{x:α}{l:List β}(h:AR R [x] l):∃y,l = [y]/\R x y:=by
 cases h with
 | cons h t=>cases t;exact⟨_,rfl,h⟩
theorem G6{R:α->β->Prop}{x x':α}{l:List β}(h:AR R [x,x'] l):∃y a,l = [y,a]/\R x y/\R x' a:=by
 cases h with
 | cons h t=>
   obtain⟨a,rfl,b⟩:=Fi t;exact⟨_,a,rfl,h,b⟩
theorem RI{w:World}{E:En}{D:Nat->Prop}{a:Act}:∀{ps:List (Nat×Operand)} {l:List Av} {q:List (Nat×List Cv)},partsOf ps l=some q->AR (fun x b=>AvR w E D b (a.eval x)) (ps.map (·.2)) l->
 AR (fun (p:Nat×List Cv) (v:Nat×Value)=>p.1=v.1/\CsR w E D p.2 v.2.cells.toList) q (ps.map fun p=>(p.1,a.eval p.2))
 | [],l,q,h,hl=>by
   have:=V5 hl;subst this;cases h;exact .nil
 | (i,x) :: r,l,q,h,hl=>by
   cases hl with
   | @cons _ b _ l' h1 t=>
     cases b with
     | m g c=>
       simp only[partsOf]at h;split at h
       · rename_i d hq'
         cases h;exact .cons ⟨rfl,VlR.cells h1⟩ (RI hq' t)
       · cases h
     | t l=>cases h
theorem Same.after{o:Oper}{a:Act}{x:Av}{z:Value}(b:AU w E ob)(h:AvR w E (dom ob) x z):Ri E w ob o a ⟨c,some x,ob,false⟩ (a.put o.dst z) w:=
 ⟨z,E,rfl,AX.refl _ _ _,fun _ h=>h,b,fun d e=>by cases e;exact h⟩
theorem av1{D:Nat->Prop}{y:Value}(h:CvR w E D x y):AvR w E D (.m false [x]) y:=⟨x,rfl,h⟩
end Go.Proofs.YtddigaohmfpepaaGreatDoor
