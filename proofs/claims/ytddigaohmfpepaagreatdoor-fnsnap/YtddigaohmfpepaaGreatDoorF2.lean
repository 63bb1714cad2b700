/- A part of the proof. -/
import Derived.Test.YtddigaohmfpepaaGreatDoorF1
set_option linter.unusedVariables false
set_option maxRecDepth 20000
set_option maxHeartbeats 4000000
namespace Go.Proofs.YtddigaohmfpepaaGreatDoor
open Go.RowKit
variable{w:World}{g:Nat->Bs}{B:Nat}
theorem Kp.turn{o o':Ow}(h:g B = .ow o 0)(c:Array Value):Kp w g (w.setRow B c) (fun b=>if b=B then .ow o' 0 else g b):=by
 refine⟨rfl,rfl,rfl,by simp[World.setRow],fun b r a k=>?_,fun b q f a k=>?_⟩
 ·have d:b≠B:=fun e=>by rw[e,h]at a;cases a
  exact⟨Fk w B c b d,by rw[if_neg d];exact a⟩
 ·by_cases e:b=B
  ·subst e;rw[h]at a;cases a;exact⟨fun j i=>by omega,.inl ⟨o',0,if_pos rfl,Nat.le_refl _⟩⟩
  ·exact⟨fun j i=>World.cell?_of_block (w:=w) (Fk w B c b e),.inl ⟨q,f,by rw[if_neg e];exact a,Nat.le_refl _⟩⟩
variable{g':Nat->Bs}{j:Nat}{u:Value}
theorem CM.ext{w':World}{B':Nat}{T:Tr}(h:CM w g B j T u)(A:∀b e,g b = .ow (.tl B j) e->b<w.heap.size->w'.heap[b]?=w.heap[b]?/\g' b = .ow (.tl B' j) e):CM w' g' B' j T u:=by
 revert h;cases T with
 | v x=>exact id
 | s fl k n f=>
  cases fl with
  | b=>exact id
  | z=>exact id
  | o=>
   rintro⟨a,c,rfl,y⟩;refine⟨a,c,rfl,fun q=>?_⟩;obtain⟨b,r,i,cs,t,d,l⟩:=y q;obtain⟨m,p⟩:=A b _ i (Array.getElem?_eq_some_iff.1 d).1;exact⟨b,r,p,cs,t,by rw[m];exact d,l⟩
variable{ob:List (Nat×Ob)}{i:Nat}
theorem Ik(hi:dom ob i)(a:get ob j=none):i≠j:=fun e=>by unfold dom at hi;rw[e,a]at hi;cases hi
def Frm(w w':World)(E E':En)(i:Option Nat):Prop:=∀b,b<w.heap.size->(∀q,i=some q->(∀lim,E.g b≠.ow (.nm q) lim)/\∀j lim,E.g b≠.ow (.tl (E.bl q) j) lim)->w'.heap[b]?=w.heap[b]?/\E'.g b=E.g b
variable{E:En}{r n:Nat}{f:Nat->Nat->Tr}{c1:List Value}
theorem Ty(G:AU w E ob)(hi:dom ob i)(J:get ob r=none)(s:E.g (E.bl i) = .ow (.nm i) 0){c:Array Value}{T:TypeId}(D:w.heap[E.bl i]?=some (.cells c T (0,0))){k cap:Nat}
 (hn:n<=cap) (F:c1.length=cap*k) (B:∀p j,p<n->j<k->∃u,c1[p*k+j]?=some u/\Sh w E.g (f p j) u/\CM w E.g (E.bl i) (p*k+j) (f p j) u) :
 ∃x,AX (dom ob) w E (w.setRow (E.bl i) c1.toArray) x/\AU (w.setRow (E.bl i) c1.toArray) x (put (put ob i .dead) r (.row k n f))/\AvR (w.setRow (E.bl i) c1.toArray) x (dom (put (put ob i .dead) r (.row k n f))) (.m false [.h r]) (.slice (some ⟨E.bl i,0,none⟩) n cap)/\Frm w (w.setRow (E.bl i) c1.toArray) E x (some i):=by
 have l:∀j,dom ob j->j≠r:=fun j a=>Ik a J
 have z:AX (dom ob) w E (w.setRow (E.bl i) c1.toArray) ⟨fun b=>if b=E.bl i then .ow (.nm r) 0 else E.g b,fun j=>if j=r then E.bl i else E.bl j,fun j=>if j=r then .slice (some ⟨E.bl i,0,none⟩) n cap else E.hv j⟩:=
  ⟨Kp.turn s _,fun j a=>if_neg (l j a),fun j a=>if_neg (l j a)⟩
 refine⟨_,z,fun j b a=>?_,⟨.h r,rfl,by unfold dom;rw[BD,if_pos rfl];rfl,by simp,rfl⟩,fun b o I=>?_⟩;rotate_left
 ·have l:b≠E.bl i:=fun e=>(I i rfl).1 0 (e▸s)
  exact⟨Fk _ _ _ _ l,if_neg l⟩
 rw[BD,BD]at a;by_cases e:r=j
 ·subst e;rw[if_pos rfl]at a;cases a;refine⟨some ⟨E.bl i,0,none⟩,cap,by simp,hn,fun M=>⟨by simp,by simp,c1,T,by simpa using setRow_heap _ _ _ _ _ _ D,F,fun p j H a=>?_⟩⟩;obtain⟨u,L,hs,K⟩:=B p j H a;refine⟨u,L,hs.kp z.kp,?_⟩;simp only[if_true];refine K.ext (fun b v o A=>?_);have q:b≠E.bl i:=fun e=>by rw[e,s]at o;cases o
  exact⟨Fk _ _ _ _ q,by rw[if_neg q];exact o⟩
 ·rw[if_neg e]at a;by_cases y:i=j
  ·rw[if_pos y]at a;cases a;trivial
  ·rw[if_neg y]at a;have C:dom ob j:=(by unfold dom;rw[a];rfl);refine ObR.ext z (fun j a=>BT (BT a)) C (X:=fun b=>b=E.bl i) (fun b o t=>⟨Fk _ _ _ _ t,if_neg t⟩) (fun b v o d=>?_) (fun _ b N v o d=>?_) (G j b a)
   ·rw[o,s]at d;cases d;exact y rfl
   ·rw[o,s]at d;cases d
def Bs.mv(B B':Nat):Bs->Bs
 | .ow (.tl b j) lim=>if b=B then .ow (.tl B' j) lim else .ow (.tl b j) lim
 | s=>s
theorem zFz(L:AU w E ob)(hi:dom ob i)(O:get ob r=none)(J:E.g (E.bl i) = .ow (.nm i) 0){k cap:Nat}{T:TypeId}
 (hn:n<=cap) (t:c1.length=cap*k) (H:∀p j,p<n->j<k->∃u,c1[p*k+j]?=some u/\Sh w E.g (f p j) u/\CM w E.g (E.bl i) (p*k+j) (f p j) u) :
 ∃z,AX (dom ob) w E (w.alloc (.cells c1.toArray T)) z/\AU (w.alloc (.cells c1.toArray T)) z (put (put ob i .dead) r (.row k n f))/\AvR (w.alloc (.cells c1.toArray T)) z (dom (put (put ob i .dead) r (.row k n f))) (.m false [.h r]) (.slice (some ⟨w.heap.size,0,none⟩) n cap)/\Frm w (w.alloc (.cells c1.toArray T)) E z (some i):=by
 have v:∀j,dom ob j->j≠r:=fun j c=>Ik c O
 have K:Kp w E.g (w.alloc (.cells c1.toArray T)) (fun b=>if b=w.heap.size then .ow (.nm r) 0 else(E.g b).mv (E.bl i) w.heap.size):=by
  refine⟨rfl,rfl,rfl,by simp,fun b q d t=>⟨Below.heap_alloc _ _ _ t,?_⟩,fun b q a d t=>⟨fun j _=>World.cell?_of_block (w:=w) (Below.heap_alloc _ _ _ t),?_⟩⟩
  ·rw[if_neg (by omega),d];rfl
  ·rw[if_neg (by omega),d];cases q with
   | nm x=>exact .inl ⟨_,a,rfl,Nat.le_refl _⟩
   | tl x y=>
    by_cases e:x=E.bl i
    ·exact .inl ⟨.tl w.heap.size y,a,by simp[Bs.mv,e],Nat.le_refl _⟩
    ·exact .inl ⟨.tl x y,a,by simp[Bs.mv,e],Nat.le_refl _⟩
 have F:AX (dom ob) w E (w.alloc (.cells c1.toArray T)) ⟨fun b=>if b=w.heap.size then .ow (.nm r) 0 else(E.g b).mv (E.bl i) w.heap.size,fun j=>if j=r then w.heap.size else E.bl j,fun j=>if j=r then .slice (some ⟨w.heap.size,0,none⟩) n cap else E.hv j⟩:=
  ⟨K,fun j c=>if_neg (v j c),fun j c=>if_neg (v j c)⟩
 refine⟨_,F,fun j b c=>?_,⟨.h r,rfl,by unfold dom;rw[BD,if_pos rfl];rfl,by simp,rfl⟩,fun b d N=>?_⟩;rotate_left
 ·refine⟨Below.heap_alloc _ _ _ d,?_⟩;show(if b=w.heap.size then _ else _)=_;rw[if_neg (by omega)];cases hgb:E.g b with
  | fz r=>rfl
  | ow o a=>
   cases o with
   | nm j=>rfl
   | tl B j=>
    refine if_neg (fun e=>(N i rfl).2 j a ?_);rw[<-e];exact hgb
 rw[BD,BD]at c;by_cases e:r=j
 ·subst e;rw[if_pos rfl]at c;cases c;refine⟨some ⟨w.heap.size,0,none⟩,cap,by simp,hn,fun R=>⟨by simp,by simp,c1,T,by simpa using OF w _,t,fun p j M c=>?_⟩⟩;obtain⟨u,Q,hs,P⟩:=H p j M c;refine⟨u,Q,hs.kp F.kp,?_⟩;simp only[if_true];exact P.ext (fun b a d C=>⟨Below.heap_alloc _ _ _ C,by rw[if_neg (by omega),d];simp[Bs.mv]⟩)
 ·rw[if_neg e]at c;by_cases A:i=j
  ·rw[if_pos A]at c;cases c;trivial
  ·rw[if_neg A]at c;have I:dom ob j:=(by unfold dom;rw[c];rfl);refine ObR.ext F (fun j c=>BT (BT c)) I (X:=fun b=>∃q a,E.g b = .ow (.tl (E.bl i) q) a) (fun b d D=>⟨Below.heap_alloc _ _ _ d,?_⟩) (fun b a ⟨q,l,d⟩ hgb=>?_) (fun s b S a ⟨q,l,d⟩ hgb=>?_) (L j b c)
   ·show(if b=w.heap.size then _ else _)=_;rw[if_neg (by omega)];cases hgb:E.g b with
    | fz x=>rfl
    | ow q a=>
     cases q with
     | nm x=>rfl
     | tl x y=>
      have:x≠E.bl i:=fun e=>D ⟨y,a,by rw[hgb,e]⟩
      simp[Bs.mv,this]
   ·rw[d]at hgb;cases hgb
   ·rw[d]at hgb;simp only[Bs.ow.injEq,Ow.tl.injEq]at hgb;have G:=hgb.1.1;rw[<-G,J]at s;cases s;exact A rfl
def dstOf(k:Nat)(ob:List (Nat×Ob)):Cv->Option (Option Nat×Nat×(Nat->Nat->Tr))
 | .h i=>match get ob i with
  | some (.row k' n f)=>if k'=k then some (some i,n,f)else none
  | _=>none
 | .v (.slice none 0 0)=>some (none,0,fun _ _=>.v (.bool false))
 | _=>none
def DQ(ob:List (Nat×Ob)):Option Nat->List (Nat×Ob)
 | some i=>put ob i .dead
 | none=>ob
variable{P:Program}{x:Cv}
theorem Ye{t:Nat}{d de:TyD}(h:BA P t d)(he:d.el≠0)(h':BA P d.el de)(ho:AU w E ob){m:Nat}{i:Option Nat}{f':Nat->Nat->Tr}(hr:get ob r=none)(N:dstOf de.k ob x=some (i,n,f))(hc:n+m<=1000000000){v:Value}(I:CvR w E (dom ob) x u)(vA:∀p q,∀B j u,CM w E.g B j (f' p q) u)(S:ZW w E.g de.k m f' v)(ty:Nat) :
 ∃z w' D,(Builtin.append_ #[t,t] ty #[u,v]).run P w = .ok z w'/\AX (dom ob) w E w' D/\(∀j,dom ob j->dom (put (DQ ob i) r (.row de.k (n+m) (Ai f n f'))) j)/\AU w' D (put (DQ ob i) r (.row de.k (n+m) (Ai f n f')))/\AvR w' D (dom (put (DQ ob i) r (.row de.k (n+m) (Ai f n f')))) (.m false [.h r]) z/\Frm w w' E D i:=by
 obtain⟨a',c',rfl,tA⟩:=S;obtain⟨b,o,l,hl,H,aA,sA⟩:∃b o,∃l:List Value,l.length=m*de.k/\(∀(j:Nat) u,l[j]?=some u->w.cell? ⟨b,o+j,none⟩=some u)/\(0<m->a'=some ⟨b,o,none⟩)/\∀p j,p<m->j<de.k->∃u,l[p*de.k+j]?=some u/\Sh w E.g (f' p j) u:=by
  rcases Nat.eq_zero_or_pos m with e | e
  ·subst e;exact⟨0,0,[],by simp,fun j u h=>by simp at h,fun h=>by omega,fun p j F=>by omega⟩
  ·obtain⟨b,o,ha,A⟩:=tA e;obtain⟨cs,Z,W⟩:=Y7 m (fun p j F c=>let ⟨u,I,_⟩:=A p j F c;⟨u,I⟩);refine⟨b,o,cs,Z,W,fun _=>ha,fun p j F c=>?_⟩;obtain⟨u,I,fA⟩:=A p j F c;have cA:=Fb F c;have h5:cs[p*de.k+j]?=some cs[p*de.k+j]:=List.getElem?_eq_getElem (by omega);have h6:=W _ _ h5;rw[I]at h6;cases h6;exact⟨_,h5,fA⟩
 have rA:∀u∈l,u.oneCell'=true:=fun u I=>by
  obtain⟨q,Y⟩:=List.getElem?_of_mem I;have cA:=(List.getElem?_eq_some_iff.1 Y).1;have F:=h'.pos;obtain⟨u',aB,vB⟩:=sA (q / de.k) (q % de.k) ((Nat.div_lt_iff_lt_mul F).2 (by omega)) (Nat.mod_lt _ F);rw[Nat.mul_comm,Nat.div_add_mod,Y]at aB;cases aB;exact vB.one
 have Q:∀(olds rest:List Value),olds.length=n*de.k->∀p j,p<n+m->j<de.k->¬p<n->∃u,(olds ++ l ++ rest)[p*de.k+j]?=some u/\Sh w E.g (Ai f n f' p j) u/\∀B q,CM w E.g B q (Ai f n f' p j) u:=fun olds rest rB p j F c s=>by
  obtain⟨u,I,fA⟩:=sA (p - n) j (by omega) c;have e:p*de.k+j=n*de.k+((p - n)*de.k+j):=by
   rw[<-Nat.add_assoc,<-Nat.add_mul];congr 2;omega
  refine⟨u,?_,?_,fun B q=>?_⟩
  ·have cA:=(List.getElem?_eq_some_iff.1 I).1;rw[e,List.append_assoc,List.getElem?_append_right (by omega),rB,Nat.add_sub_cancel_left,List.getElem?_append_left cA];exact I
  ·unfold Ai;rw[if_neg s];exact fA
  ·unfold Ai;rw[if_neg s];exact vA _ _ _ _ _
 have y:u = .slice none 0 0\/(∃a,u = .slice a 0 0)->n=0->(∀j,dom ob j->dom (put (DQ ob i) r (.row de.k (n+m) (Ai f n f'))) j)->((i=none)\/∃q,i=some q/\dom ob q)->
  ∃z w' D,(Builtin.append_ #[t,t] ty #[u,.slice a' m c']).run P w = .ok z w'/\AX (dom ob) w E w' D/\(∀j,dom ob j->dom (put (DQ ob i) r (.row de.k (n+m) (Ai f n f'))) j)/\AU w' D (put (DQ ob i) r (.row de.k (n+m) (Ai f n f')))/\AvR w' D (dom (put (DQ ob i) r (.row de.k (n+m) (Ai f n f')))) (.m false [.h r]) z/\Frm w w' E D i:=by
  intro bC pB G Y;obtain⟨a,rfl⟩:∃a,u = .slice a 0 0:=by rcases bC with e | ⟨a,e⟩;exact⟨none,e⟩;exact⟨a,e⟩
  subst pB;have O:∀{w1:World} {E1:En},AU w1 E1 (put ob r (.row de.k (0+m) (Ai f 0 f')))->AU w1 E1 (put (DQ ob i) r (.row de.k (0+m) (Ai f 0 f'))):=by
   intro w1 E1 dA;rcases Y with rfl | ⟨q,rfl,sB⟩
   ·exact dA
   ·have oC:q≠r:=Ik sB hr;intro j bb c;have hD:∀j,dom (put ob r (.row de.k (0+m) (Ai f 0 f'))) j->dom (put (DQ ob (some q)) r (.row de.k (0+m) (Ai f 0 f'))) j:=by
     intro j c;unfold dom DQ at *;rw[BD]at c ⊢;by_cases e:r=j
     ·rw[if_pos e];rfl
     ·rw[if_neg e]at c ⊢;rw[BD];split
      ·rfl
      ·exact c
    simp only[DQ]at c;rw[BD,BD]at c;by_cases e:r=j
    ·subst e;rw[if_pos rfl]at c;cases c;exact ObR.ext (AX.refl _ _ _) hD (by unfold dom;rw[BD,if_pos rfl];rfl) (X:=fun _=>False) (fun _ _ _=>⟨rfl,rfl⟩) (fun _ _ x=>x.elim) (fun _ _ _ _ x=>x.elim) (dA r _ (by rw[BD,if_pos rfl]))
    ·rw[if_neg e]at c;by_cases e':q=j
     ·rw[if_pos e']at c;cases c;trivial
     ·rw[if_neg e']at c;exact ObR.ext (AX.refl _ _ _) hD (by unfold dom;rw[BD,if_neg e,c];rfl) (X:=fun _=>False) (fun _ _ _=>⟨rfl,rfl⟩) (fun _ _ x=>x.elim) (fun _ _ _ _ x=>x.elim) (dA j _ (by rw[BD,if_neg e];exact c))
  rcases Nat.eq_zero_or_pos m with e | e
  ·subst e;have cB:AX (dom ob) w E w ⟨E.g,E.bl,fun j=>if j=r then .slice a 0 0 else E.hv j⟩:=⟨Kp.refl _ _,fun _ _=>rfl,fun j c=>if_neg (Ik c hr)⟩;refine⟨_,_,⟨E.g,E.bl,fun j=>if j=r then .slice a 0 0 else E.hv j⟩,O4 h he h' (Nat.le_refl _) ty,cB,G,O (fun j bb c=>?_),⟨.h r,rfl,by unfold dom;rw[BD,if_pos rfl];rfl,by simp,rfl⟩,fun _ _ _=>⟨rfl,rfl⟩⟩;rw[BD]at c;by_cases e:r=j
   ·subst e;rw[if_pos rfl]at c;cases c;exact⟨a,0,by simp,Nat.le_refl _,fun h0=>by omega⟩
   ·rw[if_neg e]at c;have N:dom ob j:=(by unfold dom;rw[c];rfl);exact ObR.ext cB (fun j c=>BT c) N (X:=fun _=>False) (fun _ _ _=>⟨rfl,rfl⟩) (fun _ _ x=>x.elim) (fun _ _ _ _ x=>x.elim) (ho j bb c)
  ·have ea:=aA e;subst ea;obtain⟨M,rest,Z,W,h3⟩:=QZ h he h' (w:=w) (a:=a) (n:=0) (cap:=0) (olds:=[]) (by simp) (fun h0=>by omega) hl H (Nat.le_refl _) (by omega) hc ty (c':=c');have eA:AU w.drew E ob:=fun j bb c=>ObR.ext ⟨Kp.drew _ _,fun _ _=>rfl,fun _ _=>rfl⟩ (fun _ h=>h) (by unfold dom;rw[c];rfl) (X:=fun _=>False) (fun _ _ _=>⟨rfl,rfl⟩) (fun _ _ x=>x.elim) (fun _ _ _ _ x=>x.elim) (ho j bb c)
   obtain⟨D,C,J,K,V⟩:=V1 eA hr (k:=de.k) (n:=0+m) (cap:=M) (f:=Ai f 0 f') (cs:=[] ++ l ++ rest) Z (by simp[W,hl];rw[<-Nat.add_mul];congr 1;omega) (fun p j F c=>by
    obtain⟨u,C,J,K⟩:=Q [] rest (by simp) p j F c (by omega);exact⟨u,C,J.kp (Kp.drew _ _),fun B o=>(K B o).ext (fun b eB S _=>⟨rfl,S⟩)⟩) (fun p j F c k2 n2 f2 e=>by
    have:=vA (p - 0) j 0 0 (.bool false);unfold Ai at e;rw[if_neg (by omega)]at e;rw[e]at this;obtain⟨_,_,e',_⟩:=this;cases e') d.el
   refine⟨_,_,D,h3,⟨(Kp.drew _ _).trans C.kp,C.bl,C.hv⟩,G,O J,?_⟩;refine⟨K.ext (AX.refl _ _ _) (fun j c=>?_),fun b S _=>V b S⟩;unfold dom at *;rw[BD]at c ⊢;by_cases e:r=j
   ·rw[if_pos e];rfl
   ·rw[if_neg e]at c ⊢;cases i with
    | none=>exact c
    | some q=>exact BT c
 unfold dstOf at N;split at N
 ·rename_i i'
  split at N
  ·rename_i k' n' fo hi
   split at N
   ·rename_i ek
    subst ek;cases N;obtain⟨a,cap,bB,hn,nA⟩:=ho _ _ hi;obtain⟨U,rfl,-⟩:=I;rw[bB];have G:∀j,dom ob j->dom (put (DQ ob (some i')) r (.row de.k (n+m) (Ai f n f'))) j:=fun j c=>BT (BT c)
    rcases Nat.eq_zero_or_pos cap with e0 | e0
    ·subst e0;have en:n=0:=(by omega);rw[bB]at y;subst en;exact y (.inr ⟨a,rfl⟩) rfl G (.inr ⟨i',rfl,U⟩)
    ·obtain⟨ha,hg,cs,T,hh,bA,A⟩:=nA e0;subst ha;by_cases hm:n+m<=cap
     ·
      have L:∀(c1:List Value),(∀q,q<n*de.k->c1[q]?=cs[q]?)->(∀p j,p<n+m->j<de.k->¬p<n->∃u,c1[p*de.k+j]?=some u/\Sh w E.g (Ai f n f' p j) u/\∀B q,CM w E.g B q (Ai f n f' p j) u)->∀p j,p<n+m->j<de.k->∃u,c1[p*de.k+j]?=some u/\Sh w E.g (Ai f n f' p j) u/\CM w E.g (E.bl i') (p*de.k+j) (Ai f n f' p j) u:=by
       intro c1 Z W p j F c;by_cases s:p<n
       ·obtain⟨u,I,hs,ht⟩:=A p j s c;have ef:Ai f n f' p j=f p j:=(by unfold Ai;rw[if_pos s]);rw[ef];exact⟨u,(Z _ (Fb s c)).trans I,hs,ht⟩
       ·obtain⟨u,C,J,K⟩:=W p j F c s;exact⟨u,C,J,K _ _⟩
      rcases Nat.eq_zero_or_pos m with e | e
      ·subst e;obtain⟨D,C,J,K,V⟩:=Ty ho U hr hg hh (k:=de.k) (n:=n+0) (cap:=cap) (f:=Ai f n f') (c1:=cs) hm bA (L cs (fun _ _=>rfl) (fun p j F c s=>by omega));rw[setRow_self _ _ _ T (0,0) hh]at C J K V;exact⟨_,_,D,O4 h he h' hn ty,C,G,J,K,V⟩
      ·have ea:=aA e;subst ea;have tB:=V9 h he h' hh bA hl H rA hm ty (c':=c');have kC:n*de.k+l.length<=cs.length:=by
        rw[hl,bA,<-Nat.add_mul];exact Nat.mul_le_mul_right _ hm
       have R:(cs.take (n*de.k)).length=n*de.k:=(by simp;omega);obtain⟨D,C,J,K,V⟩:=Ty ho U hr hg hh (k:=de.k) (n:=n+m) (cap:=cap) (f:=Ai f n f') (c1:=cs.take (n*de.k) ++ l ++ cs.drop (n*de.k+l.length)) hm (by simp;omega) (L _ (fun q Y=>by
        rw[List.append_assoc,List.getElem?_append_left (by omega),List.getElem?_take,if_pos Y]) (Q _ _ R))
       exact⟨_,_,D,tB,C,G,J,K,V⟩
     ·
      have oB:0<m:=(by omega);have ea:=aA oB;subst ea;have R:(cs.take (n*de.k)).length=n*de.k:=by
       have:=Nat.mul_le_mul_right de.k hn;simp;omega
      obtain⟨M,rest,Z,W,h3⟩:=QZ h he h' (w:=w) (a:=some ⟨E.bl i',0,none⟩) (n:=n) (cap:=cap) (olds:=cs.take (n*de.k)) R (fun _=>⟨_,rfl,fun j u c=>by
       rw[cell_of_row w _ _ _ T _ hh];rw[List.getElem?_take]at c;split at c
       ·simpa using c
       ·cases c⟩) hl H hn (by omega) hc ty (c':=c')
      have eA:AU w.drew E ob:=fun j bb c=>ObR.ext ⟨Kp.drew _ _,fun _ _=>rfl,fun _ _=>rfl⟩ (fun _ h=>h) (by unfold dom;rw[c];rfl) (X:=fun _=>False) (fun _ _ _=>⟨rfl,rfl⟩) (fun _ _ x=>x.elim) (fun _ _ _ _ x=>x.elim) (ho j bb c)
      obtain⟨D,C,J,K,V⟩:=zFz eA U hr hg (k:=de.k) (n:=n+m) (cap:=M) (f:=Ai f n f') (c1:=cs.take (n*de.k) ++ l ++ rest) (T:=d.el) Z (by
       rw[List.length_append,List.length_append,R,hl,W,<-Nat.add_mul,<-Nat.add_mul];congr 1;omega) (fun p j F c=>by
       by_cases s:p<n
       ·obtain⟨u,I,hs,ht⟩:=A p j s c;have ef:Ai f n f' p j=f p j:=(by unfold Ai;rw[if_pos s]);rw[ef];have Y:=Fb s c;refine⟨u,?_,hs.kp (Kp.drew _ _),ht.ext (fun b eB S _=>⟨rfl,S⟩)⟩;rw[List.append_assoc,List.getElem?_append_left (by omega),List.getElem?_take,if_pos Y];exact I
       ·obtain⟨u,C,J,K⟩:=Q _ rest R p j F c s;exact⟨u,C,J.kp (Kp.drew _ _),(K _ _).ext (fun b eB S _=>⟨rfl,S⟩)⟩)
      exact⟨_,_,D,h3,⟨(Kp.drew _ _).trans C.kp,C.bl,C.hv⟩,G,J,K,V⟩
   ·cases N
  ·cases N
 ·cases N;exact y (.inl I.1) rfl (fun j c=>BT c) (.inl rfl)
 ·cases N
def evAppend(de:TyD)(ob:List (Nat×Ob))(r:Nat)(x y:Cv):Option (Prop×List (Nat×Ob)):=
 match get ob r,dstOf de.k ob x,srcOf de.k ob y with
 | none,some (i,n,f),some (C,m,f')=>some (C/\n+m<=1000000000,put (DQ ob i) r (.row de.k (n+m) (Ai f n f')))
 | _,_,_=>none
variable{ob':List (Nat×Ob)}
theorem zBa{t:Nat}{d de:TyD}(h:BA P t d)(D:d.el≠0)(s:BA P d.el de)(g:AU w E ob){y:Cv}{c:Prop}(a:evAppend de ob r x y=some (c,ob'))(e:c){v:Value}(F:CvR w E (dom ob) x u)(hv:CvR w E (dom ob) y v)(ty:Nat) :
 ∃z w' b,(Builtin.append_ #[t,t] ty #[u,v]).run P w = .ok z w'/\AX (dom ob) w E w' b/\(∀j,dom ob j->dom ob' j)/\AU w' b ob'/\AvR w' b (dom ob') (.m false [.h r]) z:=by
 unfold evAppend at a;split at a
 ·rename_i i n f C m f' hr hd hs
  cases a;obtain⟨A,B⟩:=UD g hs e.1 hv;obtain⟨z,w',b,k,l,o,p,q,-⟩:=Ye h D s g hr hd e.2 F A B ty;exact⟨z,w',b,k,l,o,p,q⟩
 ·cases a
abbrev AL:=List (Bool×List Tr)->Option (Prop×List (Bool×List Tr))
def g00:Nat->Bs:=fun _=>.fz (some 0)
def FL(w:World)(g:Nat->Bs)(q:Bool×List Tr)(y:Value):Prop:=
 match q.1 with
 | true=>∃cs:List Value,y = .agg cs.toArray/\AR (Sh w g) q.2 cs
 | false=>∃T,q.2 = [T]/\Sh w g T y
def Tr.kept:Tr->Prop
 | .v _=>True
 | .s fl k n f=>fl≠.b/\∀i j,i<n->j<k->(f i j).kept
def NN(w':World)(g:Nat->Bs)(id:Nat):Tr->Value->Prop
 | .v x,u=>u=x/\x.oneCell'=true
 | .s .b _ _ _,_=>False
 | .s .z k n f,u=>Sh w' g (.s .z k n f) u/\(Tr.s .z k n f).kept
 | .s .o k n f,u=>∃a cap,u = .slice a n cap/\n<=cap/\(0<cap->∃b,a=some ⟨b,0,none⟩/\g b = .ow (.nm id) 0/\∃(c:List Value) (t:TypeId),w'.heap[b]?=some (.cells c.toArray t (0,0))/\c.length=cap*k/\
   ∀p j,p<n->j<k->∃u,c[p*k+j]?=some u/\Sh w' g (f p j) u/\(f p j).kept/\CM w' g b (p*k+j) (f p j) u)
def O1(w':World)(g:Nat->Bs):Nat->List Tr->List Value->Prop
 | _,[],us=>us = []
 | n,T :: r,us=>∃u us',us=u :: us'/\NN w' g n T u/\O1 w' g (n+1) r us'
def LM(g:Bool)(y:Value)(cs:List Value):Prop:=
 match g with
 | true=>y = .agg cs.toArray
 | false=>cs = [y]
def JQ(w':World)(g:Nat->Bs):Nat->List (Bool×List Tr)->List Value->Prop
 | _,[],ys=>ys = []
 | n,q :: r,ys=>∃y ys' cs,ys=y :: ys'/\LM q.1 y cs/\O1 w' g n q.2 cs/\JQ w' g (n+q.2.length) r ys'
def JE(w':World)(g:Nat->Bs)(rs:List (Bool×List Tr))(v:Value):Prop:=
 ∃ys,JQ w' g 0 rs ys/\match rs with
  | [_]=>ys = [v]
  | _=>v = .tuple ys.toArray
def Fg(P:Program)(f:Nat)(sp:AL)(w:World):Prop:=
 ∀ags c rs,sp ags=some (c,rs)->c->∀(g0:Nat->Bs) (ys:List Value),(∀b,∃r,g0 b = .fz r)->AR (FL w g0) ags ys->
  Calls P f ys.toArray w fun e w'=>∃v g,e = .returned v/\Kp w g0 w' g/\JE w' g rs v
def An(P:Program)(f:Nat)(sp:AL):Prop:=∀w,Fg P f sp w
def rid(d n:Nat):Nat:=1000*(n+1)+d
def cvO(i:Nat):Tr->Cv
 | .v x=>.v x
 | .s .o _ _ _=>.h i
 | .s fl k n f=>.s fl k n f
def DB(d:Nat):Nat->List Tr->List Cv
 | _,[]=>[]
 | n,T :: r=>cvO (rid d n) T :: DB d (n+1) r
def obO(ob:List (Nat×Ob))(i:Nat):Tr->Option (List (Nat×Ob))
 | .s .o k n f=>match get ob i with
  | none=>some (put ob i (.row k n f))
  | some _=>none
 | _=>some ob
def outOb(d:Nat):Nat->List (Nat×Ob)->List Tr->Option (List (Nat×Ob))
 | _,ob,[]=>some ob
 | n,ob,T :: r=>match obO ob (rid d n) T with
  | some ob'=>outOb d (n+1) ob' r
  | none=>none
def JT(d:Nat):Nat->List (Bool×List Tr)->List (Bool×List Cv)
 | _,[]=>[]
 | n,q :: r=>(q.1,DB d n q.2) :: JT d (n+q.2.length) r
def Ea(d:Nat):Nat->List (Nat×Ob)->List (Bool×List Tr)->Option (List (Nat×Ob))
 | _,ob,[]=>some ob
 | n,ob,q :: r=>match outOb d n ob q.2 with
  | some ob'=>Ea d (n+q.2.length) ob' r
  | none=>none
def PS(w':World)(g:Nat->Bs)(i:Nat):Tr->Value->Prop
 | .v x,u=>u=x/\x.oneCell'=true
 | .s .b _ _ _,_=>False
 | .s .z k n f,u=>Sh w' g (.s .z k n f) u
 | .s .o k n f,u=>∃a cap,u = .slice a n cap/\n<=cap/\(0<cap->∃b,a=some ⟨b,0,none⟩/\g b = .ow (.nm i) 0/\∃(c:List Value) (t:TypeId),w'.heap[b]?=some (.cells c.toArray t (0,0))/\c.length=cap*k/\
   ∀p j,p<n->j<k->∃u,c[p*k+j]?=some u/\Sh w' g (f p j) u/\CM w' g b (p*k+j) (f p j) u)
variable{T:Tr}
theorem Py(h:obO ob i T=some ob')(a:dom ob j):dom ob' j:=by
 cases T with
 | v x=>cases h;exact a
 | s fl k n f=>
  cases fl with
  | b=>cases h;exact a
  | z=>cases h;exact a
  | o=>
   simp only[obO]at h;split at h
   ·cases h;exact BT a
   ·cases h
theorem M9{d:Nat}:∀{l:List Tr} {n:Nat} {ob ob':List (Nat×Ob)},outOb d n ob l=some ob'->∀{j:Nat},dom ob j->dom ob' j
 | [],n,ob,ob',h,j,hj=>by cases h;exact hj
 | T :: r,n,ob,ob',h,j,hj=>by
  simp only[outOb]at h;split at h
  ·rename_i a h1
   exact M9 h (Py h1 hj)
  ·cases h
def Jy:Option Addr->Nat
 | some q=>q.block
 | none=>0
theorem zHy(q:AU w E ob)(d:obO ob i T=some ob')(p:PS w E.g i T u) :
 ∃m,m.g=E.g/\AX (dom ob) w E w m/\AU w m ob'/\CvR w m (dom ob') (cvO i T) u:=by
 cases T with
 | v x=>cases d;exact⟨E,rfl,AX.refl _ _ _,q,p⟩
 | s fl k n f=>
  cases fl with
  | b=>exact p.elim
  | z=>cases d;exact⟨E,rfl,AX.refl _ _ _,q,p⟩
  | o=>
   simp only[obO]at d;split at d
   ·rename_i hi
    cases d;obtain⟨a,cap,rfl,hn,A⟩:=p;have l:∀j,dom ob j->j≠i:=fun j c=>Ik c hi
    have r:AX (dom ob) w E w ⟨E.g,fun j=>if j=i then Jy a else E.bl j,fun j=>if j=i then .slice a n cap else E.hv j⟩:=
     ⟨Kp.refl _ _,fun j c=>if_neg (l j c),fun j c=>if_neg (l j c)⟩
    refine⟨⟨E.g,fun j=>if j=i then Jy a else E.bl j,fun j=>if j=i then .slice a n cap else E.hv j⟩,rfl,r,fun j b c=>?_,by unfold dom;rw[BD,if_pos rfl];rfl,by simp,rfl⟩;rw[BD]at c;by_cases e:i=j
    ·subst e;rw[if_pos rfl]at c;cases c;refine⟨a,cap,by simp,hn,fun y=>?_⟩;obtain⟨b,rfl,C,cs,t,D,F,h⟩:=A y;exact⟨by simp[Jy],by simpa[Jy]using C,cs,t,by simpa[Jy]using D,F,by simpa[Jy]using h⟩
    ·rw[if_neg e]at c;have B:dom ob j:=(by unfold dom;rw[c];rfl);exact ObR.ext r (fun j c=>BT c) B (X:=fun _=>False) (fun _ _ _=>⟨rfl,rfl⟩) (fun _ _ x=>x.elim) (fun _ _ _ _ x=>x.elim) (q j b c)
   ·cases d
theorem Zb{w:World}{g0:Nat->Bs}{d:Nat}:∀{l:List Tr} {us:List Value} {n:Nat} {E:En} {ob ob':List (Nat×Ob)},(∀i T u,n<=i->NN w g0 i T u->PS w E.g (rid d i) T u)->AU w E ob->outOb d n ob l=some ob'->O1 w g0 n l us->
 ∃a,a.g=E.g/\AX (dom ob) w E w a/\AU w a ob'/\CsR w a (dom ob') (DB d n l) us
 | [],us,n,E,ob,ob',hin,ho,hev,hu=>by
  cases hev;rw[show us = [] from hu];exact⟨E,rfl,AX.refl _ _ _,ho,.nil⟩
 | T :: r,us,n,E,ob,ob',hin,ho,hev,hu=>by
  obtain⟨u,x,rfl,o,p⟩:=hu;simp only[outOb]at hev;split at hev
  ·rename_i v hob1
   obtain⟨y,b,f,s,c1⟩:=zHy ho hob1 (hin _ _ _ (Nat.le_refl _) o);obtain⟨k,e,c,t,m⟩:=Zb (fun i T u hi h=>by rw[b];exact hin i T u (by omega) h) s hev p;refine⟨k,e.trans b,⟨by rw[e,b];exact Kp.refl _ _,fun i hi=>(c.bl i (Py hob1 hi)).trans (f.bl i hi),fun i hi=>(c.hv i (Py hob1 hi)).trans (f.hv i hi)⟩,t,AR.cons (c1.ext c (fun j q=>M9 hev q)) m⟩
  ·cases hev
theorem Kt{d:Nat}:∀{l:List (Bool×List Tr)} {n:Nat} {ob ob':List (Nat×Ob)},Ea d n ob l=some ob'->∀{j:Nat},dom ob j->dom ob' j
 | [],n,ob,ob',h,j,hj=>by cases h;exact hj
 | T :: r,n,ob,ob',h,j,hj=>by
  simp only[Ea]at h;split at h
  ·rename_i a h1
   exact Kt h (M9 h1 hj)
  ·cases h
variable{D:Nat->Prop}{y:Value}
theorem LM.vl{g:Bool}{cs:List Value}{l:List Cv}(h:LM g y cs)(a:CsR w E D l cs):VlR w E D g l y:=by
 cases g with
 | true=>exact⟨cs,h,a⟩
 | false=>
  cases h;cases a with
  | cons h1 t=>cases t;exact⟨_,rfl,h1⟩
theorem Ly{w:World}{g0:Nat->Bs}{d:Nat}:∀{l:List (Bool×List Tr)} {ys:List Value} {n:Nat} {E:En} {ob ob':List (Nat×Ob)},(∀i T u,n<=i->NN w g0 i T u->PS w E.g (rid d i) T u)->AU w E ob->Ea d n ob l=some ob'->JQ w g0 n l ys->
 ∃a,a.g=E.g/\AX (dom ob) w E w a/\AU w a ob'/\AR (fun (q:Bool×List Cv) u=>VlR w a (dom ob') q.1 q.2 u) (JT d n l) ys
 | [],ys,n,E,ob,ob',hin,ho,hev,hu=>by
  cases hev;rw[show ys = [] from hu];exact⟨E,rfl,AX.refl _ _ _,ho,.nil⟩
 | q :: r,ys,n,E,ob,ob',hin,ho,hev,hu=>by
  obtain⟨y,z,cs,rfl,hv,o,p⟩:=hu;simp only[Ea]at hev;split at hev
  ·rename_i x hob1
   obtain⟨A,b,f,t,c1⟩:=Zb hin ho hob1 o;obtain⟨k,e,c,v,m⟩:=Ly (fun i T u hi h=>by rw[b];exact hin i T u (by omega) h) t hev p;exact⟨k,e.trans b,⟨by rw[e,b];exact Kp.refl _ _,fun i hi=>(c.bl i (M9 hob1 hi)).trans (f.bl i hi),fun i hi=>(c.hv i (M9 hob1 hi)).trans (f.hv i hi)⟩,v,AR.cons (hv.vl (c1.ext c (fun j s=>Kt hev s))) m⟩
  ·cases hev
def Bs.rn(d:Nat):Bs->Bs
 | .ow (.nm j) lim=>.ow (.nm (rid d j)) lim
 | s=>s
theorem Sh.okm(h:∀b fl e,(g b).ok fl e->(g' b).ok fl e):∀{T:Tr} {u:Value},Sh w g T u->Sh w g' T u
 | .v x,u,hs=>hs
 | .s fl k n f,u,hs=>by
  obtain⟨a,c,e,hn,r⟩:=hs;refine⟨a,c,e,hn,fun m=>?_⟩;obtain⟨b,o,p,q,l,d⟩:=r m;exact⟨b,o,p,q,h _ _ _ l,fun i j hi t=>let ⟨u,hu,hs⟩:=d i j hi t;⟨u,hu,hs.okm h⟩⟩
def E8:List Nat->Bool
 | []=>true
 | x :: r=>!r.contains x && E8 r
theorem J4{l:List (Nat×Nat)}:∀{i n:Nat},E8 (l.map (·.1))=true->(i,n)∈l->get l i=some n:=by
 induction l with
 | nil=>intro i n _ h;cases h
 | cons p r ih=>
  intro i n hn h;simp only[List.map_cons,E8,Bool.and_eq_true,Bool.not_eq_true']at hn;cases h with
  | head=>simp[get]
  | tail _ hm=>
   simp only[get];have a:p.1≠i:=fun e=>by
    have:(r.map (·.1)).contains p.1=true:=by
     rw[List.contains_iff_mem,e];exact List.mem_map.2 ⟨(i,n),hm,rfl⟩
    rw[this]at hn;cases hn.1
   rw[if_neg a];exact ih hn.2 hm
theorem Ld{α : Type}{d:Nat}{x:α}:∀{l:List (Nat×α)},get l d=some x->(d,x)∈l
 | [],h=>by cases h
 | (e,y) :: r,h=>by
  simp only[get]at h;split at h
  ·rename_i a;cases h;subst a;exact List.mem_cons_self ..
  ·exact List.mem_cons_of_mem _ (Ld h)
def argOf(ob:List (Nat×Ob)):Cv->Option Tr
 | .v x=>some (.v x)
 | .s fl k n f=>some (Tr.s fl k n f).CY
 | .h i=>match rowE ob i with
  | some (k,n,f)=>some (Tr.s .o k n f).CY
  | none=>none
 | _=>none
structure P6 (E:En) (ob:List (Nat×Ob)) (g:Nat->Bs):Prop where
 ok:∀b fl e,(E.g b).ok fl e->(g b).ok fl e
 rw:∀j q,rowE ob j=some q->∀b l,E.g b = .ow (.nm j) l->∃r,g b = .fz r
theorem zET(m:P6 E ob g)(F:AU w E ob)(h:argOf ob x=some T)(d:CvR w E (dom ob) x y):Sh w g T y:=by
 have q:∀b fl e,b<w.heap.size->(E.g b).ok fl e->(g b).ok .b e:=fun b fl e _ h=>Bs.ok_b (m.ok b fl e h)
 cases x with
 | v x=>cases h;exact d
 | s fl k n f=>cases h;exact Sh.CY q d
 | h i=>
  simp only[argOf]at h;split at h
  ·rename_i k n f hi
   cases h;obtain⟨-,a,cap,hv,hn,A⟩:=Kc F hi;refine⟨a,cap,d.2.1.trans hv,hn,fun J=>?_⟩;obtain⟨z,⟨l,C,-⟩,cs,t,o,D,c⟩:=A (by omega);obtain⟨r,H⟩:=m.rw i _ hi _ _ C;refine⟨_,_,z,(Array.getElem?_eq_some_iff.1 o).1,by rw[H];exact .inl rfl,fun p j G B=>?_⟩;obtain⟨u,I,hs⟩:=c p j G B;refine⟨u,?_,hs.CY q⟩;rw[Nat.zero_add,cell_of_row w _ _ _ t _ o];simpa using I
  ·cases h
 | _=>cases h
def SF:Cv->Option Tr
 | .v x=>some (.v x)
 | .s .z k n f=>some (.s .z k n f)
 | .s .o k n f=>some (.s .z k n f)
 | _=>none
theorem zGc(c:∀b fl e,(E.g b).ok fl e->(g b).ok fl e)(h:SF x=some T)(a:CvR w E D x y):Sh w g T y:=by
 cases x with
 | v x=>cases h;exact a
 | s fl k n f=>
  cases fl with
  | b=>cases h
  | z=>cases h;exact Sh.okm c a
  | o=>cases h;exact Sh.okm c (Sh.cv (D:=D) (T:=.s .o k n f) a)
 | _=>cases h
def argL(F:Cv->Option Tr):List Cv->Option (List Tr)
 | []=>some []
 | x :: r=>match F x,argL F r with
  | some T,some l=>some (T :: l)
  | _,_=>none
theorem Q3{w:World}{E:En}{D:Nat->Prop}{g:Nat->Bs}{F:Cv->Option Tr}(hF:∀{x T y},F x=some T->CvR w E D x y->Sh w g T y):∀{l:List Cv} {ts:List Tr} {ys:List Value},argL F l=some ts->CsR w E D l ys->AR (Sh w g) ts ys
 | [],ts,ys,h,hy=>by cases h;cases hy;exact .nil
 | x :: r,ts,ys,h,hy=>by
  simp only[argL]at h;split at h
  ·rename_i T l h1 h2
   cases h;cases hy with
   | cons g1 g2=>exact .cons (hF h1 g1) (Q3 hF h2 g2)
  ·cases h
def argsF(F:Cv->Option Tr):List Av->Option (List (Bool×List Tr))
 | []=>some []
 | .m g l :: r=>match argL F l,argsF F r with
  | some ts,some q=>some ((g,ts) :: q)
  | _,_=>none
 | _=>none
theorem Qa{w:World}{E:En}{D:Nat->Prop}{g:Nat->Bs}{F:Cv->Option Tr}(hF:∀{x T y},F x=some T->CvR w E D x y->Sh w g T y):∀{l:List Av} {a:List (Bool×List Tr)} {ys:List Value},argsF F l=some a->AR (AvR w E D) l ys->AR (FL w g) a ys
 | [],a,ys,h,hy=>by cases h;cases hy;exact .nil
 | .m g l :: r,a,ys,h,hy=>by
  simp only[argsF]at h;split at h
  ·rename_i ts q h1 h2
   cases h;cases hy with
   | cons g1 g2=>
    refine .cons ?_ (Qa hF h2 g2);cases g with
    | true=>obtain⟨cs,e,b⟩:=g1;exact⟨cs,e,Q3 hF h1 b⟩
    | false=>
     obtain⟨x,rfl,b⟩:=g1;have:=Q3 hF h1 (AR.cons b AR.nil:CsR w E D [x] [_]);cases this with
     | cons k1 k2=>cases k2;exact⟨_,rfl,k1⟩
  ·cases h
 | .t l :: r,a,ys,h,hy=>by cases h
def DO:List Av->List (Nat×Ob)->List Av×List (Nat×Ob)
 | [],ob=>([],ob)
 | .m g c :: l,ob=>(.m g (frz c ob).1 :: (DO l (frz c ob).2).1,(DO l (frz c ob).2).2)
 | .t c :: l,ob=>(.t c :: (DO l ob).1,(DO l ob).2)
def CI(keep:Bool)(l:List Av)(ob:List (Nat×Ob)):List Av×List (Nat×Ob):=
 match keep with
 | true=>DO l ob
 | false=>(l,ob)
def IW(keep:Bool)(ob:List (Nat×Ob))(l:List Av):Option (List (Bool×List Tr)):=
 match keep with
 | true=>argsF SF l
 | false=>argsF (argOf ob) l
theorem Pd{w:World}:∀{l:List Av} {us:List Value} {E:En} {ob:List (Nat×Ob)},AU w E ob->AR (AvR w E (dom ob)) l us->
 ∃q,AX (dom ob) w E w q/\AU w q (DO l ob).2/\AR (AvR w q (dom (DO l ob).2)) (DO l ob).1 us/\∀j,dom ob j↔dom (DO l ob).2 j
 | [],us,E,ob,ho,h=>by cases h;exact⟨E,AX.refl _ _ _,ho,.nil,fun _=>Iff.rfl⟩
 | .m g c :: l,us,E,ob,ho,h=>by
  cases h with
  | @cons _ u _ us' i ht=>
   have p:∀{E1:En} {D1:Nat->Prop} {l:List Av} {us:List Value},AX (dom ob) w E w E1->(∀j,dom ob j->D1 j)->AR (AvR w E (dom ob)) l us->AR (AvR w E1 D1) l us:=fun {E1 D1 l us} i z h=>by
    induction h with
    | nil=>exact .nil
    | cons h _ ih=>exact .cons (h.ext i z) ih
   have step:∃E1,AX (dom ob) w E w E1/\AU w E1 (frz c ob).2/\AvR w E1 (dom (frz c ob).2) (.m g (frz c ob).1) u/\∀j,dom ob j↔dom (frz c ob).2 j:=by
    cases g with
    | true=>
     obtain⟨cs,e,y⟩:=i;obtain⟨E1,d,k,f,a⟩:=LR ho y;exact⟨E1,d,k,⟨cs,e,f⟩,a⟩
    | false=>
     obtain⟨x,rfl,y⟩:=i;obtain⟨E1,d,k,f,a⟩:=LR ho (AR.cons y AR.nil:CsR w E (dom ob) [x] [_]);refine⟨E1,d,k,?_,a⟩;simp only[frz]at f ⊢;cases f with
     | cons k1 k2=>exact⟨_,rfl,k1⟩
   obtain⟨E1,d,k,f,a⟩:=step;obtain⟨r,n,s,v,o⟩:=Pd (l:=l) k (p d (fun j b=>(a j).1 b) ht);exact⟨r,d.trans n (fun j b=>(a j).1 b),s,.cons (f.ext n (fun j b=>(o j).1 b)) v,fun j=>(a j).trans (o j)⟩
 | .t c :: l,us,E,ob,ho,h=>by
  cases h with
  | @cons _ u _ us' i ht=>
   obtain⟨r,n,s,v,o⟩:=Pd (l:=l) ho ht;exact⟨r,n,s,.cons (i.ext n (fun j b=>(o j).1 b)) v,o⟩
variable{keep:Bool}{l:List Av}
theorem Pe{us:List Value}(b:AU w E ob)(h:AR (AvR w E (dom ob)) l us) :
 ∃a,AX (dom ob) w E w a/\AU w a (CI keep l ob).2/\AR (AvR w a (dom (CI keep l ob).2)) (CI keep l ob).1 us/\∀j,dom ob j↔dom (CI keep l ob).2 j:=by
 cases keep with
 | true=>exact Pd b h
 | false=>exact⟨E,AX.refl _ _ _,b,h,fun _=>Iff.rfl⟩
variable{ys:List Value}
theorem O5(d:P6 E ob g)(f:AU w E ob){a:List (Bool×List Tr)}(h:IW keep ob l=some a)(e:AR (AvR w E (dom ob)) l ys):AR (FL w g) a ys:=by
 cases keep with
 | true=>exact Qa (fun b c=>zGc d.ok b c) h e
 | false=>exact Qa (fun b c=>zET d f b c) h e
theorem Sh.gn{ge:Nat->Bs}(m:∀b fl e,fl≠.b->(g b).ok fl e->(ge b).ok fl e):∀{T:Tr} {u:Value},T.kept->Sh w g T u->Sh w ge T u
 | .v x,u,hk,hs=>hs
 | .s fl k n f,u,hk,hs=>by
  obtain⟨a,c,e,hn,t⟩:=hs;refine⟨a,c,e,hn,fun h=>?_⟩;obtain⟨b,o,q,r,l,d⟩:=t h;refine⟨b,o,q,r,m b _ _ hk.1 l,fun i j hi p=>?_⟩;obtain⟨u,y,hs⟩:=d i j hi p;exact⟨u,y,hs.gn m (hk.2 i j hi p)⟩
def Tr.own:Tr->Bool
 | .s .o _ _ _=>true
 | _=>false
def tot:List (Bool×List Tr)->Nat
 | []=>0
 | q :: r=>q.2.length+tot r
def evCall(keep:Bool)(sp:AL)(d:Nat)(ob:List (Nat×Ob))(l:List Av):Option Dl:=
 match IW keep (CI keep l ob).2 (CI keep l ob).1 with
 | some ags=>match sp ags with
  | some (c,rs)=>match Ea d 0 (CI keep l ob).2 rs with
   | some ob'=>if tot rs<=40 then some ⟨c,some (match rs with
    | [q]=>.m q.1 (DB d 0 q.2)
    | _=>.t (JT d 0 rs)),ob',keep || rs.any fun q=>q.2.any Tr.own⟩else none
   | none=>none
  | none=>none
 | none=>none
def gC(g:Nat->Bs)(b:Nat):Bs:=
 match g b with
 | .fz r=>.fz r
 | .ow _ l=>.fz (some l)
theorem IZ(g:Nat->Bs)(b:Nat):∃r,gC g b = .fz r:=by
 unfold gC;split
 ·exact⟨_,rfl⟩
 ·exact⟨_,rfl⟩
variable{b e:Nat}{fl:Fl}
theorem qh(h:(g b).ok fl e):(gC g b).ok fl e:=by
 unfold gC;cases hg:g b with
 | fz r=>rw[hg]at h;exact h
 | ow o l=>rw[hg]at h;exact .inr fun l' a=>by cases a;exact h
theorem qg(a:fl≠.b)(h:(gC g b).ok fl e):(g b).ok fl e:=by
 unfold gC at h;cases hg:g b with
 | fz r=>rw[hg]at h;exact h
 | ow o l=>
  rw[hg]at h;exact(h.resolve_left a) l rfl
variable{f d:Nat}{sp:AL}{D:Dl}
theorem XP(hs:Fg P f sp w)(ho:AU w E ob)(m:evCall keep sp d ob l=some D)(hc:D.c)(hy:AR (AvR w E (dom ob)) l ys) :
 Calls P f ys.toArray w fun e w'=>∃v H,e = .returned v/\AX (dom ob) w E w' H/\(∀j,dom ob j->dom D.ob j)/\AU w' H D.ob/\∃av,D.av=some av/\AvR w' H (dom D.ob) av v:=by
 unfold evCall at m;obtain⟨y,x1,o1,a1,d1⟩:=Pe (keep:=keep) ho hy;generalize (CI keep l ob).2=ob1 at *;generalize (CI keep l ob).1=l1 at *;split at m
 ·rename_i V has
  split at m
  ·rename_i c rs hsp
   split at m
   ·rename_i ob' hob
    split at m
    case isFalse=>cases m
    cases m;refine(hs V c rs hsp hc (gC y.g) ys (IZ _) (O5 ⟨fun b fl e h=>qh h,fun _ _ _ b _ _=>IZ _ b⟩ o1 has a1)).mono ?_;rintro e w' ⟨v,g,rfl,N,cB,Y,hv⟩;have I:∀b,b<w.heap.size->g b=gC y.g b/\w'.heap[b]?=w.heap[b]?:=fun b A=>by
     obtain⟨r,U⟩:=IZ y.g b;obtain⟨k1,k2⟩:=N.fz b r U A;exact⟨k2.trans U.symm,k1⟩
    have O:Kp w y.g w' (fun b=>if b<w.heap.size then y.g b else(g b).rn d):=by
     refine⟨N.os,N.tape,N.output,N.size,fun b r A G=>⟨(I b G).2,by rw[if_pos G];exact A⟩,fun b o B A G=>⟨fun j _=>World.cell?_of_block (w:=w) (I b G).2,.inl ⟨o,B,by rw[if_pos G];exact A,Nat.le_refl _⟩⟩⟩
    have hx:AX (dom ob1) w y w' ⟨fun b=>if b<w.heap.size then y.g b else(g b).rn d,y.bl,y.hv⟩:=⟨O,fun _ _=>rfl,fun _ _=>rfl⟩;have R:AU w' ⟨fun b=>if b<w.heap.size then y.g b else(g b).rn d,y.bl,y.hv⟩ ob1:=fun j b C=>
     ObR.ext hx (fun _ h=>h) (by unfold dom;rw[C];rfl) (X:=fun _=>False) (fun b A _=>⟨(I b A).2,if_pos A⟩) (fun _ _ x=>x.elim) (fun _ _ _ _ x=>x.elim) (o1 j b C)
    have M:∀b fl e,fl≠.b->(g b).ok fl e->Bs.ok fl e (if b<w.heap.size then y.g b else(g b).rn d):=fun b fl e hf h=>by
     by_cases A:b<w.heap.size
     ·rw[if_pos A];rw[(I b A).1]at h;exact qg hf h
     ·rw[if_neg A];cases L:g b with
      | fz r=>rw[L]at h;exact h
      | ow o B=>rw[L]at h;cases o<;>exact h
    have Q:∀b o B,g b = .ow o B->¬b<w.heap.size:=fun b o B A h=>by
     obtain⟨r,U⟩:=IZ y.g b;rw[(I b h).1,U]at A;cases A
    obtain⟨H,e1,x2,o2,c1⟩:=Ly (d:=d) (E:=⟨fun b=>if b<w.heap.size then y.g b else(g b).rn d,y.bl,y.hv⟩) (fun i T u _ h=>by
     cases T with
     | v x=>exact h
     | s fl k n f=>
      cases fl with
      | b=>exact h.elim
      | z=>exact h.1.gn M h.2
      | o=>
       obtain⟨a,cap,e,hn,K⟩:=h;refine⟨a,cap,e,hn,fun S=>?_⟩;obtain⟨b,ha,L,cs,t,W,G,F⟩:=K S;refine⟨b,ha,?_,cs,t,W,G,fun p j hp C=>?_⟩
       ·show(if b<w.heap.size then _ else _)=_;rw[if_neg (Q b _ _ L),L];rfl
       ·obtain⟨u,hu,h1,h2,h3⟩:=F p j hp C;refine⟨u,hu,h1.gn M h2,h3.ext (fun b' B J _=>⟨rfl,?_⟩)⟩;show(if b'<w.heap.size then _ else _)=_;rw[if_neg (Q b' _ _ J),J];rfl) R hob Y
    have Z:AX (dom ob) w E w' H:=x1.trans ⟨by rw[e1];exact O,fun i hi=>x2.bl i hi,fun i hi=>x2.hv i hi⟩ (fun j C=>(d1 j).1 C);refine⟨v,H,rfl,Z,fun j C=>Kt hob ((d1 j).1 C),o2,_,rfl,?_⟩
    match rs,hv,c1 with
    | [q],hv,c1=>
     cases hv;cases c1 with
     | cons k1 k2=>exact k1
    | [],hv,c1=>exact⟨_,hv,c1⟩
    | q1 :: q2 :: r,hv,c1=>exact⟨_,hv,c1⟩
   ·cases m
  ·cases m
 ·cases m
def pmC:Nat->List Cv->List (Nat×Nat)
 | _,[]=>[]
 | n,.h r :: l=>(r,rid 0 n) :: pmC (n+1) l
 | n,_ :: l=>pmC (n+1) l
def vT(ob:List (Nat×Ob)):Cv->Option Tr
 | .v x=>some (.v x)
 | .s .b k n f=>some (.s .b k n f)
 | .s _ k n f=>some (.s .z k n f)
 | .h r=>match get ob r with
  | some (.row k n f)=>some (.s .o k n f)
  | _=>none
 | _=>none
def varT(ob:List (Nat×Ob)):List Cv->Option (List Tr)
 | []=>some []
 | x :: l=>match vT ob x,varT ob l with
  | some T,some m=>some (T :: m)
  | _,_=>none
def Dd:Nat->List Tr->List (Nat×Ob)
 | _,[]=>[]
 | n,.s .o k m f :: l=>(rid 0 n,.row k m f) :: Dd (n+1) l
 | n,_ :: l=>Dd (n+1) l
def Fr(vs:List Tr):List (Nat×Ob):=(0,.var (DB 0 0 vs)) :: Dd 0 vs
def yZ(w':World)(g:Nat->Bs)(B:Nat)(rs:List (Bool×List Tr))(v:Value):Prop:=
 ∃(cs:List Value) (T:TypeId) (ys:List Value),w'.heap[B]?=some (.cells cs.toArray T (0,0))/\g B = .ow (.nm 0) 0/\JQ w' g 1 rs (.agg cs.toArray :: ys)/\match rs with
  | [_,_]=>ys = [v]
  | _=>v = .tuple ys.toArray
def KW(P:Program)(f:Nat)(sp:AL)(w:World):Prop:=
 ∀vs ags c rs,sp ((true,vs) :: ags)=some (c,rs)->c->∀(E:En) (ys:List Value),AU w E (Fr vs)->AR (FL w E.g) ags ys->
  Calls P f (.pointer (some ⟨E.bl 0,0,none⟩) :: ys).toArray w fun e w'=>∃v g,e = .returned v/\Kp w E.g w' g/\yZ w' g (E.bl 0) rs v
def DK(P:Program)(f:Nat)(sp:AL):Prop:=∀w,KW P f sp w
def O2(P:Program)(f:Nat)(sp:AL)(w:World):Prop:=
 ∀ags c cells,sp ags=some (c,[(true,cells)])->c->∀(g0:Nat->Bs) (ys:List Value),(∀b,∃r,g0 b = .fz r)->AR (FL w g0) ags ys->
  Calls P f ys.toArray w fun e w'=>∃B g,e = .returned (.pointer (some ⟨B,0,none⟩))/\Kp w g0 w' g/\∃(cs:List Value) (T:TypeId),w'.heap[B]?=some (.cells cs.toArray T (0,0))/\g B = .ow (.nm 0) 0/\JQ w' g 1 [(true,cells)] [.agg cs.toArray]
def NI(P:Program)(f:Nat)(sp:AL):Prop:=∀w,O2 P f sp w
def CX(ob:List (Nat×Ob)):List (Nat×Nat)->List (Nat×Ob)
 | []=>ob
 | p :: l=>CX (put ob p.1 .dead) l
theorem I9{j:Nat}:∀{pm:List (Nat×Nat)} {ob:List (Nat×Ob)},get (CX ob pm) j=if j∈pm.map (·.1)then some .dead else get ob j
 | [],ob=>by simp[CX]
 | p :: l,ob=>by
  simp only[CX];rw[I9];simp only[List.map_cons,List.mem_cons,BD];by_cases h:j∈l.map (·.1)
  ·simp[h]
  ·by_cases a:p.1=j
   ·simp[a]
   ·rw[if_neg h,if_neg a,if_neg (fun e=>e.elim (fun e=>a e.symm) h)]
def gP(pm:List (Nat×Nat))(g:Nat->Bs)(b:Nat):Bs:=
 match g b with
 | .fz r=>.fz r
 | .ow (.nm x) l=>match get pm x with
  | some y=>.ow (.nm y) l
  | none=>.fz (some l)
 | .ow (.tl B c) l=>match g B with
  | .ow (.nm x) _=>match get pm x with
   | some _=>.ow (.tl B c) l
   | none=>.fz (some l)
  | _=>.fz (some l)
def Bs.isFz:Bs->Bool
 | .fz _=>true
 | _=>false
theorem Lz(a:List (Nat×Nat))(g:Nat->Bs)(b:Nat):(∃r,g b = .fz r/\gP a g b = .fz r)\/(∃o l,g b = .ow o l/\gP a g b = .fz (some l))\/(∃o o' l,g b = .ow o l/\gP a g b = .ow o' l):=by
 unfold gP;cases hg:g b with
 | fz r=>exact .inl ⟨r,rfl,rfl⟩
 | ow o l=>
  refine .inr ?_;cases o with
  | nm x=>
   dsimp only;split
   ·exact .inr ⟨_,_,l,rfl,rfl⟩
   ·exact .inl ⟨_,l,rfl,rfl⟩
  | tl B c=>
   dsimp only;split
   ·split
    ·exact .inr ⟨_,_,l,rfl,rfl⟩
    ·exact .inl ⟨_,l,rfl,rfl⟩
   ·exact .inl ⟨_,l,rfl,rfl⟩
variable{pm:List (Nat×Nat)}
theorem KC(h:(g b).ok fl e):(gP pm g b).ok fl e:=by
 rcases Lz pm g b with⟨r,a,c⟩ | ⟨o,l,a,c⟩ | ⟨o,o',l,a,c⟩
 ·rw[c,<-a];exact h
 ·rw[a]at h;rw[c];exact .inr fun l' d=>by cases d;exact h
 ·rw[a]at h;rw[c];exact h
variable{l:Nat}
theorem NP(h:g b = .ow (.nm j) l)(a:get pm j=none):gP pm g b = .fz (some l):=by
 unfold gP;rw[h];dsimp only;rw[a]
theorem Pg{y:Nat}(h:g b = .ow (.nm j) l)(a:get pm j=some y):gP pm g b = .ow (.nm y) l:=by
 unfold gP;rw[h];dsimp only;rw[a]
theorem Mn{c q:Nat}(h:g b = .ow (.tl B c) l)(a:g B = .ow (.nm j) q):gP pm g b=match get pm j with | some _=>.ow (.tl B c) l | none=>.fz (some l):=by
 unfold gP;rw[h];dsimp only;rw[a]
def Bs.rnP(d i:Nat):Bs->Bs
 | .ow (.nm j) l=>.ow (.nm (if j=0 then i else rid d j)) l
 | s=>s
theorem Bs.rnP_ok{s:Bs}(h:s.ok fl e):(s.rnP d i).ok fl e:=by
 cases s with
 | fz r=>exact h
 | ow o l=>cases o<;>exact h
theorem Oq(h:j∉pm.map (·.1)):get pm j=none:=by
 cases hg:get pm j with
 | none=>rfl
 | some y=>exact absurd (List.mem_map.2 ⟨_,Ld hg,rfl⟩) h
def swp(pm:List (Nat×Nat)):List (Nat×Nat):=pm.map fun p=>(p.2,p.1)
theorem KM{x y:Nat}(hn:E8 (pm.map (·.2))=true)(h:(x,y)∈pm):get (swp pm) y=some x:=by
 refine J4 ?_ (List.mem_map.2 ⟨(x,y),h,rfl⟩);rw[swp,List.map_map];exact hn
theorem Qn{ob:List (Nat×Ob)}{j:Nat}{o:Ob}:∀{l:List Cv} {vs:List Tr} {n:Nat},varT ob l=some vs->get (Dd n vs) j=some o->∃r k m f,(r,j)∈pmC n l/\get ob r=some (.row k m f)/\o = .row k m f
 | [],vs,n,h,a=>by cases h;cases a
 | x :: l,vs,n,h,a=>by
  simp only[varT]at h;split at h
  ·rename_i T m hT hm
   cases h;have rest:get (Dd (n+1) m) j=some o->∃r k m f,(r,j)∈pmC n (x :: l)/\get ob r=some (.row k m f)/\o = .row k m f:=fun a=>by
    obtain⟨r,k,q,f,d,g⟩:=Qn hm a;refine⟨r,k,q,f,?_,g⟩;cases x<;>first | exact d | exact List.mem_cons_of_mem _ d
   cases T with
   | v y=>exact rest a
   | s fl k q f=>
    cases fl with
    | b=>exact rest a
    | z=>exact rest a
    | o=>
     simp only[Dd,get]at a;split at a
     ·rename_i e
      subst e;cases a;cases x<;>simp only[vT]at hT<;>try (cases hT;done)
      ·rename_i c i n' f'
       cases c<;>cases hT
      ·rename_i r
       split at hT
       ·rename_i i n' f' hr
        cases hT;exact⟨r,_,_,_,List.mem_cons_self ..,hr,rfl⟩
       ·cases hT
     ·exact rest a
  ·cases h
theorem Kn{ob:List (Nat×Ob)}{r j:Nat}:∀{l:List Cv} {vs:List Tr} {n:Nat},varT ob l=some vs->(r,j)∈pmC n l->dom (Dd n vs) j/\∃k m f,get ob r=some (.row k m f)
 | [],vs,n,h,a=>by cases a
 | x :: l,vs,n,h,a=>by
  simp only[varT]at h;split at h
  ·rename_i T m hT hmm
   cases h;have g:dom (Dd (n+1) m) j->dom (Dd n (T :: m)) j:=fun h=>by
    cases T with
    | v y=>exact h
    | s fl k q f=>
     cases fl with
     | b=>exact h
     | z=>exact h
     | o=>
      unfold dom at *;simp only[Dd,get];split
      ·rfl
      ·exact h
   cases x with
   | h r'=>
    simp only[vT]at hT;split at hT
    ·rename_i i n' f' hr
     cases hT;rcases List.mem_cons.1 a with e | a
     ·cases e;exact⟨by unfold dom;simp only[Dd,get,if_pos];rfl,_,_,_,hr⟩
     ·obtain⟨c,d⟩:=Kn hmm a;exact⟨g c,d⟩
    ·cases hT
   | _=>
    obtain⟨c,d⟩:=Kn hmm a;exact⟨g c,d⟩
  ·cases h
theorem Qj{w:World}{E E0:En}{D D0:Nat->Prop}{ob:List (Nat×Ob)}(a:∀b fl e,(E.g b).ok fl e->(E0.g b).ok fl e):∀{l:List Cv} {vs:List Tr} {n:Nat} {cs:List Value},varT ob l=some vs->(∀p∈pmC n l,E0.hv p.2=E.hv p.1/\D0 p.2)->CsR w E D l cs->CsR w E0 D0 (DB 0 n vs) cs
 | [],vs,n,cs,h,hp,hc=>by cases h;cases hc;exact AR.nil
 | x :: l,vs,n,cs,h,hp,hc=>by
  simp only[varT]at h;split at h
  ·rename_i T m hT hm
   cases h;cases hc with
   | cons h1 t=>
    have c:∀p∈pmC (n+1) l,E0.hv p.2=E.hv p.1/\D0 p.2:=fun p c=>hp p (by cases x<;>first | exact c | exact List.mem_cons_of_mem _ c)
    refine AR.cons ?_ (Qj a hm c t);cases x with
    | v x=>cases hT;exact h1
    | s fl k q f=>
     cases fl with
     | b=>cases hT;exact Sh.okm a h1
     | z=>cases hT;exact Sh.okm a h1
     | o=>cases hT;exact Sh.okm a (Sh.cv (D:=D) (T:=.s .o k q f) h1)
    | h r=>
     simp only[vT]at hT;split at hT
     ·cases hT;obtain⟨e,d⟩:=hp (r,rid 0 n) (List.mem_cons_self ..);exact⟨d,by rw[e];exact h1.2.1,h1.2.2⟩
     ·cases hT
    | _=>cases hT
  ·cases h
variable{cl:List Cv}{vs:List Tr}
theorem zI8(J:AU w E ob)(hi:get ob i=some (.var cl))(hv:varT ob cl=some vs)(hn:E8 (((i,0) :: pmC 0 cl).map (·.1))=true)(n:E8 (((i,0) :: pmC 0 cl).map (·.2))=true) :
 ∃C,C.g=gP ((i,0) :: pmC 0 cl) E.g/\C.bl 0=E.bl i/\AU w C (Fr vs):=by
 obtain⟨c,t⟩:∃c,c=(i,0) :: pmC 0 cl:=⟨_,rfl⟩;rw[<-t]at hn n ⊢;have l:∀p∈pmC 0 cl,p∈c:=fun p v=>by rw[t];exact List.mem_cons_of_mem _ v
 have d:(i,0)∈c:=by rw[t];exact List.mem_cons_self ..
 refine⟨⟨gP c E.g,fun j=>E.bl ((get (swp c) j).getD 0),fun j=>E.hv ((get (swp c) j).getD 0)⟩,rfl,by simp[KM n d],fun j o A=>?_⟩;unfold Fr at A;simp only[get]at A;split at A
 ·rename_i e
  subst e;cases A;obtain⟨B,cs,T,F,D⟩:=J i _ hi;have e0:(get (swp c) 0).getD 0=i:=(by rw[KM n d];rfl);refine⟨?_,cs,T,?_,?_⟩
  ·show gP c E.g (E.bl ((get (swp c) 0).getD 0))=_;rw[e0];exact Pg B (J4 hn d)
  ·show w.heap[E.bl ((get (swp c) 0).getD 0)]?=_;rw[e0];exact F
  ·refine Qj (fun b fl e h=>KC h) hv (fun p v=>?_) D;obtain⟨x,y⟩:=p;refine⟨?_,?_⟩
   ·show E.hv ((get (swp c) y).getD 0)=E.hv x;rw[KM n (l _ v)];rfl
   ·have:=(Kn hv v).1;unfold dom at *;simp only[Fr,get];split
    ·rfl
    ·exact this
 ·obtain⟨r,k,m,f,I,L,rfl⟩:=Qn hv A;have e0:(get (swp c) j).getD 0=r:=(by rw[KM n (l _ I)];rfl);obtain⟨a,cap,H,G,O⟩:=J r _ L;refine⟨a,cap,?_,G,fun K=>?_⟩
  ·show E.hv ((get (swp c) j).getD 0)=_;rw[e0];exact H
  ·obtain⟨M,B,cs,T,F,P,s⟩:=O K;have z:=J4 hn (l _ I);refine⟨?_,?_,cs,T,?_,P,fun p q v Q=>?_⟩
   ·show a=some ⟨E.bl ((get (swp c) j).getD 0),0,none⟩;rw[e0];exact M
   ·show gP c E.g (E.bl ((get (swp c) j).getD 0))=_;rw[e0];exact Pg B z
   ·show w.heap[E.bl ((get (swp c) j).getD 0)]?=_;rw[e0];exact F
   ·obtain⟨u,S,hs,R⟩:=s p q v Q;refine⟨u,S,Sh.okm (fun b fl e h=>KC h) hs,?_⟩;show CM w (gP c E.g) (E.bl ((get (swp c) j).getD 0)) _ _ _;rw[e0];refine R.ext (fun b U N _=>⟨rfl,?_⟩);rw[Mn N B,z]
def evCallP(keep:Bool)(sp:AL)(d i:Nat)(ob:List (Nat×Ob))(l:List Av):Option Dl:=
 match get (CI keep l ob).2 i with
 | some (.var cl)=>match varT (CI keep l ob).2 cl,IW keep (CX (CI keep l ob).2 ((i,0) :: pmC 0 cl)) (CI keep l ob).1 with
  | some vs,some ags=>if E8 (((i,0) :: pmC 0 cl).map (·.1))=true/\E8 (((i,0) :: pmC 0 cl).map (·.2))=true then
    match sp ((true,vs) :: ags)with
    | some (c,(true,v0) :: rs)=>match Ea d 1 (CX (CI keep l ob).2 ((i,0) :: pmC 0 cl)) ((true,v0) :: rs)with
     | some ob'=>if tot ((true,v0) :: rs)<=38 then some ⟨c,some (match rs with
      | [q]=>.m q.1 (DB d (1+v0.length) q.2)
      | _=>.t (JT d (1+v0.length) rs)),put ob' i (.var (DB d 1 v0)),true⟩else none
     | none=>none
    | _=>none
   else none
  | _,_=>none
 | _=>none
variable{l:List Av}
theorem Y3(hs:KW P f sp w)(ho:AU w E ob)(F:evCallP keep sp d i ob l=some D)(hc:D.c){x:Value}(hx:AvR w E (dom ob) (.m false [.p i 0]) x)(hy:AR (AvR w E (dom ob)) l ys) :
 Calls P f (x :: ys).toArray w fun e w'=>∃v L,e = .returned v/\AX (dom ob) w E w' L/\(∀j,dom ob j->dom D.ob j)/\AU w' L D.ob/\∃av,D.av=some av/\AvR w' L (dom D.ob) av v:=by
 unfold evCallP at F;obtain⟨C,x1,V,a1,d1⟩:=Pe (keep:=keep) ho hy;generalize (CI keep l ob).2=obf at *;generalize (CI keep l ob).1=l1 at *;have kC:AvR w C (dom obf) (.m false [.p i 0]) x:=hx.ext x1 (fun j A=>(d1 j).1 A);obtain⟨lA,rfl⟩:=vl1 kC;split at F
 ·rename_i cl hi
  split at F
  ·rename_i vs ags hvs has
   split at F
   ·rename_i fC
    obtain⟨hn,dC⟩:=fC;split at F
    ·rename_i c v0 rs hsp
     split at F
     ·rename_i ob' hob
      split at F
      case isFalse=>cases F
      cases F;obtain⟨E0,e0,nB,oi⟩:=zI8 V hi hvs hn dC;have bC:i∈((i,0) :: pmC 0 cl).map (·.1):=(by simp);have aC:∀j,j∈((i,0) :: pmC 0 cl).map (·.1)->dom obf j:=fun j A=>by
       simp only[List.map_cons,List.mem_cons,List.mem_map]at A;rcases A with rfl | ⟨⟨r,y⟩,hp,rfl⟩
       ·exact lA
       ·obtain⟨-,k,m,f,h⟩:=Kn hvs hp;unfold dom;rw[h];rfl
      obtain⟨g00,oA,-⟩:=V i _ hi;have gD:C.g (C.bl i) = .ow (.nm i) 0:=(V i _ hi).1;clear g00 oA;have cC:(i,0)∈(i,0) :: pmC 0 cl:=List.mem_cons_self ..;generalize jD:(i,0) :: pmC 0 cl=pm at *;have M:∀j,dom obf j↔dom (CX obf pm) j:=fun j=>by
       unfold dom;rw[I9];split
       ·rename_i h
        have:=aC j h;unfold dom at this;simp[this]
       ·exact Iff.rfl
      have o2:AU w C (CX obf pm):=fun j o A=>by
       rw[I9]at A;split at A
       ·cases A;trivial
       ·exact ObR.ext (AX.refl _ _ _) (fun j A=>(M j).1 A) (by unfold dom;rw[A];rfl) (X:=fun _=>False) (fun _ _ _=>⟨rfl,rfl⟩) (fun _ _ x=>x.elim) (fun _ _ _ _ x=>x.elim) (V j o A)
      have a2:AR (AvR w C (dom (CX obf pm))) l1 ys:=by
       have cA:∀{l:List Av} {us:List Value},AR (AvR w C (dom obf)) l us->AR (AvR w C (dom (CX obf pm))) l us:=fun {l us} h=>by
        induction h with
        | nil=>exact .nil
        | cons h _ ih=>exact .cons (h.ext (AX.refl _ _ _) (fun j A=>(M j).1 A)) ih
       exact cA a1
      have aA:P6 C (CX obf pm) E0.g:=by
       rw[e0];refine⟨fun b fl e h=>KC h,fun j q hq b l G=>?_⟩;have A:j∉pm.map (·.1):=fun h=>by
        unfold rowE at hq;rw[I9,if_pos h]at hq;cases hq
       exact⟨_,NP G (Oq A)⟩
      have Q:=hs vs ags c _ hsp hc E0 ys oi (O5 aA o2 has a2);rw[nB]at Q;refine Q.mono ?_;rintro e w' ⟨v,g,rfl,Z,cs,T,oC,pB,fA,jC,hv⟩;rw[e0]at Z;have hA:∀b,b<w.heap.size->(gP pm C.g b).isFz=true->g b=gP pm C.g b/\w'.heap[b]?=w.heap[b]?:=fun b G N=>by
       cases hg:gP pm C.g b with
       | fz r=>obtain⟨k1,U⟩:=Z.fz b r hg G;exact⟨U,k1⟩
       | ow o l=>rw[hg]at N;cases N
      obtain⟨ge,pA⟩:∃ge:Nat->Bs,ge=fun b=>if b<w.heap.size/\(gP pm C.g b).isFz=true then C.g b else(g b).rnP d i:=⟨_,rfl⟩
      have gA:∀b,b<w.heap.size->(gP pm C.g b).isFz=true->ge b=C.g b:=fun b H I=>by rw[pA];exact if_pos ⟨H,I⟩
      have gB:∀b,¬(b<w.heap.size/\(gP pm C.g b).isFz=true)->ge b=(g b).rnP d i:=fun b h=>by rw[pA];exact if_neg h
      have tA:Kp w C.g w' ge:=by
       refine⟨Z.os,Z.tape,Z.output,Z.size,fun b r G S=>?_,fun b o K G S=>?_⟩
       ·have N:(gP pm C.g b).isFz=true:=by
         unfold gP;rw[G];rfl
        exact⟨(hA b S N).2,by rw[gA b S N];exact G⟩
       ·rcases Lz pm C.g b with⟨r,H,I⟩ | ⟨V,l,H,I⟩ | ⟨V,mC,l,H,I⟩
        ·rw[G]at H;cases H
        ·have N:(gP pm C.g b).isFz=true:=(by rw[I];rfl);exact⟨fun j _=>World.cell?_of_block (w:=w) (hA b S N).2,.inl ⟨o,K,by rw[gA b S N];exact G,Nat.le_refl _⟩⟩
        ·rw[G]at H;cases H;obtain⟨k1,U⟩:=Z.ow b _ _ I S;have O:=gB b (fun h=>by rw[I]at h;cases h.2);refine⟨k1,?_⟩;rcases U with⟨o2,l2,U,k3⟩ | U
         ·refine .inl ?_;rw[O,U];cases o2 with
          | nm j=>exact⟨_,l2,rfl,k3⟩
          | tl B c=>exact⟨_,l2,rfl,k3⟩
         ·refine .inr ?_;rw[O,U];rfl
      have aB:∀b fl e,fl≠.b->(g b).ok fl e->(ge b).ok fl e:=fun b fl e N h=>by
       by_cases G:b<w.heap.size/\(gP pm C.g b).isFz=true
       ·rw[gA b G.1 G.2];rw[(hA b G.1 G.2).1]at h;rcases Lz pm C.g b with⟨r,H,I⟩ | ⟨V,l,H,I⟩ | ⟨V,mC,l,H,I⟩
        ·rw[H,<-I];exact h
        ·rw[I]at h;rw[H];exact(h.resolve_left N) l rfl
        ·rw[I]at h;rw[H];exact h
       ·rw[gB b G];exact Bs.rnP_ok h
      have bA:∀b o K,g b = .ow o K->ge b=(g b).rnP d i:=fun b o K G=>gB b (fun h=>by
       have H:=(hA b h.1 h.2).1;rw[G]at H;rw[<-H]at h;cases h.2)
      have lC:AX (dom (CX obf pm)) w C w' ⟨ge,C.bl,C.hv⟩:=⟨tA,fun _ _=>rfl,fun _ _=>rfl⟩;have vA:AU w' ⟨ge,C.bl,C.hv⟩ (CX obf pm):=fun j o A=>by
       by_cases rA:j∈pm.map (·.1)
       ·rw[I9,if_pos rA]at A;cases A;trivial
       ·have sA:=Oq rA;refine ObR.ext lC (fun _ h=>h) (by unfold dom;rw[A];rfl) (X:=fun b=>¬(gP pm C.g b).isFz=true) (fun b G eC=>?_) (fun b K G O=>?_) (fun vB b j' K G O=>?_) (o2 j o A)
        ·have N:=Classical.not_not.1 eC;exact⟨(hA b G N).2,gA b G N⟩
        ·rw[NP O sA]at G;exact G rfl
        ·rw[Mn O vB,sA]at G;exact G rfl
      obtain⟨L,e1,x2,o3,c1⟩:=Ly (d:=d) (E:=⟨ge,C.bl,C.hv⟩) (fun j T u A h=>by
       cases T with
       | v x=>exact h
       | s fl k n f=>
        cases fl with
        | b=>exact h.elim
        | z=>exact h.1.gn aB h.2
        | o=>
         obtain⟨a,cap,e,hn,kA⟩:=h;refine⟨a,cap,e,hn,fun bB=>?_⟩;obtain⟨b,ha,hg,cs,t,Y,S,W⟩:=kA bB;refine⟨b,ha,?_,cs,t,Y,S,fun p q hp hq=>?_⟩
         ·show ge b=_;rw[bA b _ _ hg,hg];simp only[Bs.rnP];rw[if_neg (by omega)]
         ·obtain⟨u,hu,H,I,h3⟩:=W p q hp hq;refine⟨u,hu,H.gn aB I,h3.ext (fun b' K iA _=>⟨rfl,?_⟩)⟩;show ge b'=_;rw[bA b' _ _ iA,iA];rfl) vA hob jC
      have sB:∀j,dom obf j->dom ob' j:=fun j A=>Kt hob ((M j).1 A)
      cases c1 with
      | @cons _ u0 _ us H ht=>
       obtain⟨lB,R,Y⟩:=H;have R:cs=lB:=by
        simp only[Value.agg.injEq]at R;exact congrArg Array.toList R
       subst R;have mA:dom (CX obf pm) i:=(M i).1 lA;have jA:L.bl i=C.bl i:=x2.bl i mA;have rB:L.g (L.bl i) = .ow (.nm i) 0:=by
        rw[e1,jA];show ge (C.bl i)=_;rw[bA _ _ _ fA,fA];rfl
       have hD:∀j,dom ob' j->dom (put ob' i (.var (DB d 1 v0))) j:=fun j A=>BT A
       have hfin:AU w' L (put ob' i (.var (DB d 1 v0))):=fun j o A=>by
        rw[BD]at A;by_cases e:i=j
        ·rw[if_pos e]at A;cases A;subst e;exact⟨rB,cs,T,by rw[jA];exact pB,CsR.ext (AX.refl _ _ _) hD Y⟩
        ·rw[if_neg e]at A;exact ObR.ext (AX.refl _ _ _) hD (by unfold dom;rw[A];rfl) (X:=fun _=>False) (fun _ _ _=>⟨rfl,rfl⟩) (fun _ _ x=>x.elim) (fun _ _ _ _ x=>x.elim) (o3 j o A)
       have tB:AX (dom ob) w E w' L:=x1.trans ⟨by rw[e1];exact tA,fun j A=>x2.bl j ((M j).1 A),fun j A=>x2.hv j ((M j).1 A)⟩ (fun j A=>(d1 j).1 A);refine⟨v,L,rfl,tB,fun j A=>hD j (sB j ((d1 j).1 A)),hfin,_,rfl,?_⟩;have J:AR (fun (q:Bool×List Cv) u=>VlR w' L (dom (put ob' i (.var (DB d 1 v0)))) q.1 q.2 u) (JT d (1+v0.length) rs) oC:=by
        have dA:∀{l:List (Bool×List Cv)} {us:List Value},AR (fun (q:Bool×List Cv) u=>VlR w' L (dom ob') q.1 q.2 u) l us->AR (fun (q:Bool×List Cv) u=>VlR w' L (dom (put ob' i (.var (DB d 1 v0)))) q.1 q.2 u) l us:=fun {l us} h=>by
         induction h with
         | nil=>exact .nil
         | cons h _ ih=>exact .cons (h.ext (AX.refl _ _ _) hD) ih
        exact dA ht
       match rs,hv,J with
       | [q],hv,J=>
        cases hv;cases J with
        | cons k1 U=>exact k1
       | [],hv,J=>exact⟨_,hv,J⟩
       | q1 :: q2 :: r,hv,J=>exact⟨_,hv,J⟩
     ·cases F
    ·cases F
   ·cases F
  ·cases F
 ·cases F
def evCallN(sp:AL)(d:Nat)(ob:List (Nat×Ob))(l:List Av):Option Dl:=
 match IW true (CI true l ob).2 (CI true l ob).1 with
 | some ags=>match sp ags with
  | some (c,[(true,v0)])=>match Ea d 1 (CI true l ob).2 [(true,v0)] with
   | some ob'=>match get ob' d with
    | none=>if v0.length<=38 then some ⟨c,some (.m false [.p d 0]),put ob' d (.var (DB d 1 v0)),true⟩else none
    | some _=>none
   | none=>none
  | _=>none
 | none=>none
theorem zAT(hs:O2 P f sp w)(ho:AU w E ob)(m:evCallN sp d ob l=some D)(hc:D.c)(hy:AR (AvR w E (dom ob)) l ys) :
 Calls P f ys.toArray w fun e w'=>∃v G,e = .returned v/\AX (dom ob) w E w' G/\(∀j,dom ob j->dom D.ob j)/\AU w' G D.ob/\∃av,D.av=some av/\AvR w' G (dom D.ob) av v:=by
 unfold evCallN at m;obtain⟨A,x1,o1,a1,d1⟩:=Pe (keep:=true) ho hy;generalize (CI true l ob).2=ob1 at *;generalize (CI true l ob).1=l1 at *;split at m
 ·rename_i bA has
  split at m
  ·rename_i c v0 hsp
   split at m
   ·rename_i ob' hob
    split at m
    case h_2=>cases m
    rename_i gA
    split at m
    case isFalse=>cases m
    cases m;refine(hs bA c _ hsp hc (gC A.g) ys (IZ _) (O5 ⟨fun b fl e h=>qh h,fun _ _ _ b _ _=>IZ _ b⟩ o1 has a1)).mono ?_;rintro e w' ⟨B,g,rfl,V,cs,T,eA,O,jA⟩;have N:∀b,b<w.heap.size->g b=gC A.g b/\w'.heap[b]?=w.heap[b]?:=fun b C=>by
     obtain⟨r,hr⟩:=IZ A.g b;obtain⟨k1,k2⟩:=V.fz b r hr C;exact⟨k2.trans hr.symm,k1⟩
    have W:Kp w A.g w' (fun b=>if b<w.heap.size then A.g b else(g b).rnP d d):=by
     refine⟨V.os,V.tape,V.output,V.size,fun b r C K=>⟨(N b K).2,by rw[if_pos K];exact C⟩,fun b o F C K=>⟨fun j _=>World.cell?_of_block (w:=w) (N b K).2,.inl ⟨o,F,by rw[if_pos K];exact C,Nat.le_refl _⟩⟩⟩
    have hx:AX (dom ob1) w A w' ⟨fun b=>if b<w.heap.size then A.g b else(g b).rnP d d,A.bl,A.hv⟩:=⟨W,fun _ _=>rfl,fun _ _=>rfl⟩;have Y:AU w' ⟨fun b=>if b<w.heap.size then A.g b else(g b).rnP d d,A.bl,A.hv⟩ ob1:=fun j b y=>
     ObR.ext hx (fun _ h=>h) (by unfold dom;rw[y];rfl) (X:=fun _=>False) (fun b C _=>⟨(N b C).2,if_pos C⟩) (fun _ _ x=>x.elim) (fun _ _ _ _ x=>x.elim) (o1 j b y)
    have U:∀b fl e,fl≠.b->(g b).ok fl e->Bs.ok fl e (if b<w.heap.size then A.g b else(g b).rnP d d):=fun b fl e hf h=>by
     by_cases C:b<w.heap.size
     ·rw[if_pos C];rw[(N b C).1]at h;exact qg hf h
     ·rw[if_neg C];exact Bs.rnP_ok h
    have L:∀b o F,g b = .ow o F->¬b<w.heap.size:=fun b o F C h=>by
     obtain⟨r,hr⟩:=IZ A.g b;rw[(N b h).1,hr]at C;cases C
    obtain⟨G,e1,x2,o2,c1⟩:=Ly (d:=d) (E:=⟨fun b=>if b<w.heap.size then A.g b else(g b).rnP d d,A.bl,A.hv⟩) (fun j T u y h=>by
     cases T with
     | v x=>exact h
     | s fl k n f=>
      cases fl with
      | b=>exact h.elim
      | z=>exact h.1.gn U h.2
      | o=>
       obtain⟨a,cap,e,hn,R⟩:=h;refine⟨a,cap,e,hn,fun Z=>?_⟩;obtain⟨b,ha,hg,cs,t,J,K,I⟩:=R Z;refine⟨b,ha,?_,cs,t,J,K,fun p q hp hq=>?_⟩
       ·show(if b<w.heap.size then _ else _)=_;rw[if_neg (L b _ _ hg),hg];simp only[Bs.rnP];rw[if_neg (by omega)]
       ·obtain⟨u,hu,h1,h2,h3⟩:=I p q hp hq;refine⟨u,hu,h1.gn U h2,h3.ext (fun b' F Q _=>⟨rfl,?_⟩)⟩;show(if b'<w.heap.size then _ else _)=_;rw[if_neg (L b' _ _ Q),Q];rfl) Y hob jA
    have kA:AX (dom ob) w E w' G:=x1.trans ⟨by rw[e1];exact W,fun i hi=>x2.bl i hi,fun i hi=>x2.hv i hi⟩ (fun j y=>(d1 j).1 y);have iA:∀j,dom ob' j->j≠d:=fun j y=>Ik y gA
    have S:∀j,dom ob j->dom ob' j:=fun j y=>Kt hob ((d1 j).1 y)
    have M:AX (dom ob') w' G w' ⟨G.g,fun j=>if j=d then B else G.bl j,G.hv⟩:=⟨Kp.refl _ _,fun j y=>if_neg (iA j y),fun _ _=>rfl⟩;have hD:∀j,dom ob' j->dom (put ob' d (.var (DB d 1 v0))) j:=fun j y=>BT y
    cases c1 with
    | @cons _ u0 _ us h1 ht=>
     obtain⟨cA,H,J⟩:=h1;have H:cs=cA:=by
      simp only[Value.agg.injEq]at H;exact congrArg Array.toList H
     subst H;refine⟨_,_,rfl,kA.trans M S,fun j y=>hD j (S j y),fun j o y=>?_,_,rfl,.p d 0,rfl,by unfold dom;rw[BD,if_pos rfl];rfl,by simp⟩;rw[BD]at y;by_cases e:d=j
     ·rw[if_pos e]at y;cases y;subst e;refine⟨?_,cs,T,by simpa using eA,CsR.ext M hD J⟩;show G.g (if d=d then B else _)=_;rw[if_pos rfl,e1];show(if B<w.heap.size then _ else _)=_;rw[if_neg (L _ _ _ O),O];rfl
     ·rw[if_neg e]at y;exact ObR.ext M hD (by unfold dom;rw[y];rfl) (X:=fun _=>False) (fun _ _ _=>⟨rfl,rfl⟩) (fun _ _ x=>x.elim) (fun _ _ _ _ x=>x.elim) (o2 j o y)
   ·cases m
  ·cases m
 ·cases m
def O3(P:Program)(f:Nat)(sp:AL)(w:World):Prop:=
 ∀vs ags c rs,sp (ags ++ [(true,vs)])=some (c,rs)->c->∀(E:En) (ys:List Value) (y:Value),AU w E (Dd 0 vs)->AR (FL w E.g) ags ys->VlR w E (dom (Dd 0 vs)) true (DB 0 0 vs) y->
  Calls P f (ys ++ [y]).toArray w fun e w'=>∃v g,e = .returned v/\Kp w E.g w' g/\JE w' g rs v
def NJ(P:Program)(f:Nat)(sp:AL):Prop:=∀w,O3 P f sp w
def unlast:List Av->Option (List Av×List Cv)
 | []=>none
 | x :: l=>match l,x with
  | [],.m true c=>some ([],c)
  | [],_=>none
  | _ :: _,_=>match unlast l with
   | some q=>some (x :: q.1,q.2)
   | none=>none
theorem Qw:∀{r l:List Av} {c:List Cv},unlast r=some (l,c)->r=l ++ [.m true c]
 | [],l,c,h=>by cases h
 | x :: r,l,c,h=>by
  unfold unlast at h;split at h
  ·cases h;rfl
  ·cases h
  ·split at h
   ·rename_i q hq
    cases h;rw[Qw (l:=q.1) (c:=q.2) hq];rfl
   ·cases h
theorem zGD{D:Nat->Prop}(O:AU w E ob)(hv:varT ob cl=some vs)(hn:E8 ((pmC 0 cl).map (·.1))=true)(l:E8 ((pmC 0 cl).map (·.2))=true) :
 ∃v,v.g=gP (pmC 0 cl) E.g/\AU w v (Dd 0 vs)/\∀cs,CsR w E D cl cs->CsR w v (dom (Dd 0 vs)) (DB 0 0 vs) cs:=by
 obtain⟨c,t⟩:∃c,c=pmC 0 cl:=⟨_,rfl⟩;rw[<-t]at hn l ⊢;have d:∀p∈pmC 0 cl,p∈c:=fun p n=>by rw[t];exact n
 refine⟨⟨gP c E.g,fun j=>E.bl ((get (swp c) j).getD 0),fun j=>E.hv ((get (swp c) j).getD 0)⟩,rfl,fun j o M=>?_,fun cs z=>Qj (fun b fl e h=>KC h) hv (fun p n=>?_) z⟩
 ·obtain⟨r,k,m,f,C,H,rfl⟩:=Qn hv M;have e0:(get (swp c) j).getD 0=r:=(by rw[KM l (d _ C)];rfl);obtain⟨a,cap,B,A,K⟩:=O r _ H;refine⟨a,cap,?_,A,fun G=>?_⟩
  ·show E.hv ((get (swp c) j).getD 0)=_;rw[e0];exact B
  ·obtain⟨I,F,cs,T,L,N,i⟩:=K G;have s:=J4 hn (d _ C);refine⟨?_,?_,cs,T,?_,N,fun p q n P=>?_⟩
   ·show a=some ⟨E.bl ((get (swp c) j).getD 0),0,none⟩;rw[e0];exact I
   ·show gP c E.g (E.bl ((get (swp c) j).getD 0))=_;rw[e0];exact Pg F s
   ·show w.heap[E.bl ((get (swp c) j).getD 0)]?=_;rw[e0];exact L
   ·obtain⟨u,R,hs,Q⟩:=i p q n P;refine⟨u,R,Sh.okm (fun b fl e h=>KC h) hs,?_⟩;show CM w (gP c E.g) (E.bl ((get (swp c) j).getD 0)) _ _ _;rw[e0];refine Q.ext (fun b S J _=>⟨rfl,?_⟩);rw[Mn J F,s]
 ·obtain⟨x,y⟩:=p;refine⟨?_,(Kn hv n).1⟩;show E.hv ((get (swp c) y).getD 0)=E.hv x;rw[KM l (d _ n)];rfl
def evCallO(sp:AL)(d:Nat)(ob:List (Nat×Ob))(r:List Av):Option Dl:=
 match unlast r with
 | some (l,cl)=>match varT ob cl,IW false (CX ob (pmC 0 cl)) l with
  | some vs,some ags=>if E8 ((pmC 0 cl).map (·.1))=true/\E8 ((pmC 0 cl).map (·.2))=true then
    match sp (ags ++ [(true,vs)])with
    | some (c,rs)=>match Ea d 0 (CX ob (pmC 0 cl)) rs with
     | some ob'=>if tot rs<=40 then some ⟨c,some (match rs with
      | [q]=>.m q.1 (DB d 0 q.2)
      | _=>.t (JT d 0 rs)),ob',true⟩else none
     | none=>none
    | none=>none
   else none
  | _,_=>none
 | none=>none
theorem YN{α β : Type}{R:α->β->Prop}:∀{l l':List α} {ys:List β},AR R (l ++ l') ys->∃a b,ys=a ++ b/\AR R l a/\AR R l' b
 | [],l',ys,h=>⟨[],ys,rfl,.nil,h⟩
 | x :: l,l',ys,h=>by
  cases h with
  | cons h1 t=>
   obtain⟨a,b,rfl,c,d⟩:=YN (l:=l) t;exact⟨_ :: a,b,rfl,.cons h1 c,d⟩
theorem zAV(hs:O3 P f sp w)(ho:AU w E ob)(i:evCallO sp d ob l=some D)(hc:D.c)(hy:AR (AvR w E (dom ob)) l ys) :
 Calls P f ys.toArray w fun e w'=>∃v V,e = .returned v/\AX (dom ob) w E w' V/\(∀j,dom ob j->dom D.ob j)/\AU w' V D.ob/\∃av,D.av=some av/\AvR w' V (dom D.ob) av v:=by
 unfold evCallO at i;split at i
 ·rename_i l1 cl hul
  rw[Qw hul]at hy;obtain⟨rA,yl,rfl,a1,nB⟩:=YN hy;cases nB with
  | @cons _ y _ us hyo tt=>
  cases tt;split at i
  ·rename_i vs ags hvs has
   split at i
   ·rename_i jB
    obtain⟨hn,fB⟩:=jB;split at i
    ·rename_i c rs hsp
     split at i
     ·rename_i ob' hob
      split at i
      case isFalse=>cases i
      cases i;obtain⟨vA,W,cA⟩:=hyo;obtain⟨E0,e0,oi,Q⟩:=zGD (D:=dom ob) ho hvs hn fB;have eB:∀j,j∈(pmC 0 cl).map (·.1)->dom ob j:=fun j C=>by
       obtain⟨⟨r,y⟩,hp,rfl⟩:=List.mem_map.1 C;obtain⟨-,k,m,f,h⟩:=Kn hvs hp;unfold dom;rw[h];rfl
      generalize lC:pmC 0 cl=pm at *;have K:∀j,dom ob j↔dom (CX ob pm) j:=fun j=>by
       unfold dom;rw[I9];split
       ·rename_i h
        have:=eB j h;unfold dom at this;simp[this]
       ·exact Iff.rfl
      have o2:AU w E (CX ob pm):=fun j o C=>by
       rw[I9]at C;split at C
       ·cases C;trivial
       ·exact ObR.ext (AX.refl _ _ _) (fun j C=>(K j).1 C) (by unfold dom;rw[C];rfl) (X:=fun _=>False) (fun _ _ _=>⟨rfl,rfl⟩) (fun _ _ x=>x.elim) (fun _ _ _ _ x=>x.elim) (ho j o C)
      have a2:AR (AvR w E (dom (CX ob pm))) l1 rA:=by
       have Y:∀{l:List Av} {us:List Value},AR (AvR w E (dom ob)) l us->AR (AvR w E (dom (CX ob pm))) l us:=fun {l us} h=>by
        induction h with
        | nil=>exact .nil
        | cons h _ ih=>exact .cons (h.ext (AX.refl _ _ _) (fun j C=>(K j).1 C)) ih
       exact Y a1
      have S:P6 E (CX ob pm) E0.g:=by
       rw[e0];refine⟨fun b fl e h=>KC h,fun j q hq b l A=>?_⟩;have C:j∉pm.map (·.1):=fun h=>by
        unfold rowE at hq;rw[I9,if_pos h]at hq;cases hq
       exact⟨_,NP A (Oq C)⟩
      have N:=hs vs ags c _ hsp hc E0 rA y oi (O5 S o2 has a2) ⟨vA,W,Q _ cA⟩;refine N.mono ?_;rintro e w' ⟨v,g,rfl,R,rC,lB,hv⟩;rw[e0]at R;have Z:∀b,b<w.heap.size->(gP pm E.g b).isFz=true->g b=gP pm E.g b/\w'.heap[b]?=w.heap[b]?:=fun b A I=>by
       cases hg:gP pm E.g b with
       | fz r=>obtain⟨k1,M⟩:=R.fz b r hg A;exact⟨M,k1⟩
       | ow o l=>rw[hg]at I;cases I
      obtain⟨ge,eA⟩:∃ge:Nat->Bs,ge=fun b=>if b<w.heap.size/\(gP pm E.g b).isFz=true then E.g b else(g b).rn d:=⟨_,rfl⟩
      have gA:∀b,b<w.heap.size->(gP pm E.g b).isFz=true->ge b=E.g b:=fun b F G=>by rw[eA];exact if_pos ⟨F,G⟩
      have gB:∀b,¬(b<w.heap.size/\(gP pm E.g b).isFz=true)->ge b=(g b).rn d:=fun b h=>by rw[eA];exact if_neg h
      have U:∀{s:Bs} {fl:Fl} {e:Nat},s.ok fl e->(s.rn d).ok fl e:=fun {s fl e} h=>by
       cases s with
       | fz r=>exact h
       | ow o l=>cases o<;>exact h
      have jA:Kp w E.g w' ge:=by
       refine⟨R.os,R.tape,R.output,R.size,fun b r A L=>?_,fun b o H A L=>?_⟩
       ·have I:(gP pm E.g b).isFz=true:=by
         unfold gP;rw[A];rfl
        exact⟨(Z b L I).2,by rw[gA b L I];exact A⟩
       ·rcases Lz pm E.g b with⟨r,F,G⟩ | ⟨o1,l,F,G⟩ | ⟨o1,pB,l,F,G⟩
        ·rw[A]at F;cases F
        ·have I:(gP pm E.g b).isFz=true:=(by rw[G];rfl);exact⟨fun j _=>World.cell?_of_block (w:=w) (Z b L I).2,.inl ⟨o,H,by rw[gA b L I];exact A,Nat.le_refl _⟩⟩
        ·rw[A]at F;cases F;obtain⟨k1,M⟩:=R.ow b _ _ G L;have J:=gB b (fun h=>by rw[G]at h;cases h.2);refine⟨k1,?_⟩;rcases M with⟨o2,l2,M,k3⟩ | M
         ·refine .inl ?_;rw[J,M];cases o2 with
          | nm j=>exact⟨_,l2,rfl,k3⟩
          | tl B c=>exact⟨_,l2,rfl,k3⟩
         ·refine .inr ?_;rw[J,M];rfl
      have mA:∀b fl e,fl≠.b->(g b).ok fl e->(ge b).ok fl e:=fun b fl e I h=>by
       by_cases A:b<w.heap.size/\(gP pm E.g b).isFz=true
       ·rw[gA b A.1 A.2];rw[(Z b A.1 A.2).1]at h;rcases Lz pm E.g b with⟨r,F,G⟩ | ⟨o1,l,F,G⟩ | ⟨o1,pB,l,F,G⟩
        ·rw[F,<-G];exact h
        ·rw[G]at h;rw[F];exact(h.resolve_left I) l rfl
        ·rw[G]at h;rw[F];exact h
       ·rw[gB b A];exact U h
      have kA:∀b o H,g b = .ow o H->ge b=(g b).rn d:=fun b o H A=>gB b (fun h=>by
       have F:=(Z b h.1 h.2).1;rw[A]at F;rw[<-F]at h;cases h.2)
      have mB:AX (dom (CX ob pm)) w E w' ⟨ge,E.bl,E.hv⟩:=⟨jA,fun _ _=>rfl,fun _ _=>rfl⟩;have lA:AU w' ⟨ge,E.bl,E.hv⟩ (CX ob pm):=fun j o C=>by
       by_cases fA:j∈pm.map (·.1)
       ·rw[I9,if_pos fA]at C;cases C;trivial
       ·have iA:=Oq fA;refine ObR.ext mB (fun _ h=>h) (by unfold dom;rw[C];rfl) (X:=fun b=>¬(gP pm E.g b).isFz=true) (fun b A iB=>?_) (fun b H A J=>?_) (fun cB b j' H A J=>?_) (o2 j o C)
        ·have I:=Classical.not_not.1 iB;exact⟨(Z b A I).2,gA b A I⟩
        ·rw[NP J iA]at A;exact A rfl
        ·rw[Mn J cB,iA]at A;exact A rfl
      obtain⟨V,e1,x2,o3,c1⟩:=Ly (d:=d) (E:=⟨ge,E.bl,E.hv⟩) (fun j T u C h=>by
       cases T with
       | v x=>exact h
       | s fl k n f=>
        cases fl with
        | b=>exact h.elim
        | z=>exact h.1.gn mA h.2
        | o=>
         obtain⟨a,cap,e,hn,bA⟩:=h;refine⟨a,cap,e,hn,fun nA=>?_⟩;obtain⟨b,ha,hg,cs,t,Q,L,O⟩:=bA nA;refine⟨b,ha,?_,cs,t,Q,L,fun p q hp hq=>?_⟩
         ·show ge b=_;rw[kA b _ _ hg,hg];rfl
         ·obtain⟨u,hu,F,G,h3⟩:=O p q hp hq;refine⟨u,hu,F.gn mA G,h3.ext (fun b' H aA _=>⟨rfl,?_⟩)⟩;show ge b'=_;rw[kA b' _ _ aA,aA];rfl) lA hob lB
      have bB:AX (dom ob) w E w' V:=⟨by rw[e1];exact jA,fun j C=>x2.bl j ((K j).1 C),fun j C=>x2.hv j ((K j).1 C)⟩;refine⟨v,V,rfl,bB,fun j C=>Kt hob ((K j).1 C),o3,_,rfl,?_⟩
      match rs,hv,c1 with
      | [q],hv,c1=>
       cases hv;cases c1 with
       | cons k1 M=>exact k1
      | [],hv,c1=>exact⟨_,hv,c1⟩
      | q1 :: q2 :: r,hv,c1=>exact⟨_,hv,c1⟩
     ·cases i
    ·cases i
   ·cases i
  ·cases i
 ·cases i
end Go.Proofs.YtddigaohmfpepaaGreatDoor
