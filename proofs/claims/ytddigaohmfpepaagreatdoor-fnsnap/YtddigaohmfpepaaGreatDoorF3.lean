/- A part of the proof. -/
import Derived.Test.YtddigaohmfpepaaGreatDoorF2
import Derived.Laws.BytesArg
set_option linter.unusedVariables false
set_option maxRecDepth 20000
set_option maxHeartbeats 4000000
namespace Go.Proofs.YtddigaohmfpepaaGreatDoor
open Go.RowKit
variable{w:World}{B:Nat}
theorem Kp.turnL{g:Nat->Bs}{f a:Nat}{o o':Ow}(h:g B = .ow o f)(k:f<=a){c0:List Value}{T:TypeId}(m:w.heap[B]?=some (.cells c0.toArray T (0,0))){c:List Value}(p:∀j,j<f->c[j]?=c0[j]?):Kp w g (w.setRow B c.toArray) (fun b=>if b=B then .ow o' a else g b):=by
 refine⟨rfl,rfl,rfl,by simp[World.setRow],fun b r d s=>?_,fun b q l d s=>?_⟩
 ·have i:b≠B:=fun e=>by rw[e,h]at d;cases d
  exact⟨Fk w B _ b i,by rw[if_neg i];exact d⟩
 ·by_cases e:b=B
  ·subst e;rw[h]at d;cases d;refine⟨fun j n=>?_,.inl ⟨o',a,if_pos rfl,k⟩⟩;rw[cell_of_row _ _ _ _ T _ (setRow_heap _ _ _ _ _ _ m),cell_of_row _ _ _ _ T _ m];simpa using p j n
  ·exact⟨fun j n=>World.cell?_of_block (w:=w) (Fk w B _ b e),.inl ⟨q,l,by rw[if_neg e];exact d,Nat.le_refl _⟩⟩
def tlOf(k:Nat)(ob:List (Nat×Ob)):Cv->Option (Nat×Nat×(Nat->Nat->Tr))
 | .h i=>match get ob i with
  | some (.tl k' n f)=>if k'=k then some (i,n,f)else none
  | _=>none
 | _=>none
def evAppendT(de:TyD)(ob:List (Nat×Ob))(r:Nat)(x y:Cv):Option (Prop×List (Nat×Ob)):=
 match get ob r,tlOf de.k ob x,srcOf de.k ob y with
 | none,some (i,n,f),some (C,m,f')=>some (C/\n+m<=1000000000,put (put ob i .dead) r (.tl de.k (n+m) (Ai f n f')))
 | _,_,_=>none
variable{E:En}{ob:List (Nat×Ob)}{i r k n:Nat}{f:Nat->Nat->Tr}
theorem Nf{w':World}(U:AU w E ob)(hi:dom ob i)(Y:get ob r=none){a:Option Addr}{cap:Nat}{c1:List Value}{T:TypeId}(hn:n<=cap)
 (S:0<cap->Kp w E.g w' (fun b=>if b=B then .ow (.nm r) (n*k)else E.g b)) (I:cap=0->Kp w E.g w' E.g) (t:∀b,b<w.heap.size->¬(0<cap/\b=B)->w'.heap[b]?=w.heap[b]?) (O:0<cap->w.heap.size<=B\/∃o,E.g B = .ow (.nm i) o)
 (P:0<cap->a=some ⟨B,0,none⟩/\w'.heap[B]?=some (.cells c1.toArray T (0,0))/\c1.length=cap*k/\∀p j,p<n->j<k->∃u,c1[p*k+j]?=some u/\Sh w E.g (f p j) u) :
 ∃F,AX (dom ob) w E w' F/\AU w' F (put (put ob i .dead) r (.tl k n f))/\AvR w' F (dom (put (put ob i .dead) r (.tl k n f))) (.m false [.h r]) (.slice a n cap):=by
 have C:∀j,dom ob j->j≠r:=fun j c=>Ik c Y
 obtain⟨g',A,H,G⟩:∃g':Nat->Bs,Kp w E.g w' g'/\(∀b,¬(0<cap/\b=B)->g' b=E.g b)/\(0<cap->g' B = .ow (.nm r) (n*k)):=by
  rcases Nat.eq_zero_or_pos cap with e | e
  ·exact⟨E.g,I e,fun _ _=>rfl,fun h=>by omega⟩
  ·exact⟨_,S e,fun b s=>if_neg (fun y=>s ⟨e,y⟩),fun _=>if_pos rfl⟩
 have K:AX (dom ob) w E w' ⟨g',fun j=>if j=r then B else E.bl j,fun j=>if j=r then .slice a n cap else E.hv j⟩:=⟨A,fun j c=>if_neg (C j c),fun j c=>if_neg (C j c)⟩;refine⟨_,K,fun j b c=>?_,.h r,rfl,by unfold dom;rw[BD,if_pos rfl];rfl,by simp,rfl⟩;rw[BD,BD]at c;by_cases e:r=j
 ·subst e;rw[if_pos rfl]at c;cases c;refine⟨a,cap,by simp,hn,fun D=>?_⟩;obtain⟨v,L,M,N⟩:=P D;exact⟨by simp[v],by simp[G D],c1,T,by simp[L],M,fun p q V W=>let ⟨u,hu,hs⟩:=N p q V W;⟨u,hu,hs.kp A⟩⟩
 ·rw[if_neg e]at c;by_cases y:i=j
  ·rw[if_pos y]at c;cases c;trivial
  ·rw[if_neg y]at c;have Q:dom ob j:=(by unfold dom;rw[c];rfl);have z:∀b,(0<cap/\b=B/\b<w.heap.size)->∃o,E.g b = .ow (.nm i) o:=fun b s=>by
    obtain⟨D,rfl,Z⟩:=s;rcases O D with v | v
    ·omega
    ·exact v
   refine ObR.ext K (fun j c=>BT (BT c)) Q (X:=fun b=>0<cap/\b=B/\b<w.heap.size) (fun b s J=>?_) (fun b o s d=>?_) (fun R b j' o s d=>?_) (U j b c)
   ·have x:¬(0<cap/\b=B):=fun h=>J ⟨h.1,h.2,s⟩
    exact⟨t b s x,H b x⟩
   ·obtain⟨l,v⟩:=z b s;rw[v]at d;cases d;exact y rfl
   ·obtain⟨l,v⟩:=z b s;rw[v]at d;cases d
variable{P:Program}{t:Nat}{d de:TyD}{ob':List (Nat×Ob)}{x:Cv}{c:Prop}
theorem zC8(h:BA P t d)(he:d.el≠0)(h':BA P d.el de)(ho:AU w E ob){y:Cv}(Q:evAppendT de ob r x y=some (c,ob'))(hc:c){u v:Value}(G:CvR w E (dom ob) x u)(hv:CvR w E (dom ob) y v)(ty:Nat) :
 ∃z w' H,(Builtin.append_ #[t,t] ty #[u,v]).run P w = .ok z w'/\AX (dom ob) w E w' H/\(∀j,dom ob j->dom ob' j)/\AU w' H ob'/\AvR w' H (dom ob') (.m false [.h r]) z:=by
 unfold evAppendT at Q;split at Q
 ·rename_i i n f C m f' hr hd hs
  cases Q;obtain⟨hC,fA⟩:=hc;obtain⟨-,a',c',rfl,lA⟩:=UD ho hs hC hv;cases x<;>simp only[tlOf]at hd<;>try (cases hd;done)
  rename_i i'
  split at hd
  ·rename_i k' n' fo hi
   split at hd
   ·rename_i ek
    subst ek;cases hd;obtain⟨a,cap,gB,hn,gA⟩:=ho _ _ hi;obtain⟨N,rfl,-⟩:=G;rw[gB];have O:∀j,dom ob j->dom (put (put ob i .dead) r (.tl de.k (n+m) (Ai f n f'))) j:=fun j D=>BT (BT D)
    obtain⟨b,o,s,Z,L,eA,kA⟩:∃b o,∃s:List Value,s.length=m*de.k/\(∀(j:Nat) u,s[j]?=some u->w.cell? ⟨b,o+j,none⟩=some u)/\(0<m->a'=some ⟨b,o,none⟩)/\∀p j,p<m->j<de.k->∃u,s[p*de.k+j]?=some u/\Sh w E.g (f' p j) u:=by
     rcases Nat.eq_zero_or_pos m with e | e
     ·subst e;exact⟨0,0,[],by simp,fun j u h=>by simp at h,fun h=>by omega,fun p j J=>by omega⟩
     ·obtain⟨b,o,ha,A⟩:=lA e;obtain⟨cs,h1,h2⟩:=Y7 m (fun p j J D=>let ⟨u,G,_⟩:=A p j J D;⟨u,G⟩);refine⟨b,o,cs,h1,h2,fun _=>ha,fun p j J D=>?_⟩;obtain⟨u,G,F⟩:=A p j J D;have K:=Fb J D;have h5:cs[p*de.k+j]?=some cs[p*de.k+j]:=List.getElem?_eq_getElem (by omega);have h6:=h2 _ _ h5;rw[G]at h6;cases h6;exact⟨_,h5,F⟩
    have jA:∀u∈s,u.oneCell'=true:=fun u G=>by
     obtain⟨q,hq⟩:=List.getElem?_of_mem G;have K:=(List.getElem?_eq_some_iff.1 hq).1;have J:=h'.pos;obtain⟨u',nA,fB⟩:=kA (q / de.k) (q % de.k) ((Nat.div_lt_iff_lt_mul J).2 (by omega)) (Nat.mod_lt _ J);rw[Nat.mul_comm,Nat.div_add_mod,hq]at nA;cases nA;exact fB.one
    have U:∀(olds rest:List Value),olds.length=n*de.k->(∀p j,p<n->j<de.k->∃u,olds[p*de.k+j]?=some u/\Sh w E.g (f p j) u)->∀p j,p<n+m->j<de.k->∃u,(olds ++ s ++ rest)[p*de.k+j]?=some u/\Sh w E.g (Ai f n f' p j) u:=fun olds rest M holds p j J D=>by
     by_cases aA:p<n
     ·obtain⟨u,G,F⟩:=holds p j aA D;have K:=(List.getElem?_eq_some_iff.1 G).1;exact⟨u,by rw[List.append_assoc,List.getElem?_append_left K];exact G,by unfold Ai;rw[if_pos aA];exact F⟩
     ·obtain⟨u,G,F⟩:=kA (p - n) j (by omega) D;have e:p*de.k+j=n*de.k+((p - n)*de.k+j):=by
       rw[<-Nat.add_assoc,<-Nat.add_mul];congr 2;omega
      refine⟨u,?_,by unfold Ai;rw[if_neg aA];exact F⟩;have K:=(List.getElem?_eq_some_iff.1 G).1;rw[e,List.append_assoc,List.getElem?_append_right (by omega),M,Nat.add_sub_cancel_left,List.getElem?_append_left K];exact G
    have R:∀(olds:List Value),olds.length=n*de.k->(∀p j,p<n->j<de.k->∃u,olds[p*de.k+j]?=some u/\Sh w E.g (f p j) u)->(0<n->∃B,a=some ⟨B,0,none⟩/\∀(j:Nat) u,olds[j]?=some u->w.cell? ⟨B,j,none⟩=some u)->cap<n+m->
     ∃z w' H,(Builtin.append_ #[t,t] ty #[.slice a n cap,.slice a' m c']).run P w = .ok z w'/\AX (dom ob) w E w' H/\(∀j,dom ob j->dom (put (put ob i .dead) r (.tl de.k (n+m) (Ai f n f'))) j)/\AU w' H (put (put ob i .dead) r (.tl de.k (n+m) (Ai f n f')))/\AvR w' H (dom (put (put ob i .dead) r (.tl de.k (n+m) (Ai f n f')))) (.m false [.h r]) z:=by
     intro olds M holds hB bB;have ea:=eA (by omega);subst ea;obtain⟨cA,rest,h1,h2,h3⟩:=QZ h he h' (w:=w) (a:=a) (n:=n) (cap:=cap) (olds:=olds) M hB Z L hn bB fA ty (c':=c');have I:∀b,b<w.heap.size->(w.drew.alloc (.cells (olds ++ s ++ rest).toArray d.el)).heap[b]?=w.heap[b]?:=fun b S=>Below.heap_alloc w.drew _ _ S
     obtain⟨H,V,W,X⟩:=Nf (w':=w.drew.alloc (.cells (olds ++ s ++ rest).toArray d.el)) ho N hr (k:=de.k) (n:=n+m) (f:=Ai f n f') (a:=some ⟨w.heap.size,0,none⟩) (cap:=cA) (B:=w.heap.size) (c1:=olds ++ s ++ rest) (T:=d.el) h1
      (fun _=>⟨rfl,rfl,rfl,by show _<=(w.heap.push _).size;simp,fun b x S Z=>⟨I b Z,by rw[if_neg (by omega)];exact S⟩,fun b x l S Z=>⟨fun j _=>World.cell?_of_block (w:=w) (I b Z),.inl ⟨x,l,by rw[if_neg (by omega)];exact S,Nat.le_refl _⟩⟩⟩)
      (fun e=>by omega) (fun b S _=>I b S) (fun _=>.inl (Nat.le_refl _))
      (fun _=>⟨rfl,OF w.drew _,by rw[List.length_append,List.length_append,M,Z,h2,<-Nat.add_mul,<-Nat.add_mul];congr 1;omega,U olds rest M holds⟩)
     exact⟨_,_,H,h3,V,O,W,X⟩
    rcases Nat.eq_zero_or_pos cap with e0 | e0
    ·subst e0;have en:n=0:=(by omega);subst en;rcases Nat.eq_zero_or_pos m with e | e
     ·subst e;obtain⟨H,V,W,X⟩:=Nf (w':=w) ho N hr (k:=de.k) (n:=0+0) (f:=Ai f 0 f') (a:=a) (cap:=0) (B:=0) (c1:=[]) (T:=0) (Nat.le_refl _) (fun h=>by omega) (fun _=>Kp.refl _ _) (fun _ _ _=>rfl) (fun h=>by omega) (fun h=>by omega);exact⟨_,_,H,O4 h he h' hn ty,V,O,W,X⟩
     ·exact R [] (by simp) (fun p j J=>by omega) (fun h0=>by omega) (by omega)
    ·obtain⟨ha,hg,cs,T,Y,iA,A⟩:=gA e0;subst ha;have cC:=Nat.mul_le_mul_right de.k hn;have mA:(cs.take (n*de.k)).length=n*de.k:=(by simp;omega);have holds:∀p j,p<n->j<de.k->∃u,(cs.take (n*de.k))[p*de.k+j]?=some u/\Sh w E.g (f p j) u:=fun p j J D=>by
      obtain⟨u,G,F⟩:=A p j J D;exact⟨u,by rw[List.getElem?_take,if_pos (Fb J D)];exact G,F⟩
     by_cases hm:n+m<=cap
     ·rcases Nat.eq_zero_or_pos m with e | e
      ·subst e;have hk:Kp w E.g w (fun b=>if b=E.bl i then .ow (.nm r) ((n+0)*de.k)else E.g b):=by
        have:=Kp.turnL (w:=w) (o':=.nm r) hg (Nat.le_refl _) Y (c:=cs) (fun _ _=>rfl);rw[setRow_self _ _ _ T (0,0) Y]at this;exact this
       obtain⟨H,V,W,X⟩:=Nf (w':=w) ho N hr (k:=de.k) (n:=n+0) (f:=Ai f n f') (a:=some ⟨E.bl i,0,none⟩) (cap:=cap) (B:=E.bl i) (c1:=cs) (T:=T) hm (fun _=>hk) (fun e=>by omega) (fun _ _ _=>rfl) (fun _=>.inr ⟨_,hg⟩) (fun _=>⟨rfl,Y,iA,fun p j J D=>by
        obtain⟨u,G,F⟩:=A p j (by omega) D;exact⟨u,G,by unfold Ai;rw[if_pos (by omega)];exact F⟩⟩)
       exact⟨_,_,H,O4 h he h' hn ty,V,O,W,X⟩
      ·have ea:=eA e;subst ea;have eB:=V9 h he h' Y iA Z L jA hm ty (c':=c');have bC:(n+m)*de.k<=cap*de.k:=Nat.mul_le_mul_right _ hm;have mB:n*de.k+m*de.k=(n+m)*de.k:=(Nat.add_mul _ _ _).symm;obtain⟨H,V,W,X⟩:=Nf (w':=w.setRow (E.bl i) (cs.take (n*de.k) ++ s ++ cs.drop (n*de.k+s.length)).toArray) ho N hr (k:=de.k) (n:=n+m) (f:=Ai f n f') (a:=some ⟨E.bl i,0,none⟩) (cap:=cap) (B:=E.bl i) (c1:=cs.take (n*de.k) ++ s ++ cs.drop (n*de.k+s.length)) (T:=T) hm
        (fun _=>Kp.turnL hg (by omega) Y (fun j D=>by rw[List.append_assoc,List.getElem?_append_left (by omega),List.getElem?_take,if_pos D])) (fun e=>by omega) (fun b S cB=>Fk _ _ _ _ (fun e'=>cB ⟨e0,e'⟩)) (fun _=>.inr ⟨_,hg⟩)
        (fun _=>⟨rfl,setRow_heap _ _ _ _ _ _ Y,by simp;omega,U _ _ mA holds⟩)
       exact⟨_,_,H,eB,V,O,W,X⟩
     ·exact R _ mA holds (fun _=>⟨_,rfl,fun j u D=>by
       rw[cell_of_row w _ _ _ T _ Y];rw[List.getElem?_take]at D;split at D
       ·simpa using D
       ·cases D⟩) (by omega)
   ·cases hd
  ·cases hd
 ·cases Q
def mvOf(k:Nat)(ob:List (Nat×Ob)):Cv->Option (Prop×Nat×Nat×Nat×Nat×(Nat->Nat->Tr))
 | .h i=>match get ob i with
  | some (.row k' n f)=>if k'=k then some (True,i,0,n,n,f)else none
  | _=>none
 | .hs i k' lo m=>match get ob i with
  | some (.row k2 n f)=>if k'=k/\k2=k then some (lo+m<=n,i,lo,m,n,f)else none
  | _=>none
 | _=>none
variable{lo:Nat}
theorem zH8(l:AU w E ob){m:Nat}{C:Prop}(h:mvOf k ob x=some (C,i,lo,m,n,f))(d:C){y:Value}(b:CvR w E (dom ob) x y) :
 get ob i=some (.row k n f)/\lo+m<=n/\∃a c,y = .slice a m c/\(0<m->a=some ⟨E.bl i,lo*k,none⟩):=by
 unfold mvOf at h;split at h
 ·rename_i o
  split at h
  ·rename_i p n' f' hi
   split at h
   ·rename_i e
    subst e;cases h;obtain⟨a,cap,hv,hn,j⟩:=l _ _ hi;exact⟨hi,by omega,a,cap,b.2.1.trans hv,fun q=>by simpa using (j (by omega)).1⟩
   ·cases h
  ·cases h
 ·rename_i o p lo' m'
  split at h
  ·rename_i r n' f' hi
   split at h
   ·rename_i e
    obtain⟨rfl,rfl⟩:=e;cases h;obtain⟨-,a,c,e,g⟩:=b;exact⟨hi,d,a,c,e,g⟩
   ·cases h
  ·cases h
 ·cases h
def ntR(F:Nat->Nat->Tr)(lo m:Nat):Nat->Nat->Tr:=fun p q=>if lo<=p/\p<lo+m then(F p q).nt else F p q
def evAppendM(de:TyD)(ob:List (Nat×Ob))(r:Nat)(x y:Cv):Option (Prop×List (Nat×Ob)):=
 match get ob r,dstOf de.k ob x,mvOf de.k ob y with
 | none,some (id,n,f),some (C,i,lo,m,N,F)=>if id≠some i then some (C/\n+m<=1000000000,put (put (DQ ob id) i (.row de.k N (ntR F lo m))) r (.row de.k (n+m) (Ai f n fun p q=>F (lo+p) q)))else none
 | _,_,_=>none
def Bs.rl(B B' lo hi to:Nat):Bs->Bs
 | .ow (.tl b c) l=>if b=B/\lo<=c/\c<hi then .ow (.tl B' (c - lo+to)) l else .ow (.tl b c) l
 | s=>s
theorem Bs.rl_nm{B' hi to:Nat}{s:Bs}{l:Nat}(h:s = .ow (.nm i) l):s.rl B B' lo hi to = .ow (.nm i) l:=by subst h;rfl
theorem zIu(ho:AU w E ob){N M m:Nat}{F G:Nat->Nat->Tr}(hi:get ob i=some (.row k N F))(hr:get ob r=some (.row k M G))(mA:i≠r)(rB:lo+m<=N)(hM:M=n+m)
 (hG:∀p q,p<m->q<k->∃u,G (n+p) q = .v u/\w.cell? ⟨E.bl i,(lo+p)*k+q,none⟩=some u) :
 ∃E',E'.bl=E.bl/\E'.hv=E.hv/\AX (dom ob) w E w E'/\AU w E' (put (put ob i (.row k N (ntR F lo m))) r (.row k M (fun p q=>if p<n then G p q else F (lo+(p - n)) q))):=by
 have Y:Kp w E.g w (fun b=>(E.g b).rl (E.bl i) (E.bl r) (lo*k) ((lo+m)*k) (n*k)):=by
  refine⟨rfl,rfl,rfl,Nat.le_refl _,fun b x y _=>⟨rfl,by rw[y];rfl⟩,fun b o l y _=>⟨fun _ _=>rfl,.inl ?_⟩⟩;rw[y];cases o with
  | nm j=>exact⟨_,l,rfl,Nat.le_refl _⟩
  | tl b c=>
   simp only[Bs.rl];split
   ·exact⟨_,l,rfl,Nat.le_refl _⟩
   ·exact⟨_,l,rfl,Nat.le_refl _⟩
 have S:AX (dom ob) w E w ⟨fun b=>(E.g b).rl (E.bl i) (E.bl r) (lo*k) ((lo+m)*k) (n*k),E.bl,E.hv⟩:=⟨Y,fun _ _=>rfl,fun _ _=>rfl⟩;have mB:dom ob i:=by unfold dom;rw[hi];rfl
 have nB:dom ob r:=by unfold dom;rw[hr];rfl
 have hD:∀j,dom ob j->dom (put (put ob i (.row k N (ntR F lo m))) r (.row k M (fun p q=>if p<n then G p q else F (lo+(p - n)) q))) j:=fun j t=>BT (BT t)
 obtain⟨ai,U,aB,nA,h⟩:=ho i _ hi;have jA:0<m->E.g (E.bl i) = .ow (.nm i) 0:=fun A=>(h (by omega)).2.1
 have H:∀{j:Nat},0<m->E.g (E.bl j) = .ow (.nm j) 0->j≠i->E.bl j≠E.bl i:=fun A t lA e=>by
  rw[e,jA A]at t;cases t;exact lA rfl
 have C:∀{B c:Nat} {T:Tr} {u:Value},¬(0<m/\B=E.bl i/\lo*k<=c/\c<(lo+m)*k)->CM w E.g B c T u->CM w (fun b=>(E.g b).rl (E.bl i) (E.bl r) (lo*k) ((lo+m)*k) (n*k)) B c T u:=fun {B c T u} hn=>by
  cases T with
  | v x=>exact id
  | s fl k2 n2 f2=>
   cases fl with
   | b=>exact id
   | z=>exact id
   | o=>
    rintro⟨a,cp,rfl,hc⟩;refine⟨a,cp,rfl,fun A=>?_⟩;obtain⟨b,y,f,O⟩:=hc A;refine⟨b,y,?_,O⟩;show(E.g b).rl _ _ _ _ _=_;rw[f];simp only[Bs.rl];rw[if_neg];rintro⟨J,D,V⟩;refine hn ⟨?_,J,D,V⟩;rcases Nat.eq_zero_or_pos m with e | e
    ·rw[e,Nat.add_zero]at V;omega
    ·exact e
 refine⟨⟨fun b=>(E.g b).rl (E.bl i) (E.bl r) (lo*k) ((lo+m)*k) (n*k),E.bl,E.hv⟩,rfl,rfl,S,fun j o t=>?_⟩;rw[BD,BD]at t;by_cases e:r=j
 ·subst e;rw[if_pos rfl]at t;cases t;obtain⟨a,cap,hv,hn,bA⟩:=ho r _ hr;refine⟨a,cap,hv,hn,fun A=>?_⟩;obtain⟨ha,hg,cs,T,hh,hl,L⟩:=bA A;refine⟨ha,Bs.rl_nm hg,cs,T,hh,hl,fun p q hp R=>?_⟩;obtain⟨u,hu,hs,ht⟩:=L p q hp R;refine⟨u,hu,?_⟩;by_cases aA:p<n
  ·simp only[if_pos aA];refine⟨hs.kp Y,C (fun S=>?_) ht⟩;exact H S.1 hg (fun e=>mA e.symm) S.2.1
  ·simp only[if_neg aA];obtain⟨u',J,D⟩:=hG (p - n) q (by omega) R;rw[show n+(p - n)=p by omega]at J;rw[J]at hs;obtain⟨rfl,-⟩:=hs;obtain⟨W,I,ci,Ti,P,Z,d⟩:=h (by omega);obtain⟨v,vA,rA,tA⟩:=d (lo+(p - n)) q (by omega) R;rw[cell_of_row w _ _ _ Ti _ P]at D;simp only[List.getElem?_toArray]at D;rw[vA]at D;cases D;refine⟨rA.kp Y,?_⟩;revert tA;cases F (lo+(p - n)) q with
   | v x=>exact id
   | s fl k2 n2 f2=>
    cases fl with
    | b=>exact id
    | z=>exact id
    | o=>
     rintro⟨a,cp,rfl,hc⟩;refine⟨a,cp,rfl,fun A=>?_⟩;obtain⟨b,y,f,O⟩:=hc A;refine⟨b,y,?_,O⟩;show(E.g b).rl _ _ _ _ _=_;rw[f];have e1:(lo+(p - n))*k=lo*k+(p - n)*k:=Nat.add_mul _ _ _;have e2:=Fb (show lo+(p - n)<lo+m by omega) R;have e3:p*k=n*k+(p - n)*k:=(by rw[<-Nat.add_mul];congr 1;omega);simp only[Bs.rl];rw[if_pos ⟨by first | trivial | rfl,by omega,e2⟩];congr 2;omega
 ·rw[if_neg e]at t;by_cases e':i=j
  ·rw[if_pos e']at t;cases t;subst e';refine⟨ai,U,aB,nA,fun A=>?_⟩;obtain⟨W,I,ci,Ti,P,Z,d⟩:=h A;refine⟨W,Bs.rl_nm I,ci,Ti,P,Z,fun p q hp R=>?_⟩;obtain⟨u,hu,hs,ht⟩:=d p q hp R;by_cases Q:lo<=p/\p<lo+m
   ·rw[show ntR F lo m p q=(F p q).nt by unfold ntR;rw[if_pos Q]];exact⟨u,hu,hs.nt.kp Y,Tr.nt_tail⟩
   ·rw[show ntR F lo m p q=F p q by unfold ntR;rw[if_neg Q]];refine⟨u,hu,hs.kp Y,C (fun S=>Q ?_) ht⟩;obtain⟨J,-,D,V⟩:=S;constructor
    ·rcases Nat.lt_or_ge p lo with K | K
     ·have:=Fb K R;omega
     ·exact K
    ·rcases Nat.lt_or_ge p (lo+m)with K | K
     ·exact K
     ·have:=Nat.mul_le_mul_right k K;omega
  ·rw[if_neg e']at t;have hd:dom ob j:=(by unfold dom;rw[t];rfl);refine ObR.ext S hD hd (X:=fun b=>(E.g b).rl (E.bl i) (E.bl r) (lo*k) ((lo+m)*k) (n*k)≠E.g b) (fun b _ y=>⟨rfl,Classical.not_not.1 y⟩) (fun b l y f=>y (by rw[f];rfl)) (fun kA b j' l y f=>?_) (ho j o t);apply y;rw[f];simp only[Bs.rl];rw[if_neg];rintro⟨J,D,V⟩;have A:0<m:=by
    rcases Nat.eq_zero_or_pos m with e | e
    ·rw[e,Nat.add_zero]at V;omega
    ·exact e
   exact H A kA (fun e=>e' e.symm) J
theorem zC7(h:BA P t d)(he:d.el≠0)(h':BA P d.el de)(ho:AU w E ob){y:Cv}(b:evAppendM de ob r x y=some (c,ob'))(hc:c){u v:Value}(hu:CvR w E (dom ob) x u)(hv:CvR w E (dom ob) y v)(ty:Nat) :
 ∃z w' S,(Builtin.append_ #[t,t] ty #[u,v]).run P w = .ok z w'/\AX (dom ob) w E w' S/\(∀j,dom ob j->dom ob' j)/\AU w' S ob'/\AvR w' S (dom ob') (.m false [.h r]) z:=by
 unfold evAppendM at b;split at b
 ·rename_i id n f C i lo m N F hr hd hs
  split at b
  ·rename_i M
   cases b;obtain⟨hC,I⟩:=hc;obtain⟨hi,bA,a',c',rfl,W⟩:=zH8 ho hs hC hv;obtain⟨ai,kA,iB,fB,B⟩:=ho i _ hi;have J:dom ob i:=(by unfold dom;rw[hi];rfl);have K:i≠r:=Ik J hr;obtain⟨U,V⟩:∃U:Nat->Nat->Value,∀p q,p<m->q<de.k->w.cell? ⟨E.bl i,(lo+p)*de.k+q,none⟩=some (U p q)/\(U p q).oneCell'=true:=by
    refine⟨fun p q=>(w.cell? ⟨E.bl i,(lo+p)*de.k+q,none⟩).getD (.bool false),fun p q O H=>?_⟩;obtain⟨X,s,ci,Ti,G,aA,a⟩:=B (by omega);obtain⟨v,gA,fA,-⟩:=a (lo+p) q (by omega) H;have:w.cell? ⟨E.bl i,(lo+p)*de.k+q,none⟩=some v:=by
     rw[cell_of_row w _ _ _ Ti _ G];simpa using gA
    simp only[this,Option.getD_some];exact⟨trivial,fA.one⟩
   obtain⟨z,w',E1,g1,Q,T,g4,g5,g6⟩:=Ye h he h' ho hr hd I (f':=fun p q=>.v (U p q)) (v:=.slice a' m c') hu (fun _ _ _ _ _=>trivial) ⟨a',c',rfl,fun h0=>⟨_,_,W h0,fun p q O H=>⟨U p q,by rw[<-Nat.add_assoc,<-Nat.add_mul];exact(V p q O H).1,rfl,(V p q O H).2⟩⟩⟩ ty;have Z:get (DQ ob id) i=some (.row de.k N F):=by
    cases id with
    | none=>exact hi
    | some q=>show get (put ob q .dead) i=_;rw[BD,if_neg (fun e=>M (by rw[e]))];exact hi
   have Y:get (put (DQ ob id) r (.row de.k (n+m) (Ai f n fun p q=>.v (U p q)))) i=some (.row de.k N F):=by
    rw[BD,if_neg (fun e=>K e.symm)];exact Z
   obtain⟨E2,e1,e2,R,k2⟩:=zIu g4 Y (by rw[BD,if_pos rfl]) K bA rfl (fun p q O H=>by
    refine⟨U p q,by unfold Ai;rw[if_neg (by omega),Nat.add_sub_cancel_left],?_⟩;obtain⟨X,s,ci,Ti,G,aA,a⟩:=B (by omega);have cA:=(Array.getElem?_eq_some_iff.1 G).1;obtain⟨h1,-⟩:=g6 (E.bl i) cA (fun q' eA=>⟨fun l L=>by rw[s]at L;cases L;exact M eA,fun j l L=>by rw[s]at L;cases L⟩);rw[Q.bl i J,<-(V p q O H).1];exact World.cell?_of_block (w:=w) h1)
   have g:∀j,get (put (put (put (DQ ob id) r (.row de.k (n+m) (Ai f n fun p q=>.v (U p q)))) i (.row de.k N (ntR F lo m))) r (.row de.k (n+m) (fun p q=>if p<n then Ai f n (fun p q=>.v (U p q)) p q else F (lo+(p - n)) q))) j=get (put (put (DQ ob id) i (.row de.k N (ntR F lo m))) r (.row de.k (n+m) (Ai f n fun p q=>F (lo+p) q))) j:=fun j=>by
    have ef:(fun p q=>if p<n then Ai f n (fun p q=>.v (U p q)) p q else F (lo+(p - n)) q)=Ai f n fun p q=>F (lo+p) q:=by
     funext p q;unfold Ai;split<;>rfl
    rw[ef];simp only[BD];by_cases e:r=j
    ·simp[e]
    ·simp[e]
   have D:dom (put (put (put (DQ ob id) r (.row de.k (n+m) (Ai f n fun p q=>.v (U p q)))) i (.row de.k N (ntR F lo m))) r (.row de.k (n+m) (fun p q=>if p<n then Ai f n (fun p q=>.v (U p q)) p q else F (lo+(p - n)) q)))=dom (put (put (DQ ob id) i (.row de.k N (ntR F lo m))) r (.row de.k (n+m) (Ai f n fun p q=>F (lo+p) q))):=by
    funext j;unfold dom;rw[g]
   refine⟨z,w',E2,g1,⟨Q.kp.trans R.kp,fun j A=>(R.bl j (T j A)).trans (Q.bl j A),fun j A=>(R.hv j (T j A)).trans (Q.hv j A)⟩,fun j A=>?_,fun j o A=>?_,?_⟩
   ·rw[<-D];exact BT (BT (T j A))
   ·rw[<-D];exact k2 j o (by rw[g];exact A)
   ·rw[<-D];exact g5.ext R (fun j A=>BT (BT A))
  ·cases b
 ·cases b
def Do(P:Program)(f:Nat):Prop:=∀(args:Array Value) (w:World),(callFunc f args).run P w = .ok (.enter f args) w
structure Bi (P:Program) (Γ : List (Nat×AL)) (w:World):Prop where
 a:∀f sp,f<1000000->get Γ f=some sp->Fg P f sp w/\Do P f
 k:∀f sp,f<1000000->get Γ (f+1000000)=some sp->Fg P f sp w/\Do P f
 p:∀f sp,f<1000000->get Γ (f+2000000)=some sp->KW P f sp w/\Do P f
 pk:∀f sp,f<1000000->get Γ (f+3000000)=some sp->KW P f sp w/\Do P f
 n:∀f sp,f<1000000->get Γ (f+4000000)=some sp->O2 P f sp w/\Do P f
 o:∀f sp,f<1000000->get Γ (f+5000000)=some sp->O3 P f sp w/\Do P f
def GOk(P:Program)(Γ : List (Nat×AL)):Prop:=∀w,Bi P Γ w
theorem Bi.nil:Bi P [] w:=⟨fun _ _ _ h=>(by cases h),fun _ _ _ h=>(by cases h),fun _ _ _ h=>(by cases h),fun _ _ _ h=>(by cases h),fun _ _ _ h=>(by cases h),fun _ _ _ h=>(by cases h)⟩
theorem KY{α : Type}{Γ : List (Nat×α)}{g:Nat}{x y:α}(h:get ((k,x) :: Γ) g=some y):(k=g/\x=y)\/get Γ g=some y:=by
 simp only[get]at h;split at h
 · rename_i e;cases h;exact .inl ⟨e,rfl⟩
 · exact .inr h
section
variable {P : Program} {w : World} {Γ : List (Nat × AL)} {f : Nat} {sp : AL}
theorem Bi.putA(m:f<1000000)(h:Fg P f sp w)(l:Do P f)(i:Bi P Γ w):Bi P ((f,sp) :: Γ) w:=by
 refine⟨fun g s c d=>?_,fun g s c d=>?_,fun g s c d=>?_,fun g s c d=>?_,fun g s c d=>?_,fun g s c d=>?_⟩<;>rcases KY d with⟨e,j⟩ | b
 all_goals first
  | omega
  | (obtain rfl:f=g:=by omega
     subst j;exact⟨h,l⟩)
  | exact i.a g s c b
  | exact i.k g s c b
  | exact i.p g s c b
  | exact i.pk g s c b
  | exact i.n g s c b
  | exact i.o g s c b
theorem Bi.putK(m:f<1000000)(h:Fg P f sp w)(l:Do P f)(i:Bi P Γ w):Bi P ((f+1000000,sp) :: Γ) w:=by
 refine⟨fun g s c d=>?_,fun g s c d=>?_,fun g s c d=>?_,fun g s c d=>?_,fun g s c d=>?_,fun g s c d=>?_⟩<;>rcases KY d with⟨e,j⟩ | b
 all_goals first
  | omega
  | (obtain rfl:f=g:=by omega
     subst j;exact⟨h,l⟩)
  | exact i.a g s c b
  | exact i.k g s c b
  | exact i.p g s c b
  | exact i.pk g s c b
  | exact i.n g s c b
  | exact i.o g s c b
theorem Bi.putP(m:f<1000000)(h:KW P f sp w)(l:Do P f)(i:Bi P Γ w):Bi P ((f+2000000,sp) :: Γ) w:=by
 refine⟨fun g s c d=>?_,fun g s c d=>?_,fun g s c d=>?_,fun g s c d=>?_,fun g s c d=>?_,fun g s c d=>?_⟩<;>rcases KY d with⟨e,j⟩ | b
 all_goals first
  | omega
  | (obtain rfl:f=g:=by omega
     subst j;exact⟨h,l⟩)
  | exact i.a g s c b
  | exact i.k g s c b
  | exact i.p g s c b
  | exact i.pk g s c b
  | exact i.n g s c b
  | exact i.o g s c b
theorem Bi.putQ(m:f<1000000)(h:KW P f sp w)(l:Do P f)(i:Bi P Γ w):Bi P ((f+3000000,sp) :: Γ) w:=by
 refine⟨fun g s c d=>?_,fun g s c d=>?_,fun g s c d=>?_,fun g s c d=>?_,fun g s c d=>?_,fun g s c d=>?_⟩<;>rcases KY d with⟨e,j⟩ | b
 all_goals first
  | omega
  | (obtain rfl:f=g:=by omega
     subst j;exact⟨h,l⟩)
  | exact i.a g s c b
  | exact i.k g s c b
  | exact i.p g s c b
  | exact i.pk g s c b
  | exact i.n g s c b
  | exact i.o g s c b
theorem Bi.putN(m:f<1000000)(h:O2 P f sp w)(l:Do P f)(i:Bi P Γ w):Bi P ((f+4000000,sp) :: Γ) w:=by
 refine⟨fun g s c d=>?_,fun g s c d=>?_,fun g s c d=>?_,fun g s c d=>?_,fun g s c d=>?_,fun g s c d=>?_⟩<;>rcases KY d with⟨e,j⟩ | b
 all_goals first
  | omega
  | (obtain rfl:f=g:=by omega
     subst j;exact⟨h,l⟩)
  | exact i.a g s c b
  | exact i.k g s c b
  | exact i.p g s c b
  | exact i.pk g s c b
  | exact i.n g s c b
  | exact i.o g s c b
theorem Bi.putO(m:f<1000000)(h:O3 P f sp w)(l:Do P f)(i:Bi P Γ w):Bi P ((f+5000000,sp) :: Γ) w:=by
 refine⟨fun g s c d=>?_,fun g s c d=>?_,fun g s c d=>?_,fun g s c d=>?_,fun g s c d=>?_,fun g s c d=>?_⟩<;>rcases KY d with⟨e,j⟩ | b
 all_goals first
  | omega
  | (obtain rfl:f=g:=by omega
     subst j;exact⟨h,l⟩)
  | exact i.a g s c b
  | exact i.k g s c b
  | exact i.p g s c b
  | exact i.pk g s c b
  | exact i.n g s c b
  | exact i.o g s c b
theorem GOk.nil:GOk P []:=fun _=>Bi.nil
theorem GOk.cons(h:An P f sp)(a:Do P f)(c:GOk P Γ)(b:f<1000000:=by decide):GOk P ((f,sp) :: Γ):=fun w=>Bi.putA b (h w) a (c w)
theorem GOk.ptr(h:DK P f sp)(a:Do P f)(c:GOk P Γ)(b:f<1000000:=by decide):GOk P ((f+2000000,sp) :: Γ):=fun w=>Bi.putP b (h w) a (c w)
theorem GOk.ptrK(h:DK P f sp)(a:Do P f)(c:GOk P Γ)(b:f<1000000:=by decide):GOk P ((f+3000000,sp) :: Γ):=fun w=>Bi.putQ b (h w) a (c w)
theorem GOk.own(h:NJ P f sp)(a:Do P f)(c:GOk P Γ)(b:f<1000000:=by decide):GOk P ((f+5000000,sp) :: Γ):=fun w=>Bi.putO b (h w) a (c w)
theorem GOk.new(h:NI P f sp)(a:Do P f)(c:GOk P Γ)(b:f<1000000:=by decide):GOk P ((f+4000000,sp) :: Γ):=fun w=>Bi.putN b (h w) a (c w)
end
def partsOf:List (Nat×Operand)->List Av->Option (List (Nat×List Cv))
 | [],[]=>some []
 | (i,_) :: r,.m _ c :: s=>match partsOf r s with
   | some q=>some ((i,c) :: q)
   | none=>none
 | _,_=>none
def shp:Option Ob->Option (Nat×Nat)
 | some (.row k n _)=>some (k,n)
 | _=>none
def evSlice(ob:List (Nat×Ob))(k:Nat)(lo hi:Option Operand):List Av->Option (Prop×Cv)
 | [.m false [.s fl k' n f],.m false [.v (.int _ x)]]=>if k'=k then match lo,hi with
   | none,some _=>some (0<=x/\x<=n,.s fl k x.toNat f)
   | some _,none=>some (0<=x/\x<=n,.s fl k (n - x.toNat) fun p q=>f (x.toNat+p) q)
   | _,_=>none
   else none
 | [.m false [.h i],.m false [.v (.int _ x)]]=>match shp (get ob i)with
   | some (k',n)=>if k'=k then match lo,hi with
     | none,some _=>some (0<=x/\x<=n,.hs i k 0 x.toNat)
     | some _,none=>some (0<=x/\x<=n,.hs i k x.toNat (n - x.toNat))
     | _,_=>none
     else none
   | none=>none
 | _=>none
def evLd(T:Tb)(t:Nat)(d:TyD)(ob:List (Nat×Ob))(dst:Option Nat)(x:Cv):Option Dl:=
 match (if t=T.tk/\d.k=1/\d.g=false then dst else none).bind fun i=>evTake ob (rid i 0) x with
 | some q=>some ⟨q.1,dst.map fun i=>.m false [.h (rid i 0)],q.2,true⟩
 | none=>match evLoad d ob x with
   | some q=>some ⟨q.1,some q.2,ob,false⟩
   | none=>none
def evSt(d:TyD)(ob:List (Nat×Ob))(c:List Cv)(x:Cv):Option (Prop×List (Nat×Ob)):=
 match c,x with
 | [.h r],.e i k a j=>evStoreH d ob r (.e i k a j)
 | _,.e i k a j=>evStore d (frz c ob).2 (frz c ob).1 (.e i k a j)
 | _,_=>evStore d ob c x
def JK(T:Tb)(t:Nat)(de:TyD)(ob:List (Nat×Ob))(r:Nat)(x y:Cv):Option (Prop×List (Nat×Ob)):=
 match if t=T.mv then evAppendM de ob r x y else none with
 | some q=>some q
 | none=>match evAppendT de ob r x y with
   | some q=>some q
   | none=>evAppend de ob r x y
def evField(d:TyD)(f:Nat)(c:List Cv):Option Av:=
 match d.fs[f]? with
 | some q=>if q.1+q.2<=c.length then some (.m (q.2 != 1) ((c.drop q.1).take q.2))else none
 | none=>none
def yR:Tr->Int
 | .v (.int _ x)=>x
 | _=>0
def Me(n:Nat)(f:Nat->Nat->Tr):ByteArray:=strOfNums ((List.range n).map fun p=>yR (f p 0))
def evConv(T:Tb)(src dst:Nat)(ob:List (Nat×Ob)):Cv->Option (Prop×Value)
 | .v (.int _ x)=>match T.ik src,T.ik dst with
   | some _,some k=>some (True,.int k (k.wrap x))
   | _,_=>none
 | .h i=>match rowE ob i with
   | some (k,n,f)=>if src=T.by'/\dst=T.sx/\k=1 then some (∀p,p<n->∃x,f p 0 = .v (.int .u8 x),.string (Me n f))else none
   | none=>none
 | _=>none
def evC(Γ : List (Nat×AL))(f i:Nat)(ob:List (Nat×Ob))(r:List Av):Option Dl:=
 if f<1000000 then match get Γ f with
  | some sp=>evCall false sp i ob r
  | none=>match get Γ (f+1000000)with
    | some sp=>evCall true sp i ob r
    | none=>match get Γ (f+4000000)with
      | some sp=>evCallN sp i ob r
      | none=>match get Γ (f+5000000)with
       | some sp=>evCallO sp i ob r
       | none=>match r with
        | .m false [.p j 0] :: r'=>match get Γ (f+2000000)with
          | some sp=>evCallP false sp i j ob r'
          | none=>match get Γ (f+3000000)with
            | some sp=>evCallP true sp i j ob r'
            | none=>none
        | _=>none
 else none
def coreU(T:Tb)(Γ : List (Nat×AL))(dst:Option Nat)(ob:List (Nat×Ob))(op:Op)(l:List Av):Option Dl:=
 match op with
 | .move _=>match l with | [x]=>some ⟨True,some x,ob,false⟩ | _=>none
 | .assign _=>match l with | [x]=>some ⟨True,some x,ob,false⟩ | _=>none
 | .nilCheck _=>match l with | [.m false [.p i o]]=>some ⟨True,some (.m false [.p i o]),ob,false⟩ | _=>none
 | .unOp .not _ _=>match l with | [.m false [.v (.bool b)]]=>some ⟨True,some (.m false [.v (.bool !b)]),ob,false⟩ | _=>none
 | .binOp o t _ _ _=>match l with
   | [x,y]=>match bin T o t x y with
     | some q=>some ⟨q.1,some (.m false [.v q.2]),ob,false⟩
     | none=>none
   | _=>none
 | .alloc t=>match l,T.ty t,dst with
   | [],some d,some i=>match evAlloc d ob i with
     | some ob'=>some ⟨True,some (.m false [.p i 0]),ob',true⟩
     | none=>none
   | _,_,_=>none
 | .box t _=>match l,dst with
   | [.m _ c],some i=>match KB ob i c with
     | some ob'=>some ⟨True,some (.m false [.p i 0]),ob',true⟩
     | none=>none
   | _,_=>none
 | .load t _=>match l,T.ty t with
   | [.m false [x]],some d=>evLd T t d ob dst x
   | _,_=>none
 | .store t _ _=>match l,T.ty t,dst with
   | [.m false [x],.m _ c],some d,none=>match evSt d ob c x with
     | some q=>some ⟨q.1,none,q.2,true⟩
     | none=>none
   | _,_,_=>none
 | .fieldAddr t _ f=>match l,T.ty t with
   | [.m false [x]],some d=>match d.fs[f]?,x with
     | some q,.p i o=>some ⟨True,some (.m false [.p i (o+q.1)]),ob,false⟩
     | some q,.e i k a j=>some ⟨True,some (.m false [.e i k a (j+q.1)]),ob,false⟩
     | some q,.q fl k n g a j=>some ⟨True,some (.m false [.q fl k n g a (j+q.1)]),ob,false⟩
     | _,_=>none
   | _,_=>none
 | .indexAddr t _ _=>match l,T.ty t with
   | [.m false [x],.m false [.v (.int _ ix)]],some d=>match T.ty d.el,x with
     | some de,.s fl k n g=>if k=de.k/\d.el≠0 then some ⟨0<=ix/\ix<n,some (.m false [.q fl k n g ix.toNat 0]),ob,false⟩else none
     | some de,.h i=>match get ob i with
       | some (.row k n g)=>if k=de.k/\d.el≠0 then some ⟨0<=ix/\ix<n,some (.m false [.e i k ix.toNat 0]),ob,false⟩else none
       | _=>none
     | _,_=>none
   | _,_=>none
 | .index t _ _=>match l with
   | [.m false [.v (.string s)],.m false [.v (.int _ ix)]]=>if t=T.sx then some ⟨0<=ix/\ix<s.size,some (.m false [.v (.int .u8 ((s[ix.toNat]?).getD 0).toNat)]),ob,false⟩else none
   | _=>none
 | .extract _ ix=>match l with
   | [.t q]=>match q[ix]? with
     | some r=>some ⟨True,some (.m r.1 r.2),ob,false⟩
     | none=>none
   | _=>none
 | .build t ps=>match T.ty t,partsOf ps.toList l with
   | some d,some q=>match fillC (fun f=>d.fs[f]?) (d.z.map .v) q with
     | some c=>if d.fs.isEmpty then none else some ⟨True,some (.m true c),ob,false⟩
     | none=>none
   | _,_=>none
 | .buildSlice t n ps=>match T.ty t,partsOf ps.toList l,dst with
   | some d,some q,some i=>match T.ty d.el with
     | some de=>match MF de ob (rid i 0) n q with
       | some ob'=>if d.el=0 then none else some ⟨True,some (.m false [.h (rid i 0)]),ob',true⟩
       | none=>none
     | none=>none
   | _,_,_=>none
 | .slice t _ lo hi none=>match T.ty t with
   | some d=>match T.ty d.el with
     | some de=>match evSlice ob de.k lo hi l with
       | some q=>if d.el=0 then none else some ⟨q.1,some (.m false [q.2]),ob,false⟩
       | none=>none
     | none=>none
   | none=>none
 | .makeSlice t _ _=>match l,T.ty t,dst with
   | [.m false [.v (.int _ x)],.m false [.v (.int _ y)]],some d,some i=>match T.ty d.el with
     | some de=>match evMakeSlice de ob (rid i 0) x with
       | some ob'=>if d.el=0 then none else some ⟨y=x/\0<=x/\x<=1000000,some (.m false [.h (rid i 0)]),ob',true⟩
       | none=>none
     | none=>none
   | _,_,_=>none
 | .call ⟨.builtin .len,_,tys⟩=>match l with
   | [.m false [.v (.string s)]]=>if tys.toList = [T.sx] then some ⟨True,some (.m false [.v (.int .i64 s.size)]),ob,false⟩else none
   | [.m false [x]]=>match tys.toList with
     | [t]=>match T.ty t,evLen ob x with
       | some d,some n=>if d.el=0 then none else some ⟨True,some (.m false [.v (.int .i64 n)]),ob,false⟩
       | _,_=>none
     | _=>none
   | _=>none
 | .call ⟨.builtin .append,_,tys⟩=>match l,tys.toList,dst with
   | [.m false [x],.m false [y]],[t,t'],some i=>match T.ty t with
     | some d=>match T.ty d.el with
       | some de=>match JK T t de ob (rid i 0) x y with
         | some q=>if t'=t/\d.el≠0 then some ⟨q.1,some (.m false [.h (rid i 0)]),q.2,true⟩else none
         | none=>none
       | none=>none
     | none=>none
   | _,_,_=>none
 | .call ⟨.value (.func f),args,_⟩=>match l,dst with
   | _ :: r,some i=>evC Γ f i ob r
   | _,_=>none
 | .field t _ f=>match l,T.ty t with
   | [.m true c],some d=>match evField d f c with
     | some av=>some ⟨True,some av,ob,false⟩
     | none=>none
   | _,_=>none
 | .convert src t _=>match l with
   | [.m false [x]]=>match evConv T src t ob x with
     | some q=>some ⟨q.1,some (.m false [.v q.2]),ob,false⟩
     | none=>none
   | _=>none
 | _=>none
def BB(T:Tb)(Γ : List (Nat×AL))(dst:Option Nat)(ob:List (Nat×Ob))(op:Op)(l:List Av):Option Dl:=coreU T Γ dst ob op l
def Rs(E:En)(w:World)(ob:List (Nat×Ob))(o:Oper)(a:Act)(D:Dl):Act->World->Prop:=fun a' w'=>
 ∃y E',a'=a.put o.dst y/\AX (dom ob) w E w' E'/\(∀j,dom ob j->dom D.ob j)/\AU w' E' D.ob/\∀av,D.av=some av->AvR w' E' (dom D.ob) av y
section
variable {P : Program} {a : Act} {w : World} {o : Oper} {K : Act -> World -> Prop} {Q : Exit -> Act -> World -> Prop}
theorem Cu{s:Sem Value}{z:Value}{w':World}(h:execOp a.eval o=(do pure (.value (<-s))))(b:s.run P w = .ok z w')(hK:K (a.put o.dst z) w'):o.wp P a w K Q:=by
 unfold Oper.wp;rw[h];simp only[Sem.run_bind,b,Result.andThen_ok];exact hK
theorem PV{s:Sem Unit}{w':World}(h:execOp a.eval o=(do s;pure .skip))(b:s.run P w = .ok () w')(hK:K (a.put o.dst undef) w'):o.wp P a w K Q:=by
 unfold Oper.wp;rw[h];simp only[Sem.run_bind,b,Result.andThen_ok];exact hK
end
variable{α β:Type}
theorem V7{R:α->β->Prop}{l:List β}(h:AR R [] l):l = []:=by cases h;rfl
theorem Fi{R:α->β->Prop}{x:α}{l:List β}(h:AR R [x] l):∃y,l = [y]/\R x y:=by
 cases h with
 | cons h t=>cases t;exact⟨_,rfl,h⟩
theorem G6{R:α->β->Prop}{x x':α}{l:List β}(h:AR R [x,x'] l):∃y a,l = [y,a]/\R x y/\R x' a:=by
 cases h with
 | cons h t=>
   obtain⟨a,rfl,b⟩:=Fi t;exact⟨_,a,rfl,h,b⟩
theorem RS{w:World}{E:En}{D:Nat->Prop}{a:Act}:∀{ps:List (Nat×Operand)} {l:List Av} {q:List (Nat×List Cv)},partsOf ps l=some q->AR (fun x b=>AvR w E D b (a.eval x)) (ps.map (·.2)) l->
 AR (fun (p:Nat×List Cv) (v:Nat×Value)=>p.1=v.1/\CsR w E D p.2 v.2.cells.toList) q (ps.map fun p=>(p.1,a.eval p.2))
 | [],l,q,h,hl=>by
   have:=V7 hl;subst this;cases h;exact .nil
 | (i,x) :: r,l,q,h,hl=>by
   cases hl with
   | @cons _ b _ l' h1 t=>
     cases b with
     | m g c=>
       simp only[partsOf]at h;split at h
       · rename_i d hq'
         cases h;exact .cons ⟨rfl,VlR.cells h1⟩ (RS hq' t)
       · cases h
     | t l=>cases h
variable{a:Act}
theorem Same.after{o:Oper}{x:Av}{z:Value}(b:AU w E ob)(h:AvR w E (dom ob) x z):Rs E w ob o a ⟨c,some x,ob,false⟩ (a.put o.dst z) w:=
 ⟨z,E,rfl,AX.refl _ _ _,fun _ h=>h,b,fun d e=>by cases e;exact h⟩
theorem av1{D:Nat->Prop}{y:Value}(h:CvR w E D x y):AvR w E D (.m false [x]) y:=⟨x,rfl,h⟩
theorem Bs.ok_le{s:Bs}{fl:Fl}{e e':Nat}(h:s.ok fl e)(a:e'<=e):s.ok fl e':=by
 cases s with
 | fz r=>exact h.imp_right fun h l e=>Nat.le_trans a (h l e)
 | ow o lim=>exact Nat.le_trans a h
theorem Addr.add_zero(a:Addr):a.add 0=a:=rfl
variable{l:List Av}
theorem zAX(h:BA P t d)(r:d.el≠0)(G:BA P d.el de)(T:AU w E ob){x:Operand}{lo hi:Option Operand}{q:Prop×Cv}(g:evSlice ob de.k lo hi l=some q)(H:q.1)(s:AR (fun x V=>AvR w E (dom ob) V (a.eval x)) (x :: (lo.toList ++ hi.toList)) l) :
 ∃z,(Instr.sliceAt t (a.eval x) (lo.map a.eval) (hi.map a.eval) none).run P w = .ok z w/\CvR w E (dom ob) q.2 z:=by
 unfold evSlice at g;split at g
 ·rename_i fl U n f K ix
  split at g
  ·rename_i O
   subst O;split at g
   ·rename_i y
    cases g;simp only[Option.toList_none,Option.toList_some,List.nil_append]at s;obtain⟨R,S,e,A,B⟩:=G6 s;cases e;obtain⟨p,c,v,hn,m⟩:=vl1 A;have ei:=(vl1 B).1;obtain⟨c0,c1⟩:=H;refine⟨.slice p ix.toNat c,?_,p,c,rfl,by omega,fun J=>?_⟩
    ·rw[v];unfold Instr.sliceAt;rw[Sem.run_bind,run_underlying (h.slice r)];have Q:ix<=(c:Int):=(by omega);cases p<;>simp[Instr.slice,run_underlying (h.slice r),ei,Instr.sliceBounds,Instr.sliceBound,asIntOf,c0,Q,G.run_size,Addr.add_zero]
    ·obtain⟨b,o,I,L,D,C⟩:=m (by omega);exact⟨b,o,I,L,Bs.ok_le D (Nat.add_le_add_left (Nat.mul_le_mul_right _ (by omega)) _),fun i j hi N=>C i j (by omega) N⟩
   ·rename_i y
    cases g;simp only[Option.toList_none,Option.toList_some,List.append_nil]at s;obtain⟨R,S,e,A,B⟩:=G6 s;cases e;obtain⟨p,c,v,hn,m⟩:=vl1 A;have ei:=(vl1 B).1;obtain⟨c0,c1⟩:=H;refine⟨.slice (if c=ix.toNat then p else p.map (·.add (ix.toNat*de.k))) (n - ix.toNat) (c - ix.toNat),?_,_,_,rfl,by omega,fun J=>?_⟩
    ·rw[v];unfold Instr.sliceAt;rw[Sem.run_bind,run_underlying (h.slice r)];simp[Instr.slice,run_underlying (h.slice r),ei,Instr.sliceBounds,Instr.sliceBound,asIntOf,c0,c1,G.run_size]
    ·obtain⟨b,o,I,L,D,C⟩:=m (by omega);refine⟨b,o+ix.toNat*de.k,?_,L,Bs.ok_le D ?_,fun i j hi N=>?_⟩
     ·rw[if_neg (by omega),I];simp[Gc]
     ·rw[Nat.add_assoc,<-Nat.add_mul];exact Nat.add_le_add_left (Nat.mul_le_mul_right _ (by omega)) _
     ·obtain⟨u,W,hs⟩:=C (ix.toNat+i) j (by omega) N;refine⟨u,?_,hs⟩;rw[<-W,Nat.add_mul];congr 2;omega
   ·cases g
  ·cases g
 ·rename_i i K ix
  split at g
  ·rename_i U n hsh
   have hi':∃f,get ob i=some (.row U n f):=by
    unfold shp at hsh;split at hsh
    ·rename_i X n2 f2 hg
     cases hsh;exact⟨f2,hg⟩
    ·cases hsh
   obtain⟨f,hi'⟩:=hi';split at g
   ·rename_i O
    subst O;split at g
    ·rename_i y
     cases g;simp only[Option.toList_none,Option.toList_some,List.nil_append]at s;obtain⟨R,S,e,A,B⟩:=G6 s;cases e;obtain⟨M,F,-⟩:=vl1 A;obtain⟨p,c,v,hn,m⟩:=T _ _ hi';have ei:=(vl1 B).1;obtain⟨c0,c1⟩:=H;refine⟨.slice p ix.toNat c,?_,M,p,c,rfl,fun J=>by rw[(m (by omega)).1,Nat.zero_mul]⟩;rw[F,v];unfold Instr.sliceAt;rw[Sem.run_bind,run_underlying (h.slice r)];have Q:ix<=(c:Int):=(by omega);cases p<;>simp[Instr.slice,run_underlying (h.slice r),ei,Instr.sliceBounds,Instr.sliceBound,asIntOf,c0,Q,G.run_size,Addr.add_zero]
    ·rename_i y
     cases g;simp only[Option.toList_none,Option.toList_some,List.append_nil]at s;obtain⟨R,S,e,A,B⟩:=G6 s;cases e;obtain⟨M,F,-⟩:=vl1 A;obtain⟨p,c,v,hn,m⟩:=T _ _ hi';have ei:=(vl1 B).1;obtain⟨c0,c1⟩:=H;refine⟨.slice (if c=ix.toNat then p else p.map (·.add (ix.toNat*de.k))) (n - ix.toNat) (c - ix.toNat),?_,M,_,_,rfl,fun J=>?_⟩
     ·rw[F,v];unfold Instr.sliceAt;rw[Sem.run_bind,run_underlying (h.slice r)];simp[Instr.slice,run_underlying (h.slice r),ei,Instr.sliceBounds,Instr.sliceBound,asIntOf,c0,c1,G.run_size]
     ·rw[if_neg (by omega),(m (by omega)).1];simp[Gc]
    ·cases g
   ·cases g
  ·cases g
 ·cases g
variable{Γ:List (Nat×AL)}{r:List Av}
theorem zHj(hΓ : Bi P Γ w){f:Nat}(s:AU w E ob){D:Dl}(b:evC Γ f i ob r=some D)(m:D.c){ys:List Value}(g:AR (AvR w E (dom ob)) r ys) :
 Do P f/\Calls P f ys.toArray w (fun e w'=>∃v t,e = .returned v/\AX (dom ob) w E w' t/\(∀j,dom ob j->dom D.ob j)/\AU w' t D.ob/\∃u,D.av=some u/\AvR w' t (dom D.ob) u v):=by
 unfold evC at b;split at b
 ·rename_i q
  split at b
  ·rename_i sp hsp
   obtain⟨hs,l⟩:=hΓ.a _ _ q hsp;exact⟨l,XP hs (d:=i) s b m g⟩
  ·split at b
   ·rename_i sp hsp
    obtain⟨hs,l⟩:=hΓ.k _ _ q hsp;exact⟨l,XP hs (d:=i) s b m g⟩
   ·split at b
    ·rename_i sp hsp
     obtain⟨hs,l⟩:=hΓ.n _ _ q hsp;exact⟨l,zAT hs (d:=i) s b m g⟩
    ·split at b
     ·rename_i sp hsp
      obtain⟨hs,l⟩:=hΓ.o _ _ q hsp;exact⟨l,zAV hs (d:=i) s b m g⟩
     ·split at b
      ·rename_i j r'
       cases g with
       | cons hx hr=>
        split at b
        ·rename_i sp hsp
         obtain⟨hs,l⟩:=hΓ.p _ _ q hsp;exact⟨l,Y3 hs (d:=i) s b m hx hr⟩
        ·split at b
         ·rename_i sp hsp
          obtain⟨hs,l⟩:=hΓ.pk _ _ q hsp;exact⟨l,Y3 hs (d:=i) s b m hx hr⟩
         ·cases b
      ·cases b
 ·cases b
theorem zI7{E':En}{D D':Nat->Prop}{g:Bool}{c:List Cv}{y:Value}(h:VlR w E D g c y)(a:CsR w E' D' (frz c ob).1 y.cells.toList):VlR w E' D' g (frz c ob).1 y:=by
 cases g with
 | true=>obtain⟨cs,rfl,_⟩:=h;exact⟨cs,rfl,by simpa[Value.cells]using a⟩
 | false=>
  obtain⟨x,rfl,d⟩:=h;have b:=d.one;have e:y.cells=#[y]:=by cases y<;>first | rfl | (simp[Value.oneCell']at b)
  rw[e]at a;cases a with
  | cons k1 k2=>exact⟨_,rfl,k1⟩
variable{D:Dl}
theorem zGk{T:Tb}(H:DY P T)(hΓ : Bi P Γ w){o:Oper}{Q:Exit->Act->World->Prop}(I:AU w E ob)
 (V:AR (fun x R=>AvR w E (dom ob) R (a.eval x)) o.op.operands.toList l) (B:BB T Γ o.dst ob o.op l=some D) (S:D.c):o.wp P a w (Rs E w ob o a D) Q:=by
 obtain⟨dst,op,type,pos,cA,guard⟩:=o;cases op with
 | move x=>
  obtain⟨y,rfl,C⟩:=Fi V;cases B;exact Cu (s:=pure (a.eval x)) rfl rfl (Same.after I C)
 | assign x=>
  obtain⟨y,rfl,C⟩:=Fi V;cases B;exact Cu (s:=pure (a.eval x)) rfl rfl (Same.after I C)
 | nilCheck x=>
  obtain⟨y,rfl,C⟩:=Fi V;simp only[BB,coreU]at B;split at B
  ·rename_i i oo e
   cases e;cases B;have F:=(vl1 C).2;refine Cu (s:=pure (a.eval x)) ?_ rfl (Same.after I C);simp only[execOp,F];rfl
  ·cases B
 | unOp u t x=>
  obtain⟨y,rfl,C⟩:=Fi V;cases u<;>simp only[BB,coreU]at B<;>try (cases B;done)
  split at B
  ·rename_i b e
   cases e;cases B;have F:=(vl1 C).1;refine Cu (s:=Op.unary .not (a.eval x)) rfl (z:=.bool !b) ?_ (Same.after I (av1 ⟨rfl,rfl⟩));rw[F];rfl
  ·cases B
 | binOp op t x y yt=>
  obtain⟨p,q,rfl,C,F⟩:=G6 V;simp only[BB,coreU]at B;split at B
  ·rename_i r hr
   cases B;obtain⟨O,X⟩:=zHe H hr S C F x y;exact Cu rfl O (Same.after I (av1 ⟨rfl,X⟩))
  ·cases B
 | alloc t=>
  have:=V7 V;subst this;simp only[BB,coreU]at B;split at B
  ·rename_i d i e hd
   split at B
   ·rename_i ob' hob
    cases B;obtain⟨z,w',U,C,F,O,X,h5⟩:=zAQ (H.ok _ _ hd) I hob;exact Cu rfl C ⟨z,U,rfl,F,O,X,fun R e=>by cases e;exact h5⟩
   ·cases B
  ·cases B
 | box t x=>
  obtain⟨y,rfl,C⟩:=Fi V;simp only[BB,coreU]at B;split at B
  ·rename_i g c i e
   cases e;split at B
   ·rename_i ob' hob
    cases B;obtain⟨z,w',U,g1,g2,g3,g4,g5⟩:=zEh (P:=P) (t:=t) I hob C;exact Cu rfl g1 ⟨z,U,rfl,g2,g3,g4,fun R e=>by cases e;exact g5⟩
   ·cases B
  ·cases B
 | load t x=>
  obtain⟨y,rfl,C⟩:=Fi V;simp only[BB,coreU]at B;split at B
  ·rename_i x' d e hd
   cases e;unfold evLd at B;split at B
   ·rename_i q G
    cases B;rw[Option.bind_eq_some_iff]at G;obtain⟨i,hi,G⟩:=G;split at hi
    ·rename_i ht
     subst hi;obtain⟨-,sB,tB⟩:=ht;obtain⟨z,U,F,O,X,h5,h6⟩:=ze (H.ok _ _ hd) sB tB I G S (vl1 C);exact Cu rfl F ⟨z,U,rfl,O,X,h5,fun R e=>by cases e;exact h6⟩
    ·cases hi
   ·split at B
    ·rename_i q G
     cases B;obtain⟨z,F,O⟩:=XQ (H.ok _ _ hd) I G S (vl1 C);exact Cu rfl F (Same.after I O)
    ·cases B
  ·cases B
 | store t x y=>
  obtain⟨p,q,rfl,C,F⟩:=G6 V;simp only[BB,coreU]at B;split at B
  ·rename_i x' g c d e hd
   cases e;split at B
   ·rename_i q G
    cases B;unfold evSt at G;split at G
    ·rename_i r i k a' j
     obtain⟨w',U,g1,g2,g3,g4⟩:=zBd (H.ok _ _ hd) I G S (vl1 C) F;exact PV rfl g1 ⟨undef,U,rfl,g2,g3,g4,fun R e=>by cases e⟩
    ·rename_i i k a' j _
     obtain⟨E1,x1,o1,c1,d1⟩:=LR I (VlR.cells F);obtain⟨w',g1,g2,g3,g4⟩:=Y4 (H.ok _ _ hd) o1 G S (CvR.ext x1 (fun j hj=>(d1 j).1 hj) (vl1 C)) (zI7 F c1);exact PV rfl g1 ⟨undef,E1,rfl,x1.trans g2 (fun j hj=>(d1 j).1 hj),fun j hj=>g3 j ((d1 j).1 hj),g4,fun R e=>by cases e⟩
    ·obtain⟨w',g1,g2,g3,g4⟩:=Y4 (H.ok _ _ hd) I G S (vl1 C) F;exact PV rfl g1 ⟨undef,E,rfl,g2,g3,g4,fun R e=>by cases e⟩
   ·cases B
  ·cases B
 | fieldAddr t x f=>
  obtain⟨y,rfl,C⟩:=Fi V;simp only[BB,coreU]at B;split at B
  ·rename_i x' d e hd
   cases e;have F:=vl1 C;split at B
   ·rename_i q i oo G
    cases B;obtain⟨O,X⟩:=F;refine Cu rfl (z:=.pointer (some ⟨E.bl i,oo+q.1,none⟩)) ?_ (Same.after I (av1 ⟨O,rfl⟩));rw[X];exact(H.ok _ _ hd).run_field G w _ _
   ·rename_i q i k a' j G
    cases B;obtain⟨O,X⟩:=F;refine Cu rfl (z:=.pointer (some ⟨E.bl i,a'*k+(j+q.1),none⟩)) ?_ (Same.after I (av1 ⟨O,rfl⟩));rw[X,<-Nat.add_assoc];exact(H.ok _ _ hd).run_field G w _ _
   ·rename_i q fl k n g a' j G
    cases B;obtain⟨O,b,oo,X,h5⟩:=F;refine Cu rfl (z:=.pointer (some ⟨b,oo+(a'*k+(j+q.1)),none⟩)) ?_ (Same.after I (av1 ⟨O,b,oo,rfl,h5⟩));rw[X,<-Nat.add_assoc,<-Nat.add_assoc,<-Nat.add_assoc];exact(H.ok _ _ hd).run_field G w _ _
   ·cases B
  ·cases B
 | indexAddr t x ix=>
  obtain⟨p,q,rfl,C,F⟩:=G6 V;simp only[BB,coreU]at B;split at B
  ·rename_i x' K ixx d e hd
   cases e;have O:=vl1 C;have X:=(vl1 F).1;split at B
   ·rename_i de fl k n g hde
    split at B
    ·rename_i hk
     cases B;obtain⟨rfl,J⟩:=hk;obtain⟨aa,c,e,hn,oA⟩:=O;obtain⟨b,oo,rfl,hb,pB,aA⟩:=oA (by have:=S.1;have:=S.2;omega);refine Cu rfl (z:=.pointer (some ⟨b,oo+(ixx.toNat*de.k+0),none⟩)) ?_ (Same.after I (av1 ⟨by have:=S.1;have:=S.2;omega,b,oo,rfl,some ⟨b,oo,none⟩,n,rfl,Nat.le_refl _,fun _=>⟨b,oo,rfl,hb,pB,aA⟩⟩));rw[X,e,Nat.add_zero];exact(H.ok _ _ hd).run_index J (H.ok _ _ hde) S.1 S.2
    ·cases B
   ·rename_i de i hde
    split at B
    ·rename_i k n g hi
     split at B
     ·rename_i hk
      cases B;obtain⟨rfl,J⟩:=hk;obtain⟨aa,cap,hv,hn,tA⟩:=I _ _ hi;obtain⟨lB,_⟩:=tA (by have:=S.1;have:=S.2;omega);refine Cu rfl (z:=.pointer (some ⟨E.bl i,ixx.toNat*de.k+0,none⟩)) ?_ (Same.after I (av1 ⟨O.1,rfl⟩));rw[X,O.2.1,hv,lB,Nat.add_zero];have:=(H.ok _ _ hd).run_index J (H.ok _ _ hde) S.1 S.2 (w:=w) (b:=E.bl i) (o:=0) (c:=cap) (K:=K);rw[Nat.zero_add]at this;exact this
     ·cases B
    ·cases B
   ·cases B
  ·cases B
 | index t x ix=>
  obtain⟨p,q,rfl,C,F⟩:=G6 V;simp only[BB,coreU]at B;split at B
  ·rename_i s K ixx e
   cases e;split at B
   ·rename_i ht
    subst ht;cases B;have O:=(vl1 C).1;have X:=(vl1 F).1;refine Cu rfl (z:=.int .u8 ((s[ixx.toNat]?).getD 0).toNat) ?_ (Same.after I (av1 ⟨rfl,rfl⟩));rw[O,X];obtain⟨c0,c1⟩:=S;have jA:ixx.toNat<s.size:=(by omega);unfold Instr.index;simp[asIntOf,run_underlying H.hs,c0,jA]
   ·cases B
  ·cases B
 | extract x ix=>
  obtain⟨y,rfl,C⟩:=Fi V;simp only[BB,coreU]at B;split at B
  ·rename_i q e
   cases e;split at B
   ·rename_i r hr
    cases B;obtain⟨vs,e,F⟩:=C;obtain⟨u,hu,O⟩:=F.at hr;refine Cu rfl (z:=u) ?_ (Same.after I O);rw[e];simp[Instr.extract,hu]
   ·cases B
  ·cases B
 | build t ps=>
  simp only[BB,coreU]at B;split at B
  ·rename_i d q hd G
   split at B
   ·rename_i c oA
    split at B
    ·cases B
    ·rename_i oB
     cases B;have M:AR (fun x R=>AvR w E (dom ob) R (a.eval x)) (ps.toList.map (·.2)) l:=(by simpa[Op.operands]using V);obtain⟨z,C,F⟩:=zAR (H.ok _ _ hd) (fun e=>oB (by rw[e];rfl)) (RS G M) oA;refine Cu rfl (z:=z) ?_ (Same.after I F);have e:(ps.map fun (i,x)=>(i,a.eval x))=(ps.toList.map fun p=>(p.1,a.eval p.2)).toArray:=by
      apply Array.ext';simp
     rw[e];exact C
   ·cases B
  ·cases B
 | buildSlice t n ps=>
  simp only[BB,coreU]at B;split at B
  ·rename_i d q i hd G
   split at B
   ·rename_i de hde
    split at B
    ·rename_i ob' hob
     split at B
     ·cases B
     ·rename_i J
      cases B;have M:AR (fun x R=>AvR w E (dom ob) R (a.eval x)) (ps.toList.map (·.2)) l:=(by simpa[Op.operands]using V);obtain⟨z,w',U,C,F,O,X,h5⟩:=zCq (H.ok _ _ hd) J (H.ok _ _ hde) I (RS G M) hob;refine Cu rfl (z:=z) ?_ ⟨z,U,rfl,F,O,X,fun R e=>by cases e;exact h5⟩;have e:(ps.map fun (i,x)=>(i,a.eval x))=(ps.toList.map fun p=>(p.1,a.eval p.2)).toArray:=by
       apply Array.ext';simp
      rw[e];exact C
    ·cases B
   ·cases B
  ·cases B
 | slice t x lo hi mx=>
  cases mx with
  | some _=>simp only[BB,coreU]at B;cases B
  | none=>
   simp only[BB,coreU]at B;split at B
   ·rename_i d hd
    split at B
    ·rename_i de hde
     split at B
     ·rename_i q G
      split at B
      ·cases B
      ·rename_i J
       cases B;obtain⟨z,C,F⟩:=zAX (H.ok _ _ hd) J (H.ok _ _ hde) I (x:=x) G S (by simpa[Op.operands]using V);exact Cu rfl C (Same.after I (av1 F))
     ·cases B
    ·cases B
   ·cases B
 | makeSlice t x y=>
  obtain⟨p,q,rfl,C,F⟩:=G6 V;simp only[BB,coreU]at B;split at B
  ·rename_i K1 x' K2 y' d i e hd
   cases e;split at B
   ·rename_i de hde
    split at B
    ·rename_i ob' hob
     split at B
     ·cases B
     ·rename_i J
      cases B;obtain⟨rfl,c0,c1⟩:=S;obtain⟨z,w',U,g1,g2,g3,g4,g5⟩:=zCv (H.ok _ _ hd) J (H.ok _ _ hde) I (kl:=K1) (kc:=K2) c0 c1 hob;refine Cu rfl (z:=z) ?_ ⟨z,U,rfl,g2,g3,g4,fun R e=>by cases e;exact g5⟩;rw[(vl1 C).1,(vl1 F).1];exact g1
    ·cases B
   ·cases B
  ·cases B
 | call c=>
  obtain⟨callee,args,W⟩:=c;cases callee with
  | invoke r m=>simp only[BB,coreU]at B;cases B
  | value f=>
   cases f with
   | func f=>
    simp only[BB,coreU]at B;split at B
    ·rename_i x r i
     have M:AR (fun x R=>AvR w E (dom ob) R (a.eval x)) (.func f :: args.toList) (x :: r):=(by simpa[Op.operands,Call.operands]using V);cases M with
     | cons _ t=>
      have L:AR (AvR w E (dom ob)) r (args.toList.map a.eval):=by
       clear V B S;generalize args.toList=ags at t
       induction t with
       | nil=>exact .nil
       | cons C _ ih=>exact .cons C ih
      have jB:Do P f->Calls P f (args.toList.map a.eval).toArray w (fun e w'=>∃v U,e = .returned v/\AX (dom ob) w E w' U/\(∀j,dom ob j->dom D.ob j)/\AU w' U D.ob/\∃R,D.av=some R/\AvR w' U (dom D.ob) R v)->Oper.wp P ⟨some i,.call ⟨.value (.func f),args,W⟩,type,pos,cA,guard⟩ a w (Rs E w ob ⟨some i,.call ⟨.value (.func f),args,W⟩,type,pos,cA,guard⟩ a D) Q:=by
       intro hE Z;have N:(execOp a.eval ⟨some i,.call ⟨.value (.func f),args,W⟩,type,pos,cA,guard⟩).run P w = .ok (.enter f (args.toList.map a.eval).toArray) w:=by
        have e:args.map a.eval=(args.toList.map a.eval).toArray:=(by apply Array.ext';simp);simp only[execOp,resolve,Act.eval,Deferred.ofValue,Sem.run_bind,Sem.run_pure,Result.andThen_ok,invoke];rw[show(#[]:Array Value) ++ args.map a.eval ++ #[]=(args.toList.map a.eval).toArray by rw[<-e];simp];exact hE _ _
       unfold Oper.wp;rw[N];refine Z.mono ?_;rintro e w' ⟨v,U,rfl,C,F,O,R,e1,X⟩;exact⟨v,U,rfl,C,F,O,fun jC e=>by rw[e1]at e;cases e;exact X⟩
      obtain⟨hE,Z⟩:=zHj hΓ I B S L;exact jB hE Z
    ·cases B
   | _=>simp only[BB,coreU]at B;cases B
  | builtin b=>
   cases b<;>simp only[BB,coreU]at B<;>try (cases B;done)
   case len=>
    have N:∀(s:Sem Value),Builtin.len_ W type (args.map a.eval)=s->execOp a.eval ⟨dst,.call ⟨.builtin .len,args,W⟩,type,pos,cA,guard⟩=(do pure (.value (<-s))):=fun s hs=>by rw[<-hs];rfl
    have M:AR (fun x R=>AvR w E (dom ob) R (a.eval x)) args.toList l:=(by simpa[Op.operands,Call.operands]using V);split at B
    ·rename_i s
     split at B
     ·rename_i ht
      cases B;have L:∃x,args.toList = [x]/\AvR w E (dom ob) (.m false [.v (.string s)]) (a.eval x):=by
       generalize args.toList=ags at M;cases M with
       | cons C t=>cases t;exact⟨_,rfl,C⟩
      obtain⟨x,hx,C⟩:=L;refine Cu (N _ rfl) (z:=.int .i64 s.size) ?_ (Same.after I (av1 ⟨rfl,rfl⟩));have e1:args=#[x]:=(by apply Array.ext';simpa using hx);have e2:W=#[T.sx]:=(by apply Array.ext';simpa using ht);rw[e1,e2];simp[Builtin.len_,(vl1 C).1,run_underlying H.hs,goInt]
     ·cases B
    ·rename_i x' _
     split at B
     ·rename_i t ht
      split at B
      ·rename_i d n hd hn
       split at B
       ·cases B
       ·rename_i J
        cases B;have L:∃x,args.toList = [x]/\AvR w E (dom ob) (.m false [x']) (a.eval x):=by
         generalize args.toList=ags at M;cases M with
         | cons C t=>cases t;exact⟨_,rfl,C⟩
        obtain⟨x,hx,C⟩:=L;refine Cu (N _ rfl) (z:=.int .i64 n) ?_ (Same.after I (av1 ⟨rfl,rfl⟩));have e1:args=#[x]:=(by apply Array.ext';simpa using hx);have e2:W=#[t]:=(by apply Array.ext';simpa using ht);rw[e1,e2];simpa using zEi (H.ok _ _ hd) J I hn (vl1 C) type
      ·cases B
     ·cases B
    ·cases B
   case append=>
    have N:∀(s:Sem Value),Builtin.append_ W type (args.map a.eval)=s->execOp a.eval ⟨dst,.call ⟨.builtin .append,args,W⟩,type,pos,cA,guard⟩=(do pure (.value (<-s))):=fun s hs=>by rw[<-hs];rfl
    have M:AR (fun x R=>AvR w E (dom ob) R (a.eval x)) args.toList l:=(by simpa[Op.operands,Call.operands]using V);split at B
    ·rename_i x' y' t t' i ht
     split at B
     ·rename_i d hd
      split at B
      ·rename_i de hde
       split at B
       ·rename_i q G
        split at B
        ·rename_i J
         cases B;obtain⟨rfl,J⟩:=J;have L:∃x y,args.toList = [x,y]/\AvR w E (dom ob) (.m false [x']) (a.eval x)/\AvR w E (dom ob) (.m false [y']) (a.eval y):=by
          generalize args.toList=ags at M;cases M with
          | cons C t=>cases t with | cons F t=>cases t;exact⟨_,_,rfl,C,F⟩
         obtain⟨x,y,hx,C,F⟩:=L;have sA:∃z w' U,(Builtin.append_ #[t',t'] type #[a.eval x,a.eval y]).run P w = .ok z w'/\AX (dom ob) w E w' U/\(∀j,dom ob j->dom q.2 j)/\AU w' U q.2/\AvR w' U (dom q.2) (.m false [.h (rid i 0)]) z:=by
          unfold JK at G;split at G
          ·rename_i q' hq'
           cases G;split at hq'
           ·exact zC7 (H.ok _ _ hd) J (H.ok _ _ hde) I hq' S (vl1 C) (vl1 F) type
           ·cases hq'
          ·split at G
           ·rename_i q' hq'
            cases G;exact zC8 (H.ok _ _ hd) J (H.ok _ _ hde) I hq' S (vl1 C) (vl1 F) type
           ·exact zBa (H.ok _ _ hd) J (H.ok _ _ hde) I G S (vl1 C) (vl1 F) type
         obtain⟨z,w',U,g1,g2,g3,g4,g5⟩:=sA;refine Cu (N _ rfl) (z:=z) ?_ ⟨z,U,rfl,g2,g3,g4,fun R e=>by cases e;exact g5⟩;have e1:args=#[x,y]:=(by apply Array.ext';simpa using hx);have e2:W=#[t',t']:=(by apply Array.ext';simpa using ht);rw[e1,e2];simpa using g1
        ·cases B
       ·cases B
      ·cases B
     ·cases B
    ·cases B
 | field t x f=>
  obtain⟨y,rfl,C⟩:=Fi V;simp only[BB,coreU]at B;split at B
  ·rename_i c d e hd
   cases e;split at B
   ·rename_i R hav
    cases B;unfold evField at hav;split at hav
    ·rename_i q G
     split at hav
     ·rename_i pC
      cases hav;obtain⟨cs,ey,aB⟩:=C;have bC:=aB.length;have N:=(H.ok _ _ hd).run_part G w (cs:=cs) (by omega);rw[<-ey]at N;refine Cu rfl N (Same.after I ?_);have Y:=(aB.drop q.1).take q.2;by_cases F:q.2=1
      ·rw[if_pos F,show(q.2 != 1)=false by simp[F]];obtain⟨v,hv⟩:∃v,cs[q.1]?=some v:=⟨cs[q.1]'(by omega),List.getElem?_eq_getElem (by omega)⟩;have O:(cs.drop q.1).take q.2 = [v]:=by
        have jA:q.1<cs.length:=(by omega);rw[F,List.drop_eq_getElem_cons jA,List.take_succ_cons,List.take_zero];rw[List.getElem?_eq_getElem jA]at hv;cases hv;rfl
       rw[O]at Y;rw[List.getD_eq_getElem?_getD,hv];obtain⟨x',aC⟩:∃x',(c.drop q.1).take q.2 = [x']:=by
        have:=Y.length
        match hm:(c.drop q.1).take q.2,this with
        | [x'],_=>exact⟨x',rfl⟩
       rw[aC]at Y ⊢;cases Y with
       | cons k1 _=>exact⟨x',rfl,k1⟩
      ·rw[if_neg F,show(q.2 != 1)=true by simp[F]];exact⟨_,rfl,Y⟩
     ·cases hav
    ·cases hav
   ·cases B
  ·cases B
 | convert src t x=>
  obtain⟨y,rfl,C⟩:=Fi V;simp only[BB,coreU]at B;split at B
  ·rename_i x' e
   cases e;split at B
   ·rename_i q G
    cases B;have F:=vl1 C;unfold evConv at G;split at G
    ·rename_i K n
     split at G
     ·rename_i k1 k2 hk1 hk2
      cases G;refine Cu (s:=convert src t (a.eval x)) rfl (z:=.int k2 (k2.wrap n)) ?_ (Same.after I (av1 ⟨rfl,rfl⟩));rw[F.1];unfold convert;simp[run_underlying (H.hik _ _ hk1),run_underlying (H.hik _ _ hk2),Conv.intToInt]
     ·cases G
    ·rename_i i
     split at G
     ·rename_i k n f hi
      split at G
      ·rename_i vA
       obtain⟨rfl,rfl,rfl⟩:=vA;cases G;obtain⟨-,aa,cap,vB,hn,aA⟩:=Kc I hi;refine Cu (s:=convert T.by' T.sx (a.eval x)) rfl (z:=.string (Me n f)) ?_ (Same.after I (av1 ⟨rfl,rfl⟩));rw[F.2.1,vB];have lA:n=0->Me n f=ByteArray.empty:=fun e=>by subst e;rfl
       rcases Nat.eq_zero_or_pos cap with e0 | e0
       ·have en:n=0:=(by omega);cases aa with
        | none=>rw[lA en];exact run_convert_bytes_nil w _ _ H.hby H.hu8 _ _ _ H.hs
        | some A=>
         rw[run_convert_bytes_string w _ _ _ _ _ _ H.hby H.hu8 H.hs,lA en];subst en;simp[Conv.bytesToString,loadCells,loadCellsFrom]
       ·obtain⟨ha,-,cs,TT,hh,M,mB⟩:=aA e0;subst ha;refine run_convert_bytes_arg w _ _ H.hby H.hu8 _ 0 _ _ _ (by simp) (fun p hp=>?_) _ H.hs;obtain⟨u,hu,hs⟩:=mB p 0 hp (by omega);obtain⟨v,hv⟩:=S p hp;rw[hv]at hs;obtain⟨rfl,-⟩:=hs;rw[cell_of_row w _ _ _ TT _ hh];simp only[Nat.mul_one,Nat.add_zero,Nat.zero_add]at hu ⊢;simp only[List.getElem?_toArray,hu,List.getD_eq_getElem?_getD,List.getElem?_map,List.getElem?_range hp,Option.map_some,Option.getD_some,hv,yR]
      ·cases G
     ·cases G
    ·cases G
   ·cases B
  ·cases B
 | _=>simp only[BB,coreU]at B;cases B
def Cv.ids:Cv->List Nat
 | .h i=>[i]
 | .p i _=>[i]
 | .e i _ _ _=>[i]
 | .hs i _ _ _=>[i]
 | _=>[]
def Av.ids:Av->List Nat
 | .m _ l=>l.flatMap Cv.ids
 | .t l=>l.flatMap fun q=>q.2.flatMap Cv.ids
def deep(ob:List (Nat×Ob)):List Av->List Nat
 | .m false [.p j 0] :: _=>match get ob j with
  | some (.var cl)=>cl.flatMap Cv.ids
  | _=>[]
 | _=>[]
def Mi(Γ : List (Nat×AL))(f:Nat):Bool:=(get Γ f).isSome
def CP(d:Nat):List Nat:=d :: (List.range 40).map (rid d)
def K4:Cv->List Nat
 | .e i _ _ _=>[i]
 | _=>[]
def hdC:List Av->Cv
 | .m false [x] :: _=>x
 | _=>.v (.bool false)
def SS:List Av->Cv
 | _ :: .m false [x] :: _=>x
 | _=>.v (.bool false)
structure Tk where
 tc:List Nat
 sh:List Nat
 wr:List Nat
 sw:List Nat
def tks(T:Tb)(Γ : List (Nat×AL))(ob:List (Nat×Ob))(op:Op)(dst:Option Nat)(l:List Av):Tk:=
 match op,dst with
 | .alloc _,some d=>⟨[d],[],[d],[]⟩
 | .box _ _,some d=>⟨[d],[],[d],[]⟩
 | .buildSlice _ _ _,some d=>⟨l.flatMap Av.ids ++ [rid d 0],[],l.flatMap Av.ids ++ [rid d 0],[]⟩
 | .makeSlice _ _ _,some d=>⟨[rid d 0],[],[rid d 0],[]⟩
 | .load t _,some d=>if t=T.tk then⟨l.flatMap Av.ids ++ [rid d 0],[],[rid d 0],K4 (hdC l)⟩else⟨l.flatMap Av.ids,[],[],[]⟩
 | .store _ _ _,_=>⟨l.flatMap Av.ids,[],l.flatMap Av.ids,[]⟩
 | .slice _ _ _ _ _,_=>⟨[],l.flatMap Av.ids,[],[]⟩
 | .call ⟨.builtin .append,_,tys⟩,some d=>⟨(hdC l).ids ++ (SS l).ids ++ [rid d 0],[],(hdC l).ids ++ [rid d 0],if tys.toList = [T.mv,T.mv] then(SS l).ids else []⟩
 | .call ⟨.value (.func f),_,_⟩,some d=>if Mi Γ f then⟨(l.drop 1).flatMap Av.ids ++ CP d,[],CP d,[]⟩else⟨(l.drop 1).flatMap Av.ids ++ deep ob (l.drop 1) ++ CP d,[],(l.drop 1).flatMap Av.ids ++ deep ob (l.drop 1) ++ CP d,[]⟩
 | .move _,_ | .nilCheck _,_ | .fieldAddr _ _ _,_=>⟨[],[],[],[]⟩
 | _,_=>⟨l.flatMap Av.ids,[],[],[]⟩
def puts(ob:List (Nat×Ob))(us:List (Nat×Ob)):List (Nat×Ob):=us.foldl (fun o q=>put o q.1 q.2) ob
def Agr(L:List Nat)(ob ob':List (Nat×Ob)):Prop:=∀j,j∈L->get ob' j=get ob j
variable{L:List Nat}
theorem Agr.put(h:Agr L ob ob')(i:Nat)(x:Ob):Agr L (put ob i x) (put ob' i x):=fun j a=>by
 rw[BD,BD,h j a]
theorem Agr.sub{L':List Nat}(h:Agr L ob ob')(hs:∀j,j∈L'->j∈L):Agr L' ob ob':=fun j a=>h j (hs j a)
def P5(L H:List Nat)(ob ob':List (Nat×Ob)):Prop:=Agr L ob ob'/\∀j,j∈H->shp (get ob' j)=shp (get ob j)
theorem zC9(h:Agr x.ids ob ob'):evLoad d ob' x=evLoad d ob x:=by
 cases x<;>simp only[evLoad]<;>first | rfl | (rw[h _ (by simp[Cv.ids])])
theorem J3(h:get ob' i=get ob i):rowE ob' i=rowE ob i:=by unfold rowE;rw[h]
theorem zBc(h:Agr x.ids ob ob'):evLen ob' x=evLen ob x:=by
 cases x with
 | h i=>simp only[evLen];rw[J3 (h i (by simp[Cv.ids]))]
 | v x=>
  cases x with
  | slice a n c=>cases a with
   | none=>cases n<;>cases c<;>rfl
   | some _=>rfl
  | _=>rfl
 | _=>rfl
theorem Yc(h:Agr x.ids ob ob'):srcOf k ob' x=srcOf k ob x:=by
 cases x with
 | h i=>simp only[srcOf];rw[J3 (h i (by simp[Cv.ids]))]
 | hs i k lo n=>simp only[srcOf];rw[J3 (h i (by simp[Cv.ids]))]
 | v x=>
  cases x with
  | slice a n c=>cases a with
   | none=>cases n<;>cases c<;>rfl
   | some _=>rfl
  | _=>rfl
 | _=>rfl
theorem zAI(h:Agr x.ids ob ob'):mvOf k ob' x=mvOf k ob x:=by
 cases x with
 | h i=>simp only[mvOf];rw[h i (by simp[Cv.ids])]
 | hs i k lo n=>simp only[mvOf];rw[h i (by simp[Cv.ids])]
 | _=>rfl
theorem zA7(h:Agr x.ids ob ob'):tlOf k ob' x=tlOf k ob x:=by
 cases x with
 | h i=>simp only[tlOf];rw[h i (by simp[Cv.ids])]
 | _=>rfl
theorem Yh(h:Agr x.ids ob ob'):dstOf k ob' x=dstOf k ob x:=by
 cases x with
 | h i=>simp only[dstOf];rw[h i (by simp[Cv.ids])]
 | v x=>
  cases x with
  | slice a n c=>cases a with
   | none=>cases n<;>cases c<;>rfl
   | some _=>rfl
  | _=>rfl
 | _=>rfl
theorem zBx(h:Agr x.ids ob ob'):argOf ob' x=argOf ob x:=by
 cases x with
 | h i=>simp only[argOf];rw[J3 (h i (by simp[Cv.ids]))]
 | _=>rfl
theorem YP{ob ob':List (Nat×Ob)}:∀{l:List Cv},Agr (l.flatMap Cv.ids) ob ob'->argL (argOf ob') l=argL (argOf ob) l
 | [],_=>rfl
 | x :: r,h=>by
  simp only[argL];rw[zBx (h.sub fun j a=>by simp[a]),YP (h.sub fun j a=>by simp at a ⊢;exact .inr a)]
theorem Yf{ob ob':List (Nat×Ob)}:∀{l:List Av},Agr (l.flatMap Av.ids) ob ob'->argsF (argOf ob') l=argsF (argOf ob) l
 | [],_=>rfl
 | .m g c :: r,h=>by
  simp only[argsF];rw[YP (h.sub fun j a=>by simp[Av.ids]at a ⊢;exact .inl a),Yf (h.sub fun j a=>by simp at a ⊢;exact .inr a)]
 | .t l :: r,h=>rfl
variable{keep:Bool}
theorem Ol(h:Agr (l.flatMap Av.ids) ob ob'):IW keep ob' l=IW keep ob l:=by
 cases keep with
 | true=>rfl
 | false=>exact Yf h
theorem zGL(h:Agr x.ids ob ob'):vT ob' x=vT ob x:=by
 cases x with
 | h i=>simp only[vT];rw[h i (by simp[Cv.ids])]
 | s fl k n f=>cases fl<;>rfl
 | _=>rfl
theorem RX{ob ob':List (Nat×Ob)}:∀{l:List Cv},Agr (l.flatMap Cv.ids) ob ob'->varT ob' l=varT ob l
 | [],_=>rfl
 | x :: r,h=>by
  simp only[varT];rw[zGL (h.sub fun j a=>by simp[a]),RX (h.sub fun j a=>by simp at a ⊢;exact .inr a)]
def qY(f:List (Nat×Ob)->Option (List (Nat×Ob)))(L W:List Nat):Prop:=∀ob ob',f ob=some ob'->∃us,ob'=puts ob us/\(∀q∈us,q.1∈W)/\∀ob2,Agr L ob ob2->f ob2=some (puts ob2 us)
theorem Yq(d:Nat):∀(l:List Tr) (n:Nat),qY (fun ob=>outOb d n ob l) ((List.range' n l.length).map (rid d)) ((List.range' n l.length).map (rid d))
 | [],n=>fun ob ob' h=>by cases h;exact⟨[],rfl,by simp,fun ob2 _=>rfl⟩
 | T :: r,n=>fun ob ob' h=>by
  simp only[outOb]at h;split at h
  ·rename_i i h1
   obtain⟨us,e,w,t⟩:=Yq d r (n+1) i ob' h;by_cases u:∃k m f,T = .s .o k m f
   ·obtain⟨k,m,f,rfl⟩:=u;simp only[obO]at h1;split at h1
    ·rename_i hn
     cases h1;refine⟨(rid d n,.row k m f) :: us,e,fun q g=>?_,fun ob2 a=>?_⟩
     ·cases g with
      | head=>simp[List.range'_succ]
      | tail _ hm=>have:=w q hm;simp only[List.length_cons,List.range'_succ,List.map_cons,List.mem_cons];exact .inr this
     ·simp only[outOb,obO];rw[a (rid d n) (by simp[List.range'_succ]),hn];exact t _ (Agr.put (a.sub fun j c=>by simp only[List.length_cons,List.range'_succ,List.map_cons,List.mem_cons];exact .inr c) _ _)
    ·cases h1
   ·have p:∀ob,obO ob (rid d n) T=some ob:=fun ob=>by
     cases T with
     | v x=>rfl
     | s fl k m f=>
      cases fl with
      | b=>rfl
      | z=>rfl
      | o=>exact absurd ⟨k,m,f,rfl⟩ u
    rw[p]at h1;cases h1;refine⟨us,e,fun q g=>?_,fun ob2 a=>?_⟩
    ·have:=w q g;simp only[List.length_cons,List.range'_succ,List.map_cons,List.mem_cons];exact .inr this
    ·simp only[outOb,p];exact t _ (a.sub fun j c=>by simp only[List.length_cons,List.range'_succ,List.map_cons,List.mem_cons];exact .inr c)
  ·cases h
theorem D3(ob us vs:List (Nat×Ob)):puts ob (us ++ vs)=puts (puts ob us) vs:=by simp[puts]
theorem Agr.puts(h:Agr L ob ob'):∀us,Agr L (puts ob us) (puts ob' us):=by
 intro us
 induction us generalizing ob ob' with
 | nil=>exact h
 | cons q r ih=>exact ih (h.put _ _)
theorem MQ(d:Nat):∀(l:List (Bool×List Tr)) (n:Nat),qY (fun ob=>Ea d n ob l) ((List.range' n (tot l)).map (rid d)) ((List.range' n (tot l)).map (rid d))
 | [],n=>fun ob ob' h=>by cases h;exact⟨[],rfl,by simp,fun ob2 _=>rfl⟩
 | q :: r,n=>fun ob ob' h=>by
  simp only[Ea]at h;split at h
  ·rename_i f h1
   obtain⟨us,e,s,p⟩:=Yq d q.2 n ob f h1;obtain⟨vs,o,k,i⟩:=MQ d r (n+q.2.length) f ob' h;have a:List.range' n (tot (q :: r))=List.range' n q.2.length ++ List.range' (n+q.2.length) (tot r):=by
    simp only[tot];rw[List.range'_append_1]
   refine⟨us ++ vs,by rw[D3,<-e];exact o,fun x c=>?_,fun ob2 m=>?_⟩
   ·rw[a,List.map_append,List.mem_append];rcases List.mem_append.1 c with c | c
    ·exact .inl (s x c)
    ·exact .inr (k x c)
   ·have b:=p ob2 (m.sub fun j g=>by rw[a,List.map_append,List.mem_append];exact .inl g);simp only at b;simp only[Ea];rw[b,D3];refine i _ ?_;rw[e];exact Agr.puts (m.sub fun j g=>by rw[a,List.map_append,List.mem_append];exact .inr g) us
  ·cases h
theorem Xg{d:Nat}:∀{l:List Tr} {n:Nat} {ob ob':List (Nat×Ob)},l.any Tr.own=false->outOb d n ob l=some ob'->ob'=ob
 | [],n,ob,ob',_,h=>by cases h;rfl
 | T :: r,n,ob,ob',ha,h=>by
  simp only[List.any_cons,Bool.or_eq_false_iff]at ha;have a:obO ob (rid d n) T=some ob:=by
   cases T with
   | v x=>rfl
   | s fl k m f=>
    cases fl with
    | b=>rfl
    | z=>rfl
    | o=>cases ha.1
  simp only[outOb,a]at h;exact Xg ha.2 h
theorem Yr{d:Nat}:∀{l:List (Bool×List Tr)} {n:Nat} {ob ob':List (Nat×Ob)},(l.any fun q=>q.2.any Tr.own)=false->Ea d n ob l=some ob'->ob'=ob
 | [],n,ob,ob',_,h=>by cases h;rfl
 | q :: r,n,ob,ob',ha,h=>by
  simp only[List.any_cons,Bool.or_eq_false_iff]at ha;simp only[Ea]at h;split at h
  ·rename_i a h1
   rw[Xg ha.1 h1]at h;exact Yr ha.2 h
  ·cases h
variable{sp:AL}
theorem zBb(h:evCall keep sp i ob r=some D)(hn:D.nw=false):D.ob=ob:=by
 unfold evCall at h;split at h
 ·split at h
  ·split at h
   ·split at h
    ·cases h;simp only[Bool.or_eq_false_iff]at hn;obtain⟨rfl,hn⟩:=hn;exact Yr hn (by assumption)
    ·cases h
   ·cases h
  ·cases h
 ·cases h
theorem zAS(h:evCallN sp i ob r=some D):D.nw=true:=by
 unfold evCallN at h;split at h
 ·split at h
  ·split at h
   ·split at h
    ·split at h
     ·cases h;rfl
     ·cases h
    ·cases h
   ·cases h
  ·cases h
 ·cases h
theorem zAW{j:Nat}(h:evCallP keep sp i j ob r=some D):D.nw=true:=by
 unfold evCallP at h;split at h
 ·split at h
  ·split at h
   ·split at h
    ·split at h
     ·split at h
      ·cases h;rfl
      ·cases h
     ·cases h
    ·cases h
   ·cases h
  ·cases h
 ·cases h
theorem zAU(h:evCallO sp i ob r=some D):D.nw=true:=by
 unfold evCallO at h
 repeat' split at h
 all_goals first
  | (cases h;rfl)
  | (cases h;done)
theorem zb{T:Tb}{dst:Option Nat}{op:Op}(h:BB T Γ dst ob op l=some D)(hn:D.nw=false):D.ob=ob:=by
 unfold BB coreU at h
 repeat' split at h
 all_goals first
  | (cases h;done)
  | (cases h;rfl)
  | (cases h;cases hn;done)
  | skip
 ·unfold evLd at h
  repeat' split at h
  all_goals first
   | (cases h;done)
   | (cases h;rfl)
   | (cases h;cases hn;done)
 ·unfold evC at h
  repeat' split at h
  all_goals first
   | (cases h;done)
   | exact zBb h hn
   | (rw[zAS h]at hn;cases hn)
   | (rw[zAW h]at hn;cases hn)
   | (rw[zAU h]at hn;cases hn)
end Go.Proofs.YtddigaohmfpepaaGreatDoor
