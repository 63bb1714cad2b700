/- A part of the proof. -/
import Derived.Test.YtjganmlaooofoaaGreatDoorF3
import Derived.Laws.BytesArg
set_option linter.unusedVariables false
set_option maxRecDepth 20000
set_option maxHeartbeats 4000000
namespace Go.Proofs.YtjganmlaooofoaaGreatDoor
open Go.RowKit
theorem Kp.turnL{w:World}{g:Nat->Bs}{B bA aA:Nat}{o o':Ow}(h:g B = .ow o bA)(dA:bA<=aA){c0:List Value}{T:TypeId}(hh:w.heap[B]?=some (.cells c0.toArray T (0,0))){c:List Value}(hc:∀j,j<bA->c[j]?=c0[j]?):Kp w g (w.setRow B c.toArray) (fun b=>if b=B then .ow o' aA else g b):=by
 refine⟨rfl,rfl,rfl,by simp[World.setRow],fun b r hb hl=>?_,fun b q l hb hl=>?_⟩
 ·have cA:b≠B:=fun e=>by rw[e,h]at hb;cases hb
  exact⟨zAB w B _ b cA,by rw[if_neg cA];exact hb⟩
 ·by_cases e:b=B
  ·subst e;rw[h]at hb;cases hb;refine⟨fun j hj=>?_,.inl ⟨o',aA,if_pos rfl,dA⟩⟩;rw[cell_of_row _ _ _ _ T _ (setRow_heap _ _ _ _ _ _ hh),cell_of_row _ _ _ _ T _ hh];simpa using hc j hj
  ·exact⟨fun j hj=>World.cell?_of_block (w:=w) (zAB w B _ b e),.inl ⟨q,l,by rw[if_neg e];exact hb,Nat.le_refl _⟩⟩
def tlOf(k:Nat)(ob:List (Nat×Ob)):Cv->Option (Nat×Nat×(Nat->Nat->Tr))
 | .h i=>match get ob i with
  | some (.tl k' n f)=>if k'=k then some (i,n,f)else none
  | _=>none
 | _=>none
def evAppendT(de:TyD)(ob:List (Nat×Ob))(r:Nat)(x y:Cv):Option (Prop×List (Nat×Ob)):=
 match get ob r,tlOf de.k ob x,srcOf de.k ob y with
 | none,some (i,n,f),some (C,m,f')=>some (C/\n+m<=1000000000,put (put ob i .dead) r (.tl de.k (n+m) (yX f n f')))
 | _,_,_=>none
theorem zMB{w w':World}{E:En}{ob:List (Nat×Ob)}(ho:qO w E ob){i r k n:Nat}{f:Nat->Nat->Tr}(hi:dom ob i)(hr:get ob r=none){a:Option Addr}{cap B:Nat}{c1:List Value}{T:TypeId}(hn:n<=cap)
  (hk:0<cap->Kp w E.g w' (fun b=>if b=B then .ow (.nm r) (n*k)else E.g b)) (kA:cap=0->Kp w E.g w' E.g) (aA:∀b,b<w.heap.size->¬(0<cap/\b=B)->w'.heap[b]?=w.heap[b]?) (hB:0<cap->w.heap.size<=B\/∃dA,E.g B = .ow (.nm i) dA)
  (hc:0<cap->a=some ⟨B,0,none⟩/\w'.heap[B]?=some (.cells c1.toArray T (0,0))/\c1.length=cap*k/\∀p j,p<n->j<k->∃u,c1[p*k+j]?=some u/\Sh w E.g (f p j) u) :
  ∃E',ql (dom ob) w E w' E'/\qO w' E' (put (put ob i .dead) r (.tl k n f))/\AvR w' E' (dom (put (put ob i .dead) r (.tl k n f))) (.m false [.h r]) (.slice a n cap):=by
 have gA:∀j,dom ob j->j≠r:=fun j hj=>zHe hj hr
 obtain⟨g',fA,jA,iA⟩:∃g':Nat->Bs,Kp w E.g w' g'/\(∀b,¬(0<cap/\b=B)->g' b=E.g b)/\(0<cap->g' B = .ow (.nm r) (n*k)):=by
  rcases Nat.eq_zero_or_pos cap with e | e
  ·exact⟨E.g,kA e,fun _ _=>rfl,fun h=>by omega⟩
  ·exact⟨_,hk e,fun b hb=>if_neg (fun e'=>hb ⟨e,e'⟩),fun _=>if_pos rfl⟩
 have hx:ql (dom ob) w E w' ⟨g',fun j=>if j=r then B else E.bl j,fun j=>if j=r then .slice a n cap else E.hv j⟩:=⟨fA,fun j hj=>if_neg (gA j hj),fun j hj=>if_neg (gA j hj)⟩;refine⟨_,hx,fun j b hj=>?_,.h r,rfl,by unfold dom;rw[ze,if_pos rfl];rfl,by simp,rfl⟩;rw[ze,ze]at hj;by_cases e:r=j
 ·subst e;rw[if_pos rfl]at hj;cases hj;refine⟨a,cap,by simp,hn,fun h0=>?_⟩;obtain⟨h1,h2,h3,h4⟩:=hc h0;exact⟨by simp[h1],by simp[iA h0],c1,T,by simp[h2],h3,fun p q hp hq=>let ⟨u,hu,hs⟩:=h4 p q hp hq;⟨u,hu,hs.kp fA⟩⟩
 ·rw[if_neg e]at hj;by_cases e':i=j
  ·rw[if_pos e']at hj;cases hj;trivial
  ·rw[if_neg e']at hj;have hd:dom ob j:=(by unfold dom;rw[hj];rfl);have eA:∀b,(0<cap/\b=B/\b<w.heap.size)->∃dA,E.g b = .ow (.nm i) dA:=fun b hb=>by
    obtain⟨h0,rfl,hl⟩:=hb;rcases hB h0 with h1 | h1
    ·omega
    ·exact h1
   refine ObR.ext hx (fun j hj=>qL (qL hj)) hd (X:=fun b=>0<cap/\b=B/\b<w.heap.size) (fun b hb lA=>?_) (fun b dA hb bA=>?_) (fun mA b j' dA hb bA=>?_) (ho j b hj)
   ·have cA:¬(0<cap/\b=B):=fun h=>lA ⟨h.1,h.2,hb⟩
    exact⟨aA b hb cA,jA b cA⟩
   ·obtain⟨l,h1⟩:=eA b hb;rw[h1]at bA;cases bA;exact e' rfl
   ·obtain⟨l,h1⟩:=eA b hb;rw[h1]at bA;cases bA
theorem zQL{P:Program}{t:Nat}{d de:TyD}(h:zAr P t d)(he:d.el≠0)(h':zAr P d.el de){w:World}{E:En}{ob ob':List (Nat×Ob)}(ho:qO w E ob){r:Nat}{x y:Cv}{c:Prop}(mA:evAppendT de ob r x y=some (c,ob'))(hc:c){u v:Value}(hu:CvR w E (dom ob) x u)(hv:CvR w E (dom ob) y v)(ty:Nat) :
  ∃z w' E',(Builtin.append_ #[t,t] ty #[u,v]).run P w = .ok z w'/\ql (dom ob) w E w' E'/\(∀j,dom ob j->dom ob' j)/\qO w' E' ob'/\AvR w' E' (dom ob') (.m false [.h r]) z:=by
 unfold evAppendT at mA;split at mA
 ·rename_i i n f C m f' hr hd hs
  cases mA;obtain⟨hC,oA⟩:=hc;obtain⟨-,a',c',rfl,tA⟩:=zSy ho hs hC hv;cases x<;>simp only[tlOf]at hd<;>try (cases hd;done)
  rename_i i'
  split at hd
  ·rename_i k' n' fo hi
   split at hd
   ·rename_i ek
    subst ek;cases hd;obtain⟨a,cap,lB,hn,pA⟩:=ho _ _ hi;obtain⟨kA,rfl,-⟩:=hu;rw[lB];have lA:∀j,dom ob j->dom (put (put ob i .dead) r (.tl de.k (n+m) (yX f n f'))) j:=fun j hj=>qL (qL hj)
    obtain⟨b,o,aA,hl,eA,vA,bB⟩:∃b o,∃aA:List Value,aA.length=m*de.k/\(∀(j:Nat) u,aA[j]?=some u->w.cell? ⟨b,o+j,none⟩=some u)/\(0<m->a'=some ⟨b,o,none⟩)/\∀p j,p<m->j<de.k->∃u,aA[p*de.k+j]?=some u/\Sh w E.g (f' p j) u:=by
     rcases Nat.eq_zero_or_pos m with e | e
     ·subst e;exact⟨0,0,[],by simp,fun j u h=>by simp at h,fun h=>by omega,fun p j hp=>by omega⟩
     ·obtain⟨b,o,ha,bA⟩:=tA e;obtain⟨cs,h1,h2⟩:=zMl m (fun p j hp hj=>let ⟨u,hu,_⟩:=bA p j hp hj;⟨u,hu⟩);refine⟨b,o,cs,h1,h2,fun _=>ha,fun p j hp hj=>?_⟩;obtain⟨u,hu,dA⟩:=bA p j hp hj;have gA:=zEv hp hj;have h5:cs[p*de.k+j]?=some cs[p*de.k+j]:=List.getElem?_eq_getElem (by omega);have h6:=h2 _ _ h5;rw[hu]at h6;cases h6;exact⟨_,h5,dA⟩
    have rA:∀u∈aA,u.oneCell'=true:=fun u hu=>by
     obtain⟨q,hq⟩:=List.getElem?_of_mem hu;have gA:=(List.getElem?_eq_some_iff.1 hq).1;have hp:=h'.pos;obtain⟨u',eB,jB⟩:=bB (q / de.k) (q % de.k) ((Nat.div_lt_iff_lt_mul hp).2 (by omega)) (Nat.mod_lt _ hp);rw[Nat.mul_comm,Nat.div_add_mod,hq]at eB;cases eB;exact jB.one
    have jA:∀(olds rest:List Value),olds.length=n*de.k->(∀p j,p<n->j<de.k->∃u,olds[p*de.k+j]?=some u/\Sh w E.g (f p j) u)->∀p j,p<n+m->j<de.k->∃u,(olds ++ aA ++ rest)[p*de.k+j]?=some u/\Sh w E.g (yX f n f' p j) u:=fun olds rest iA holds p j hp hj=>by
     by_cases sA:p<n
     ·obtain⟨u,hu,dA⟩:=holds p j sA hj;have gA:=(List.getElem?_eq_some_iff.1 hu).1;exact⟨u,by rw[List.append_assoc,List.getElem?_append_left gA];exact hu,by unfold yX;rw[if_pos sA];exact dA⟩
     ·obtain⟨u,hu,dA⟩:=bB (p - n) j (by omega) hj;have e:p*de.k+j=n*de.k+((p - n)*de.k+j):=by
       rw[<-Nat.add_assoc,<-Nat.add_mul];congr 2;omega
      refine⟨u,?_,by unfold yX;rw[if_neg sA];exact dA⟩;have gA:=(List.getElem?_eq_some_iff.1 hu).1;rw[e,List.append_assoc,List.getElem?_append_right (by omega),iA,Nat.add_sub_cancel_left,List.getElem?_append_left gA];exact hu
    have fA:∀(olds:List Value),olds.length=n*de.k->(∀p j,p<n->j<de.k->∃u,olds[p*de.k+j]?=some u/\Sh w E.g (f p j) u)->(0<n->∃B,a=some ⟨B,0,none⟩/\∀(j:Nat) u,olds[j]?=some u->w.cell? ⟨B,j,none⟩=some u)->cap<n+m->
      ∃z w' E',(Builtin.append_ #[t,t] ty #[.slice a n cap,.slice a' m c']).run P w = .ok z w'/\ql (dom ob) w E w' E'/\(∀j,dom ob j->dom (put (put ob i .dead) r (.tl de.k (n+m) (yX f n f'))) j)/\qO w' E' (put (put ob i .dead) r (.tl de.k (n+m) (yX f n f')))/\AvR w' E' (dom (put (put ob i .dead) r (.tl de.k (n+m) (yX f n f')))) (.m false [.h r]) z:=by
     intro olds iA holds hB fB;have ea:=vA (by omega);subst ea;obtain⟨nA,rest,h1,h2,h3⟩:=zMP h he h' (w:=w) (a:=a) (n:=n) (cap:=cap) (olds:=olds) iA hB hl eA hn fB oA ty (c':=c');have cA:∀b,b<w.heap.size->(w.drew.alloc (.cells (olds ++ aA ++ rest).toArray d.el)).heap[b]?=w.heap[b]?:=fun b hb=>Below.heap_alloc w.drew _ _ hb
     obtain⟨E',g1,g2,g3⟩:=zMB (w':=w.drew.alloc (.cells (olds ++ aA ++ rest).toArray d.el)) ho kA hr (k:=de.k) (n:=n+m) (f:=yX f n f') (a:=some ⟨w.heap.size,0,none⟩) (cap:=nA) (B:=w.heap.size) (c1:=olds ++ aA ++ rest) (T:=d.el) h1
      (fun _=>⟨rfl,rfl,rfl,by show _<=(w.heap.push _).size;simp,fun b x hb hl=>⟨cA b hl,by rw[if_neg (by omega)];exact hb⟩,fun b x l hb hl=>⟨fun j _=>World.cell?_of_block (w:=w) (cA b hl),.inl ⟨x,l,by rw[if_neg (by omega)];exact hb,Nat.le_refl _⟩⟩⟩)
      (fun e=>by omega) (fun b hb _=>cA b hb) (fun _=>.inl (Nat.le_refl _))
      (fun _=>⟨rfl,zID w.drew _,by rw[List.length_append,List.length_append,iA,hl,h2,<-Nat.add_mul,<-Nat.add_mul];congr 1;omega,jA olds rest iA holds⟩)
     exact⟨_,_,E',h3,g1,lA,g2,g3⟩
    rcases Nat.eq_zero_or_pos cap with e0 | e0
    ·subst e0;have en:n=0:=(by omega);subst en;rcases Nat.eq_zero_or_pos m with e | e
     ·subst e;obtain⟨E',g1,g2,g3⟩:=zMB (w':=w) ho kA hr (k:=de.k) (n:=0+0) (f:=yX f 0 f') (a:=a) (cap:=0) (B:=0) (c1:=[]) (T:=0) (Nat.le_refl _) (fun h=>by omega) (fun _=>Kp.refl _ _) (fun _ _ _=>rfl) (fun h=>by omega) (fun h=>by omega);exact⟨_,_,E',zJi h he h' hn ty,g1,lA,g2,g3⟩
     ·exact fA [] (by simp) (fun p j hp=>by omega) (fun h0=>by omega) (by omega)
    ·obtain⟨ha,hg,cs,T,hh,aB,bA⟩:=pA e0;subst ha;have nB:=Nat.mul_le_mul_right de.k hn;have cB:(cs.take (n*de.k)).length=n*de.k:=(by simp;omega);have holds:∀p j,p<n->j<de.k->∃u,(cs.take (n*de.k))[p*de.k+j]?=some u/\Sh w E.g (f p j) u:=fun p j hp hj=>by
      obtain⟨u,hu,dA⟩:=bA p j hp hj;exact⟨u,by rw[List.getElem?_take,if_pos (zEv hp hj)];exact hu,dA⟩
     by_cases hm:n+m<=cap
     ·rcases Nat.eq_zero_or_pos m with e | e
      ·subst e;have hk:Kp w E.g w (fun b=>if b=E.bl i then .ow (.nm r) ((n+0)*de.k)else E.g b):=by
        have:=Kp.turnL (w:=w) (o':=.nm r) hg (Nat.le_refl _) hh (c:=cs) (fun _ _=>rfl);rw[setRow_self _ _ _ T (0,0) hh]at this;exact this
       obtain⟨E',g1,g2,g3⟩:=zMB (w':=w) ho kA hr (k:=de.k) (n:=n+0) (f:=yX f n f') (a:=some ⟨E.bl i,0,none⟩) (cap:=cap) (B:=E.bl i) (c1:=cs) (T:=T) hm (fun _=>hk) (fun e=>by omega) (fun _ _ _=>rfl) (fun _=>.inr ⟨_,hg⟩) (fun _=>⟨rfl,hh,aB,fun p j hp hj=>by
        obtain⟨u,hu,dA⟩:=bA p j (by omega) hj;exact⟨u,hu,by unfold yX;rw[if_pos (by omega)];exact dA⟩⟩)
       exact⟨_,_,E',zJi h he h' hn ty,g1,lA,g2,g3⟩
      ·have ea:=vA e;subst ea;have iB:=zRQ h he h' hh aB hl eA rA hm ty (c':=c');have mB:(n+m)*de.k<=cap*de.k:=Nat.mul_le_mul_right _ hm;have kB:n*de.k+m*de.k=(n+m)*de.k:=(Nat.add_mul _ _ _).symm;obtain⟨E',g1,g2,g3⟩:=zMB (w':=w.setRow (E.bl i) (cs.take (n*de.k) ++ aA ++ cs.drop (n*de.k+aA.length)).toArray) ho kA hr (k:=de.k) (n:=n+m) (f:=yX f n f') (a:=some ⟨E.bl i,0,none⟩) (cap:=cap) (B:=E.bl i) (c1:=cs.take (n*de.k) ++ aA ++ cs.drop (n*de.k+aA.length)) (T:=T) hm
        (fun _=>Kp.turnL hg (by omega) hh (fun j hj=>by rw[List.append_assoc,List.getElem?_append_left (by omega),List.getElem?_take,if_pos hj])) (fun e=>by omega) (fun b hb gB=>zAB _ _ _ _ (fun e'=>gB ⟨e0,e'⟩)) (fun _=>.inr ⟨_,hg⟩)
        (fun _=>⟨rfl,setRow_heap _ _ _ _ _ _ hh,by simp;omega,jA _ _ cB holds⟩)
       exact⟨_,_,E',iB,g1,lA,g2,g3⟩
     ·exact fA _ cB holds (fun _=>⟨_,rfl,fun j u hj=>by
       rw[cell_of_row w _ _ _ T _ hh];rw[List.getElem?_take]at hj;split at hj
       ·simpa using hj
       ·cases hj⟩) (by omega)
   ·cases hd
  ·cases hd
 ·cases mA
def mvOf(k:Nat)(ob:List (Nat×Ob)):Cv->Option (Prop×Nat×Nat×Nat×Nat×(Nat->Nat->Tr))
 | .h i=>match get ob i with
  | some (.row k' n f)=>if k'=k then some (True,i,0,n,n,f)else none
  | _=>none
 | .hs i k' lo m=>match get ob i with
  | some (.row k2 n f)=>if k'=k/\k2=k then some (lo+m<=n,i,lo,m,n,f)else none
  | _=>none
 | _=>none
theorem zbQ{w:World}{E:En}{ob:List (Nat×Ob)}(ho:qO w E ob){k i lo m n:Nat}{f:Nat->Nat->Tr}{x:Cv}{C:Prop}(h:mvOf k ob x=some (C,i,lo,m,n,f))(hC:C){y:Value}(hy:CvR w E (dom ob) x y) :
  get ob i=some (.row k n f)/\lo+m<=n/\∃a c,y = .slice a m c/\(0<m->a=some ⟨E.bl i,lo*k,none⟩):=by
 unfold mvOf at h;split at h
 ·rename_i i'
  split at h
  ·rename_i k' n' f' hi
   split at h
   ·rename_i e
    subst e;cases h;obtain⟨a,cap,hv,hn,hc⟩:=ho _ _ hi;exact⟨hi,by omega,a,cap,hy.2.1.trans hv,fun h0=>by simpa using (hc (by omega)).1⟩
   ·cases h
  ·cases h
 ·rename_i i' k' lo' m'
  split at h
  ·rename_i k2 n' f' hi
   split at h
   ·rename_i e
    obtain⟨rfl,rfl⟩:=e;cases h;obtain⟨-,a,c,e,ha⟩:=hy;exact⟨hi,hC,a,c,e,ha⟩
   ·cases h
  ·cases h
 ·cases h
def ntR(F:Nat->Nat->Tr)(lo m:Nat):Nat->Nat->Tr:=fun p q=>if lo<=p/\p<lo+m then(F p q).nt else F p q
def evAppendM(de:TyD)(ob:List (Nat×Ob))(r:Nat)(x y:Cv):Option (Prop×List (Nat×Ob)):=
 match get ob r,dstOf de.k ob x,mvOf de.k ob y with
 | none,some (id,n,f),some (C,i,lo,m,N,F)=>if id≠some i then some (C/\n+m<=1000000000,put (put (zA7 ob id) i (.row de.k N (ntR F lo m))) r (.row de.k (n+m) (yX f n fun p q=>F (lo+p) q)))else none
 | _,_,_=>none
def Bs.rl(B B' lo hi to:Nat):Bs->Bs
 | .ow (.tl b c) l=>if b=B/\lo<=c/\c<hi then .ow (.tl B' (c - lo+to)) l else .ow (.tl b c) l
 | s=>s
theorem Bs.rl_nm{B B' lo hi to:Nat}{s:Bs}{i l:Nat}(h:s = .ow (.nm i) l):s.rl B B' lo hi to = .ow (.nm i) l:=by subst h;rfl
theorem zdz{w:World}{E:En}{ob:List (Nat×Ob)}(ho:qO w E ob){i r k N M n m lo:Nat}{F G:Nat->Nat->Tr}(hi:get ob i=some (.row k N F))(hr:get ob r=some (.row k M G))(vA:i≠r)(jB:lo+m<=N)(hM:M=n+m)
  (hG:∀p q,p<m->q<k->∃u,G (n+p) q = .v u/\w.cell? ⟨E.bl i,(lo+p)*k+q,none⟩=some u) :
  ∃E',E'.bl=E.bl/\E'.hv=E.hv/\ql (dom ob) w E w E'/\qO w E' (put (put ob i (.row k N (ntR F lo m))) r (.row k M (fun p q=>if p<n then G p q else F (lo+(p - n)) q))):=by
 have hk:Kp w E.g w (fun b=>(E.g b).rl (E.bl i) (E.bl r) (lo*k) ((lo+m)*k) (n*k)):=by
  refine⟨rfl,rfl,rfl,Nat.le_refl _,fun b x hb _=>⟨rfl,by rw[hb];rfl⟩,fun b o l hb _=>⟨fun _ _=>rfl,.inl ?_⟩⟩;rw[hb];cases o with
  | nm j=>exact⟨_,l,rfl,Nat.le_refl _⟩
  | tl b c=>
   simp only[Bs.rl];split
   ·exact⟨_,l,rfl,Nat.le_refl _⟩
   ·exact⟨_,l,rfl,Nat.le_refl _⟩
 have hx:ql (dom ob) w E w ⟨fun b=>(E.g b).rl (E.bl i) (E.bl r) (lo*k) ((lo+m)*k) (n*k),E.bl,E.hv⟩:=⟨hk,fun _ _=>rfl,fun _ _=>rfl⟩;have gB:dom ob i:=by unfold dom;rw[hi];rfl
 have iB:dom ob r:=by unfold dom;rw[hr];rfl
 have hD:∀j,dom ob j->dom (put (put ob i (.row k N (ntR F lo m))) r (.row k M (fun p q=>if p<n then G p q else F (lo+(p - n)) q))) j:=fun j hj=>qL (qL hj)
 obtain⟨ai,iA,fB,aB,bA⟩:=ho i _ hi;have rA:0<m->E.g (E.bl i) = .ow (.nm i) 0:=fun h0=>(bA (by omega)).2.1
 have eA:∀{j:Nat},0<m->E.g (E.bl j) = .ow (.nm j) 0->j≠i->E.bl j≠E.bl i:=fun h0 hj tA e=>by
  rw[e,rA h0]at hj;cases hj;exact tA rfl
 have cA:∀{B c:Nat} {T:Tr} {u:Value},¬(0<m/\B=E.bl i/\lo*k<=c/\c<(lo+m)*k)->zAb w E.g B c T u->zAb w (fun b=>(E.g b).rl (E.bl i) (E.bl r) (lo*k) ((lo+m)*k) (n*k)) B c T u:=fun {B c T u} hn=>by
  cases T with
  | v x=>exact id
  | s fl k2 n2 f2=>
   cases fl with
   | b=>exact id
   | z=>exact id
   | o=>
    rintro⟨a,cp,rfl,hc⟩;refine⟨a,cp,rfl,fun h0=>?_⟩;obtain⟨b,hb,dA,jA⟩:=hc h0;refine⟨b,hb,?_,jA⟩;show(E.g b).rl _ _ _ _ _=_;rw[dA];simp only[Bs.rl];rw[if_neg];rintro⟨h1,h2,h3⟩;refine hn ⟨?_,h1,h2,h3⟩;rcases Nat.eq_zero_or_pos m with e | e
    ·rw[e,Nat.add_zero]at h3;omega
    ·exact e
 refine⟨⟨fun b=>(E.g b).rl (E.bl i) (E.bl r) (lo*k) ((lo+m)*k) (n*k),E.bl,E.hv⟩,rfl,rfl,hx,fun j o hj=>?_⟩;rw[ze,ze]at hj;by_cases e:r=j
 ·subst e;rw[if_pos rfl]at hj;cases hj;obtain⟨a,cap,hv,hn,mA⟩:=ho r _ hr;refine⟨a,cap,hv,hn,fun h0=>?_⟩;obtain⟨ha,hg,cs,T,hh,hl,fA⟩:=mA h0;refine⟨ha,Bs.rl_nm hg,cs,T,hh,hl,fun p q hp hq=>?_⟩;obtain⟨u,hu,hs,ht⟩:=fA p q hp hq;refine⟨u,hu,?_⟩;by_cases pA:p<n
  ·simp only[if_pos pA];refine⟨hs.kp hk,cA (fun hx=>?_) ht⟩;exact eA hx.1 hg (fun e=>vA e.symm) hx.2.1
  ·simp only[if_neg pA];obtain⟨u',h1,h2⟩:=hG (p - n) q (by omega) hq;rw[show n+(p - n)=p by omega]at h1;rw[h1]at hs;obtain⟨rfl,-⟩:=hs;obtain⟨nA,gA,ci,Ti,kA,oA,aA⟩:=bA (by omega);obtain⟨v,eB,bB,cB⟩:=aA (lo+(p - n)) q (by omega) hq;rw[cell_of_row w _ _ _ Ti _ kA]at h2;simp only[List.getElem?_toArray]at h2;rw[eB]at h2;cases h2;refine⟨bB.kp hk,?_⟩;revert cB;cases F (lo+(p - n)) q with
   | v x=>exact id
   | s fl k2 n2 f2=>
    cases fl with
    | b=>exact id
    | z=>exact id
    | o=>
     rintro⟨a,cp,rfl,hc⟩;refine⟨a,cp,rfl,fun h0=>?_⟩;obtain⟨b,hb,dA,jA⟩:=hc h0;refine⟨b,hb,?_,jA⟩;show(E.g b).rl _ _ _ _ _=_;rw[dA];have e1:(lo+(p - n))*k=lo*k+(p - n)*k:=Nat.add_mul _ _ _;have e2:=zEv (show lo+(p - n)<lo+m by omega) hq;have e3:p*k=n*k+(p - n)*k:=(by rw[<-Nat.add_mul];congr 1;omega);simp only[Bs.rl];rw[if_pos ⟨by first | trivial | rfl,by omega,e2⟩];congr 2;omega
 ·rw[if_neg e]at hj;by_cases e':i=j
  ·rw[if_pos e']at hj;cases hj;subst e';refine⟨ai,iA,fB,aB,fun h0=>?_⟩;obtain⟨nA,gA,ci,Ti,kA,oA,aA⟩:=bA h0;refine⟨nA,Bs.rl_nm gA,ci,Ti,kA,oA,fun p q hp hq=>?_⟩;obtain⟨u,hu,hs,ht⟩:=aA p q hp hq;by_cases lA:lo<=p/\p<lo+m
   ·rw[show ntR F lo m p q=(F p q).nt by unfold ntR;rw[if_pos lA]];exact⟨u,hu,hs.nt.kp hk,Tr.nt_tail⟩
   ·rw[show ntR F lo m p q=F p q by unfold ntR;rw[if_neg lA]];refine⟨u,hu,hs.kp hk,cA (fun hx=>lA ?_) ht⟩;obtain⟨h1,-,h2,h3⟩:=hx;constructor
    ·rcases Nat.lt_or_ge p lo with h4 | h4
     ·have:=zEv h4 hq;omega
     ·exact h4
    ·rcases Nat.lt_or_ge p (lo+m)with h4 | h4
     ·exact h4
     ·have:=Nat.mul_le_mul_right k h4;omega
  ·rw[if_neg e']at hj;have hd:dom ob j:=(by unfold dom;rw[hj];rfl);refine ObR.ext hx hD hd (X:=fun b=>(E.g b).rl (E.bl i) (E.bl r) (lo*k) ((lo+m)*k) (n*k)≠E.g b) (fun b _ hb=>⟨rfl,Classical.not_not.1 hb⟩) (fun b l hb dA=>hb (by rw[dA];rfl)) (fun sA b j' l hb dA=>?_) (ho j o hj);apply hb;rw[dA];simp only[Bs.rl];rw[if_neg];rintro⟨h1,h2,h3⟩;have h0:0<m:=by
    rcases Nat.eq_zero_or_pos m with e | e
    ·rw[e,Nat.add_zero]at h3;omega
    ·exact e
   exact eA h0 sA (fun e=>e' e.symm) h1
theorem zQK{P:Program}{t:Nat}{d de:TyD}(h:zAr P t d)(he:d.el≠0)(h':zAr P d.el de){w:World}{E:En}{ob ob':List (Nat×Ob)}(ho:qO w E ob){r:Nat}{x y:Cv}{c:Prop}(eA:evAppendM de ob r x y=some (c,ob'))(hc:c){u v:Value}(hu:CvR w E (dom ob) x u)(hv:CvR w E (dom ob) y v)(ty:Nat) :
  ∃z w' E',(Builtin.append_ #[t,t] ty #[u,v]).run P w = .ok z w'/\ql (dom ob) w E w' E'/\(∀j,dom ob j->dom ob' j)/\qO w' E' ob'/\AvR w' E' (dom ob') (.m false [.h r]) z:=by
 unfold evAppendM at eA;split at eA
 ·rename_i id n f C i lo m N F hr hd hs
  split at eA
  ·rename_i lA
   cases eA;obtain⟨hC,fA⟩:=hc;obtain⟨hi,tA,a',c',rfl,nA⟩:=zbQ ho hs hC hv;obtain⟨ai,mA,fB,eB,cA⟩:=ho i _ hi;have jA:dom ob i:=(by unfold dom;rw[hi];rfl);have kA:i≠r:=zHe jA hr;obtain⟨U,hU⟩:∃U:Nat->Nat->Value,∀p q,p<m->q<de.k->w.cell? ⟨E.bl i,(lo+p)*de.k+q,none⟩=some (U p q)/\(U p q).oneCell'=true:=by
    refine⟨fun p q=>(w.cell? ⟨E.bl i,(lo+p)*de.k+q,none⟩).getD (.bool false),fun p q hp hq=>?_⟩;obtain⟨oA,dA,ci,Ti,iA,sA,aA⟩:=cA (by omega);obtain⟨v,cB,bB,-⟩:=aA (lo+p) q (by omega) hq;have:w.cell? ⟨E.bl i,(lo+p)*de.k+q,none⟩=some v:=by
     rw[cell_of_row w _ _ _ Ti _ iA];simpa using cB
    simp only[this,Option.getD_some];exact⟨trivial,bB.one⟩
   obtain⟨z,w',E1,g1,g2,g3,g4,g5,g6⟩:=zLH h he h' ho hr hd fA (f':=fun p q=>.v (U p q)) (v:=.slice a' m c') hu (fun _ _ _ _ _=>trivial) ⟨a',c',rfl,fun h0=>⟨_,_,nA h0,fun p q hp hq=>⟨U p q,by rw[<-Nat.add_assoc,<-Nat.add_mul];exact(hU p q hp hq).1,rfl,(hU p q hp hq).2⟩⟩⟩ ty;have rA:get (zA7 ob id) i=some (.row de.k N F):=by
    cases id with
    | none=>exact hi
    | some q=>show get (put ob q .dead) i=_;rw[ze,if_neg (fun e=>lA (by rw[e]))];exact hi
   have pA:get (put (zA7 ob id) r (.row de.k (n+m) (yX f n fun p q=>.v (U p q)))) i=some (.row de.k N F):=by
    rw[ze,if_neg (fun e=>kA e.symm)];exact rA
   obtain⟨E2,e1,e2,k1,k2⟩:=zdz g4 pA (by rw[ze,if_pos rfl]) kA tA rfl (fun p q hp hq=>by
    refine⟨U p q,by unfold yX;rw[if_neg (by omega),Nat.add_sub_cancel_left],?_⟩;obtain⟨oA,dA,ci,Ti,iA,sA,aA⟩:=cA (by omega);have vA:=(Array.getElem?_eq_some_iff.1 iA).1;obtain⟨h1,-⟩:=g6 (E.bl i) vA (fun q' aB=>⟨fun l hl=>by rw[dA]at hl;cases hl;exact lA aB,fun j l hl=>by rw[dA]at hl;cases hl⟩);rw[g2.bl i jA,<-(hU p q hp hq).1];exact World.cell?_of_block (w:=w) h1)
   have bA:∀j,get (put (put (put (zA7 ob id) r (.row de.k (n+m) (yX f n fun p q=>.v (U p q)))) i (.row de.k N (ntR F lo m))) r (.row de.k (n+m) (fun p q=>if p<n then yX f n (fun p q=>.v (U p q)) p q else F (lo+(p - n)) q))) j=get (put (put (zA7 ob id) i (.row de.k N (ntR F lo m))) r (.row de.k (n+m) (yX f n fun p q=>F (lo+p) q))) j:=fun j=>by
    have ef:(fun p q=>if p<n then yX f n (fun p q=>.v (U p q)) p q else F (lo+(p - n)) q)=yX f n fun p q=>F (lo+p) q:=by
     funext p q;unfold yX;split<;>rfl
    rw[ef];simp only[ze];by_cases e:r=j
    ·simp[e]
    ·simp[e]
   have gA:dom (put (put (put (zA7 ob id) r (.row de.k (n+m) (yX f n fun p q=>.v (U p q)))) i (.row de.k N (ntR F lo m))) r (.row de.k (n+m) (fun p q=>if p<n then yX f n (fun p q=>.v (U p q)) p q else F (lo+(p - n)) q)))=dom (put (put (zA7 ob id) i (.row de.k N (ntR F lo m))) r (.row de.k (n+m) (yX f n fun p q=>F (lo+p) q))):=by
    funext j;unfold dom;rw[bA]
   refine⟨z,w',E2,g1,⟨g2.kp.trans k1.kp,fun j hj=>(k1.bl j (g3 j hj)).trans (g2.bl j hj),fun j hj=>(k1.hv j (g3 j hj)).trans (g2.hv j hj)⟩,fun j hj=>?_,fun j o hj=>?_,?_⟩
   ·rw[<-gA];exact qL (qL (g3 j hj))
   ·rw[<-gA];exact k2 j o (by rw[bA];exact hj)
   ·rw[<-gA];exact g5.ext k1 (fun j hj=>qL (qL hj))
  ·cases eA
 ·cases eA
def zBX(P:Program)(f:Nat):Prop:=∀(args:Array Value) (w:World),(callFunc f args).run P w = .ok (.enter f args) w
structure zB5 (P:Program) (Γ : List (Nat×zX)) (w:World):Prop where
  a:∀f sp,f<1000000->get Γ f=some sp->zDX P f sp w/\zBX P f
  k:∀f sp,f<1000000->get Γ (f+1000000)=some sp->zDX P f sp w/\zBX P f
  p:∀f sp,f<1000000->get Γ (f+2000000)=some sp->zGK P f sp w/\zBX P f
  pk:∀f sp,f<1000000->get Γ (f+3000000)=some sp->zGK P f sp w/\zBX P f
  n:∀f sp,f<1000000->get Γ (f+4000000)=some sp->zJf P f sp w/\zBX P f
  o:∀f sp,f<1000000->get Γ (f+5000000)=some sp->zJg P f sp w/\zBX P f
def GOk(P:Program)(Γ : List (Nat×zX)):Prop:=∀w,zB5 P Γ w
theorem zB5.nil{P:Program}{w:World}:zB5 P [] w:=⟨fun _ _ _ h=>(by cases h),fun _ _ _ h=>(by cases h),fun _ _ _ h=>(by cases h),fun _ _ _ h=>(by cases h),fun _ _ _ h=>(by cases h),fun _ _ _ h=>(by cases h)⟩
theorem zGO{α : Type}{Γ : List (Nat×α)}{k g:Nat}{x y:α}(h:get ((k,x) :: Γ) g=some y):(k=g/\x=y)\/get Γ g=some y:=by
  simp only[get]at h;split at h
  · rename_i e;cases h;exact .inl ⟨e,rfl⟩
  · exact .inr h
section
variable {P : Program} {w : World} {Γ : List (Nat × zX)} {f : Nat} {sp : zX}
theorem zB5.putA(hf:f<1000000)(h:zDX P f sp w)(he:zBX P f)(hr:zB5 P Γ w):zB5 P ((f,sp) :: Γ) w:=by
  refine⟨fun g s hg h'=>?_,fun g s hg h'=>?_,fun g s hg h'=>?_,fun g s hg h'=>?_,fun g s hg h'=>?_,fun g s hg h'=>?_⟩<;>rcases zGO h' with⟨e,e'⟩ | aA
  all_goals first
    | omega
    | (obtain rfl:f=g:=by omega
       subst e';exact⟨h,he⟩)
    | exact hr.a g s hg aA
    | exact hr.k g s hg aA
    | exact hr.p g s hg aA
    | exact hr.pk g s hg aA
    | exact hr.n g s hg aA
    | exact hr.o g s hg aA
theorem zB5.putK(hf:f<1000000)(h:zDX P f sp w)(he:zBX P f)(hr:zB5 P Γ w):zB5 P ((f+1000000,sp) :: Γ) w:=by
  refine⟨fun g s hg h'=>?_,fun g s hg h'=>?_,fun g s hg h'=>?_,fun g s hg h'=>?_,fun g s hg h'=>?_,fun g s hg h'=>?_⟩<;>rcases zGO h' with⟨e,e'⟩ | aA
  all_goals first
    | omega
    | (obtain rfl:f=g:=by omega
       subst e';exact⟨h,he⟩)
    | exact hr.a g s hg aA
    | exact hr.k g s hg aA
    | exact hr.p g s hg aA
    | exact hr.pk g s hg aA
    | exact hr.n g s hg aA
    | exact hr.o g s hg aA
theorem zB5.putP(hf:f<1000000)(h:zGK P f sp w)(he:zBX P f)(hr:zB5 P Γ w):zB5 P ((f+2000000,sp) :: Γ) w:=by
  refine⟨fun g s hg h'=>?_,fun g s hg h'=>?_,fun g s hg h'=>?_,fun g s hg h'=>?_,fun g s hg h'=>?_,fun g s hg h'=>?_⟩<;>rcases zGO h' with⟨e,e'⟩ | aA
  all_goals first
    | omega
    | (obtain rfl:f=g:=by omega
       subst e';exact⟨h,he⟩)
    | exact hr.a g s hg aA
    | exact hr.k g s hg aA
    | exact hr.p g s hg aA
    | exact hr.pk g s hg aA
    | exact hr.n g s hg aA
    | exact hr.o g s hg aA
theorem zB5.putQ(hf:f<1000000)(h:zGK P f sp w)(he:zBX P f)(hr:zB5 P Γ w):zB5 P ((f+3000000,sp) :: Γ) w:=by
  refine⟨fun g s hg h'=>?_,fun g s hg h'=>?_,fun g s hg h'=>?_,fun g s hg h'=>?_,fun g s hg h'=>?_,fun g s hg h'=>?_⟩<;>rcases zGO h' with⟨e,e'⟩ | aA
  all_goals first
    | omega
    | (obtain rfl:f=g:=by omega
       subst e';exact⟨h,he⟩)
    | exact hr.a g s hg aA
    | exact hr.k g s hg aA
    | exact hr.p g s hg aA
    | exact hr.pk g s hg aA
    | exact hr.n g s hg aA
    | exact hr.o g s hg aA
theorem zB5.putN(hf:f<1000000)(h:zJf P f sp w)(he:zBX P f)(hr:zB5 P Γ w):zB5 P ((f+4000000,sp) :: Γ) w:=by
  refine⟨fun g s hg h'=>?_,fun g s hg h'=>?_,fun g s hg h'=>?_,fun g s hg h'=>?_,fun g s hg h'=>?_,fun g s hg h'=>?_⟩<;>rcases zGO h' with⟨e,e'⟩ | aA
  all_goals first
    | omega
    | (obtain rfl:f=g:=by omega
       subst e';exact⟨h,he⟩)
    | exact hr.a g s hg aA
    | exact hr.k g s hg aA
    | exact hr.p g s hg aA
    | exact hr.pk g s hg aA
    | exact hr.n g s hg aA
    | exact hr.o g s hg aA
theorem zB5.putO(hf:f<1000000)(h:zJg P f sp w)(he:zBX P f)(hr:zB5 P Γ w):zB5 P ((f+5000000,sp) :: Γ) w:=by
  refine⟨fun g s hg h'=>?_,fun g s hg h'=>?_,fun g s hg h'=>?_,fun g s hg h'=>?_,fun g s hg h'=>?_,fun g s hg h'=>?_⟩<;>rcases zGO h' with⟨e,e'⟩ | aA
  all_goals first
    | omega
    | (obtain rfl:f=g:=by omega
       subst e';exact⟨h,he⟩)
    | exact hr.a g s hg aA
    | exact hr.k g s hg aA
    | exact hr.p g s hg aA
    | exact hr.pk g s hg aA
    | exact hr.n g s hg aA
    | exact hr.o g s hg aA
theorem GOk.nil:GOk P []:=fun _=>zB5.nil
theorem GOk.cons(h:zy P f sp)(he:zBX P f)(hr:GOk P Γ)(hf:f<1000000:=by decide):GOk P ((f,sp) :: Γ):=fun w=>zB5.putA hf (h w) he (hr w)
theorem GOk.keep(h:zy P f sp)(he:zBX P f)(hr:GOk P Γ)(hf:f<1000000:=by decide):GOk P ((f+1000000,sp) :: Γ):=fun w=>zB5.putK hf (h w) he (hr w)
theorem GOk.ptr(h:zBv P f sp)(he:zBX P f)(hr:GOk P Γ)(hf:f<1000000:=by decide):GOk P ((f+2000000,sp) :: Γ):=fun w=>zB5.putP hf (h w) he (hr w)
theorem GOk.ptrK(h:zBv P f sp)(he:zBX P f)(hr:GOk P Γ)(hf:f<1000000:=by decide):GOk P ((f+3000000,sp) :: Γ):=fun w=>zB5.putQ hf (h w) he (hr w)
theorem GOk.own(h:zP9 P f sp)(he:zBX P f)(hr:GOk P Γ)(hf:f<1000000:=by decide):GOk P ((f+5000000,sp) :: Γ):=fun w=>zB5.putO hf (h w) he (hr w)
theorem GOk.new(h:zP8 P f sp)(he:zBX P f)(hr:GOk P Γ)(hf:f<1000000:=by decide):GOk P ((f+4000000,sp) :: Γ):=fun w=>zB5.putN hf (h w) he (hr w)
end
def partsOf:List (Nat×Operand)->List Av->Option (List (Nat×List Cv))
  | [],[]=>some []
  | (i,_) :: r,.m _ c :: s=>match partsOf r s with
    | some q=>some ((i,c) :: q)
    | none=>none
  | _,_=>none
def shp:Option Ob->Option (Nat×Nat)
  | some (.row k n _)=>some (k,n)
  | _=>none
def evSlice(ob:List (Nat×Ob))(k:Nat)(lo hi:Option Operand):List Av->Option (Prop×Cv)
  | [.m false [.s fl k' n f],.m false [.v (.int _ x)]]=>if k'=k then match lo,hi with
    | none,some _=>some (0<=x/\x<=n,.s fl k x.toNat f)
    | some _,none=>some (0<=x/\x<=n,.s fl k (n - x.toNat) fun p q=>f (x.toNat+p) q)
    | _,_=>none
    else none
  | [.m false [.h i],.m false [.v (.int _ x)]]=>match shp (get ob i)with
    | some (k',n)=>if k'=k then match lo,hi with
      | none,some _=>some (0<=x/\x<=n,.hs i k 0 x.toNat)
      | some _,none=>some (0<=x/\x<=n,.hs i k x.toNat (n - x.toNat))
      | _,_=>none
      else none
    | none=>none
  | _=>none
def evLd(T:Tb)(t:Nat)(d:TyD)(ob:List (Nat×Ob))(dst:Option Nat)(x:Cv):Option Dl:=
  match (if t=T.tk/\d.k=1/\d.g=false then dst else none).bind fun i=>evTake ob (rid i 0) x with
  | some q=>some ⟨q.1,dst.map fun i=>.m false [.h (rid i 0)],q.2,true⟩
  | none=>match evLoad d ob x with
    | some q=>some ⟨q.1,some q.2,ob,false⟩
    | none=>none
def evSt(d:TyD)(ob:List (Nat×Ob))(c:List Cv)(x:Cv):Option (Prop×List (Nat×Ob)):=
  match c,x with
  | [.h r],.e i k a j=>evStoreH d ob r (.e i k a j)
  | _,.e i k a j=>evStore d (frz c ob).2 (frz c ob).1 (.e i k a j)
  | _,_=>evStore d ob c x
def zAe(T:Tb)(t:Nat)(de:TyD)(ob:List (Nat×Ob))(r:Nat)(x y:Cv):Option (Prop×List (Nat×Ob)):=
  match if t=T.mv then evAppendM de ob r x y else none with
  | some q=>some q
  | none=>match evAppendT de ob r x y with
    | some q=>some q
    | none=>evAppend de ob r x y
def evField(d:TyD)(f:Nat)(c:List Cv):Option Av:=
  match d.fs[f]? with
  | some q=>if q.1+q.2<=c.length then some (.m (q.2 != 1) ((c.drop q.1).take q.2))else none
  | none=>none
def zcb:Tr->Int
  | .v (.int _ x)=>x
  | _=>0
def zV9(n:Nat)(f:Nat->Nat->Tr):ByteArray:=strOfNums ((List.range n).map fun p=>zcb (f p 0))
def evConv(T:Tb)(src dst:Nat)(ob:List (Nat×Ob)):Cv->Option (Prop×Value)
  | .v (.int _ x)=>match T.ik src,T.ik dst with
    | some _,some k=>some (True,.int k (k.wrap x))
    | _,_=>none
  | .h i=>match rowE ob i with
    | some (k,n,f)=>if src=T.by'/\dst=T.sx/\k=1 then some (∀p,p<n->∃x,f p 0 = .v (.int .u8 x),.string (zV9 n f))else none
    | none=>none
  | _=>none
def evC(Γ : List (Nat×zX))(f i:Nat)(ob:List (Nat×Ob))(r:List Av):Option Dl:=
  if f<1000000 then match get Γ f with
    | some sp=>evCall false sp i ob r
    | none=>match get Γ (f+1000000)with
      | some sp=>evCall true sp i ob r
      | none=>match get Γ (f+4000000)with
        | some sp=>evCallN sp i ob r
        | none=>match get Γ (f+5000000)with
         | some sp=>evCallO sp i ob r
         | none=>match r with
          | .m false [.p j 0] :: r'=>match get Γ (f+2000000)with
            | some sp=>evCallP false sp i j ob r'
            | none=>match get Γ (f+3000000)with
              | some sp=>evCallP true sp i j ob r'
              | none=>none
          | _=>none
  else none
def coreU(T:Tb)(Γ : List (Nat×zX))(dst:Option Nat)(ob:List (Nat×Ob))(op:Op)(l:List Av):Option Dl:=
  match op with
  | .move _=>match l with | [x]=>some ⟨True,some x,ob,false⟩ | _=>none
  | .assign _=>match l with | [x]=>some ⟨True,some x,ob,false⟩ | _=>none
  | .nilCheck _=>match l with | [.m false [.p i o]]=>some ⟨True,some (.m false [.p i o]),ob,false⟩ | _=>none
  | .unOp .not _ _=>match l with | [.m false [.v (.bool b)]]=>some ⟨True,some (.m false [.v (.bool !b)]),ob,false⟩ | _=>none
  | .binOp o t _ _ _=>match l with
    | [x,y]=>match bin T o t x y with
      | some q=>some ⟨q.1,some (.m false [.v q.2]),ob,false⟩
      | none=>none
    | _=>none
  | .alloc t=>match l,T.ty t,dst with
    | [],some d,some i=>match evAlloc d ob i with
      | some ob'=>some ⟨True,some (.m false [.p i 0]),ob',true⟩
      | none=>none
    | _,_,_=>none
  | .box t _=>match l,dst with
    | [.m _ c],some i=>match zAn ob i c with
      | some ob'=>some ⟨True,some (.m false [.p i 0]),ob',true⟩
      | none=>none
    | _,_=>none
  | .load t _=>match l,T.ty t with
    | [.m false [x]],some d=>evLd T t d ob dst x
    | _,_=>none
  | .store t _ _=>match l,T.ty t,dst with
    | [.m false [x],.m _ c],some d,none=>match evSt d ob c x with
      | some q=>some ⟨q.1,none,q.2,true⟩
      | none=>none
    | _,_,_=>none
  | .fieldAddr t _ f=>match l,T.ty t with
    | [.m false [x]],some d=>match d.fs[f]?,x with
      | some q,.p i o=>some ⟨True,some (.m false [.p i (o+q.1)]),ob,false⟩
      | some q,.e i k a j=>some ⟨True,some (.m false [.e i k a (j+q.1)]),ob,false⟩
      | some q,.q fl k n g a j=>some ⟨True,some (.m false [.q fl k n g a (j+q.1)]),ob,false⟩
      | _,_=>none
    | _,_=>none
  | .indexAddr t _ _=>match l,T.ty t with
    | [.m false [x],.m false [.v (.int _ ix)]],some d=>match T.ty d.el,x with
      | some de,.s fl k n g=>if k=de.k/\d.el≠0 then some ⟨0<=ix/\ix<n,some (.m false [.q fl k n g ix.toNat 0]),ob,false⟩else none
      | some de,.h i=>match get ob i with
        | some (.row k n g)=>if k=de.k/\d.el≠0 then some ⟨0<=ix/\ix<n,some (.m false [.e i k ix.toNat 0]),ob,false⟩else none
        | _=>none
      | _,_=>none
    | _,_=>none
  | .index t _ _=>match l with
    | [.m false [.v (.string s)],.m false [.v (.int _ ix)]]=>if t=T.sx then some ⟨0<=ix/\ix<s.size,some (.m false [.v (.int .u8 ((s[ix.toNat]?).getD 0).toNat)]),ob,false⟩else none
    | _=>none
  | .extract _ ix=>match l with
    | [.t q]=>match q[ix]? with
      | some r=>some ⟨True,some (.m r.1 r.2),ob,false⟩
      | none=>none
    | _=>none
  | .build t ps=>match T.ty t,partsOf ps.toList l with
    | some d,some q=>match fillC (fun f=>d.fs[f]?) (d.z.map .v) q with
      | some c=>if d.fs.isEmpty then none else some ⟨True,some (.m true c),ob,false⟩
      | none=>none
    | _,_=>none
  | .buildSlice t n ps=>match T.ty t,partsOf ps.toList l,dst with
    | some d,some q,some i=>match T.ty d.el with
      | some de=>match zU de ob (rid i 0) n q with
        | some ob'=>if d.el=0 then none else some ⟨True,some (.m false [.h (rid i 0)]),ob',true⟩
        | none=>none
      | none=>none
    | _,_,_=>none
  | .slice t _ lo hi none=>match T.ty t with
    | some d=>match T.ty d.el with
      | some de=>match evSlice ob de.k lo hi l with
        | some q=>if d.el=0 then none else some ⟨q.1,some (.m false [q.2]),ob,false⟩
        | none=>none
      | none=>none
    | none=>none
  | .makeSlice t _ _=>match l,T.ty t,dst with
    | [.m false [.v (.int _ x)],.m false [.v (.int _ y)]],some d,some i=>match T.ty d.el with
      | some de=>match evMakeSlice de ob (rid i 0) x with
        | some ob'=>if d.el=0 then none else some ⟨y=x/\0<=x/\x<=1000000,some (.m false [.h (rid i 0)]),ob',true⟩
        | none=>none
      | none=>none
    | _,_,_=>none
  | .call ⟨.builtin .len,_,tys⟩=>match l with
    | [.m false [.v (.string s)]]=>if tys.toList = [T.sx] then some ⟨True,some (.m false [.v (.int .i64 s.size)]),ob,false⟩else none
    | [.m false [x]]=>match tys.toList with
      | [t]=>match T.ty t,evLen ob x with
        | some d,some n=>if d.el=0 then none else some ⟨True,some (.m false [.v (.int .i64 n)]),ob,false⟩
        | _,_=>none
      | _=>none
    | _=>none
  | .call ⟨.builtin .append,_,tys⟩=>match l,tys.toList,dst with
    | [.m false [x],.m false [y]],[t,t'],some i=>match T.ty t with
      | some d=>match T.ty d.el with
        | some de=>match zAe T t de ob (rid i 0) x y with
          | some q=>if t'=t/\d.el≠0 then some ⟨q.1,some (.m false [.h (rid i 0)]),q.2,true⟩else none
          | none=>none
        | none=>none
      | none=>none
    | _,_,_=>none
  | .call ⟨.value (.func f),args,_⟩=>match l,dst with
    | _ :: r,some i=>evC Γ f i ob r
    | _,_=>none
  | .field t _ f=>match l,T.ty t with
    | [.m true c],some d=>match evField d f c with
      | some av=>some ⟨True,some av,ob,false⟩
      | none=>none
    | _,_=>none
  | .convert src t _=>match l with
    | [.m false [x]]=>match evConv T src t ob x with
      | some q=>some ⟨q.1,some (.m false [.v q.2]),ob,false⟩
      | none=>none
    | _=>none
  | _=>none
def zA1(T:Tb)(Γ : List (Nat×zX))(dst:Option Nat)(ob:List (Nat×Ob))(op:Op)(l:List Av):Option Dl:=coreU T Γ dst ob op l
def zXj(E:En)(w:World)(ob:List (Nat×Ob))(o:Oper)(a:Act)(D:Dl):Act->World->Prop:=fun a' w'=>
  ∃y E',a'=a.put o.dst y/\ql (dom ob) w E w' E'/\(∀j,dom ob j->dom D.ob j)/\qO w' E' D.ob/\∀av,D.av=some av->AvR w' E' (dom D.ob) av y
section
variable {P : Program} {a : Act} {w : World} {o : Oper} {K : Act -> World -> Prop} {Q : Exit -> Act -> World -> Prop}
theorem yi{s:Sem Value}{z:Value}{w':World}(h:execOp a.eval o=(do pure (.value (<-s))))(hr:s.run P w = .ok z w')(hK:K (a.put o.dst z) w'):o.wp P a w K Q:=by
  unfold Oper.wp;rw[h];simp only[Sem.run_bind,hr,Result.andThen_ok];exact hK
theorem zQ8{s:Sem Unit}{w':World}(h:execOp a.eval o=(do s;pure .skip))(hr:s.run P w = .ok () w')(hK:K (a.put o.dst undef) w'):o.wp P a w K Q:=by
  unfold Oper.wp;rw[h];simp only[Sem.run_bind,hr,Result.andThen_ok];exact hK
end
theorem zRP{α β : Type}{R:α->β->Prop}{l:List β}(h:qE R [] l):l = []:=by cases h;rfl
theorem zCf{α β : Type}{R:α->β->Prop}{x:α}{l:List β}(h:qE R [x] l):∃y,l = [y]/\R x y:=by
  cases h with
  | cons h t=>cases t;exact⟨_,rfl,h⟩
theorem zCN{α β : Type}{R:α->β->Prop}{x x':α}{l:List β}(h:qE R [x,x'] l):∃y y',l = [y,y']/\R x y/\R x' y':=by
  cases h with
  | cons h t=>
    obtain⟨y',rfl,h'⟩:=zCf t;exact⟨_,y',rfl,h,h'⟩
theorem zJJ{w:World}{E:En}{D:Nat->Prop}{a:Act}:∀{ps:List (Nat×Operand)} {l:List Av} {q:List (Nat×List Cv)},partsOf ps l=some q->qE (fun x av=>AvR w E D av (a.eval x)) (ps.map (·.2)) l->
    qE (fun (p:Nat×List Cv) (v:Nat×Value)=>p.1=v.1/\CsR w E D p.2 v.2.cells.toList) q (ps.map fun p=>(p.1,a.eval p.2))
  | [],l,q,h,hl=>by
    have:=zRP hl;subst this;cases h;exact .nil
  | (i,x) :: r,l,q,h,hl=>by
    cases hl with
    | @cons _ av _ l' h1 t=>
      cases av with
      | m g c=>
        simp only[partsOf]at h;split at h
        · rename_i q' hq'
          cases h;exact .cons ⟨rfl,VlR.cells h1⟩ (zJJ hq' t)
        · cases h
      | t l=>cases h
theorem Same.after{E:En}{w:World}{ob:List (Nat×Ob)}{o:Oper}{a:Act}{c:Prop}{x:Av}{z:Value}(ho:qO w E ob)(h:AvR w E (dom ob) x z):zXj E w ob o a ⟨c,some x,ob,false⟩ (a.put o.dst z) w:=
  ⟨z,E,rfl,ql.refl _ _ _,fun _ h=>h,ho,fun av e=>by cases e;exact h⟩
theorem av1{w:World}{E:En}{D:Nat->Prop}{x:Cv}{y:Value}(h:CvR w E D x y):AvR w E D (.m false [x]) y:=⟨x,rfl,h⟩
end Go.Proofs.YtjganmlaooofoaaGreatDoor
