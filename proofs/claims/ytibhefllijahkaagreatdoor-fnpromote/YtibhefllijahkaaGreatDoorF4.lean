/- A part of the proof. -/
import Derived.Test.YtibhefllijahkaaGreatDoorF3
import Derived.Laws.BytesArg
set_option linter.unusedVariables false
set_option maxRecDepth 20000
set_option maxHeartbeats 4000000
namespace Go.Proofs.YtibhefllijahkaaGreatDoor
open Go.RowKit
variable{w:World}{B i:Nat}
theorem Kp.turnL{g:Nat->Bs}{a:Nat}{o o':Ow}(h:g B = .ow o i)(m:i<=a){c0:List Value}{T:TypeId}(n:w.heap[B]?=some (.cells c0.toArray T (0,0))){c:List Value}(s:∀j,j<i->c[j]?=c0[j]?):Kp w g (w.setRow B c.toArray) (fun b=>if b=B then .ow o' a else g b):=by
 refine⟨rfl,rfl,rfl,by simp[World.setRow],fun b r d t=>?_,fun b q l d t=>?_⟩
 ·have k:b≠B:=fun e=>by rw[e,h]at d;cases d
  exact⟨Fu w B _ b k,by rw[if_neg k];exact d⟩
 ·by_cases e:b=B
  ·subst e;rw[h]at d;cases d;refine⟨fun j p=>?_,.inl ⟨o',a,if_pos rfl,m⟩⟩;rw[cell_of_row _ _ _ _ T _ (setRow_heap _ _ _ _ _ _ n),cell_of_row _ _ _ _ T _ n];simpa using s j p
  ·exact⟨fun j p=>World.cell?_of_block (w:=w) (Fu w B _ b e),.inl ⟨q,l,by rw[if_neg e];exact d,Nat.le_refl _⟩⟩
def tlOf(k:Nat)(ob:List (Nat×Ob)):Cv->Option (Nat×Nat×(Nat->Nat->Tr))
 | .h i=>match get ob i with
  | some (.tl k' n f)=>if k'=k then some (i,n,f)else none
  | _=>none
 | _=>none
def evAppendT(de:TyD)(ob:List (Nat×Ob))(r:Nat)(x y:Cv):Option (Prop×List (Nat×Ob)):=
 match get ob r,tlOf de.k ob x,srcOf de.k ob y with
 | none,some (i,n,f),some (C,m,f')=>some (C/\n+m<=1000000000,put (put ob i .dead) r (.tl de.k (n+m) (Ai f n f')))
 | _,_,_=>none
variable{E:En}{ob:List (Nat×Ob)}{r k n:Nat}{f:Nat->Nat->Tr}
theorem Ng{w':World}(U:AR w E ob)(hi:dom ob i)(Y:get ob r=none){a:Option Addr}{cap:Nat}{c1:List Value}{T:TypeId}(hn:n<=cap)
 (S:0<cap->Kp w E.g w' (fun b=>if b=B then .ow (.nm r) (n*k)else E.g b)) (I:cap=0->Kp w E.g w' E.g) (t:∀b,b<w.heap.size->¬(0<cap/\b=B)->w'.heap[b]?=w.heap[b]?) (O:0<cap->w.heap.size<=B\/∃o,E.g B = .ow (.nm i) o)
 (P:0<cap->a=some ⟨B,0,none⟩/\w'.heap[B]?=some (.cells c1.toArray T (0,0))/\c1.length=cap*k/\∀p j,p<n->j<k->∃u,c1[p*k+j]?=some u/\Sh w E.g (f p j) u) :
 ∃F,AV (dom ob) w E w' F/\AR w' F (put (put ob i .dead) r (.tl k n f))/\AvR w' F (dom (put (put ob i .dead) r (.tl k n f))) (.m false [.h r]) (.slice a n cap):=by
 have C:∀j,dom ob j->j≠r:=fun j c=>Ir c Y
 obtain⟨g',A,H,G⟩:∃g':Nat->Bs,Kp w E.g w' g'/\(∀b,¬(0<cap/\b=B)->g' b=E.g b)/\(0<cap->g' B = .ow (.nm r) (n*k)):=by
  rcases Nat.eq_zero_or_pos cap with e | e
  ·exact⟨E.g,I e,fun _ _=>rfl,fun h=>by omega⟩
  ·exact⟨_,S e,fun b s=>if_neg (fun y=>s ⟨e,y⟩),fun _=>if_pos rfl⟩
 have K:AV (dom ob) w E w' ⟨g',fun j=>if j=r then B else E.bl j,fun j=>if j=r then .slice a n cap else E.hv j⟩:=⟨A,fun j c=>if_neg (C j c),fun j c=>if_neg (C j c)⟩;refine⟨_,K,fun j b c=>?_,.h r,rfl,by unfold dom;rw[B8,if_pos rfl];rfl,by simp,rfl⟩;rw[B8,B8]at c;by_cases e:r=j
 ·subst e;rw[if_pos rfl]at c;cases c;refine⟨a,cap,by simp,hn,fun D=>?_⟩;obtain⟨v,L,M,N⟩:=P D;exact⟨by simp[v],by simp[G D],c1,T,by simp[L],M,fun p q V W=>let ⟨u,hu,hs⟩:=N p q V W;⟨u,hu,hs.kp A⟩⟩
 ·rw[if_neg e]at c;by_cases y:i=j
  ·rw[if_pos y]at c;cases c;trivial
  ·rw[if_neg y]at c;have Q:dom ob j:=(by unfold dom;rw[c];rfl);have z:∀b,(0<cap/\b=B/\b<w.heap.size)->∃o,E.g b = .ow (.nm i) o:=fun b s=>by
    obtain⟨D,rfl,Z⟩:=s;rcases O D with v | v
    ·omega
    ·exact v
   refine ObR.ext K (fun j c=>BI (BI c)) Q (X:=fun b=>0<cap/\b=B/\b<w.heap.size) (fun b s J=>?_) (fun b o s d=>?_) (fun R b j' o s d=>?_) (U j b c)
   ·have x:¬(0<cap/\b=B):=fun h=>J ⟨h.1,h.2,s⟩
    exact⟨t b s x,H b x⟩
   ·obtain⟨l,v⟩:=z b s;rw[v]at d;cases d;exact y rfl
   ·obtain⟨l,v⟩:=z b s;rw[v]at d;cases d
variable{P:Program}{ob':List (Nat×Ob)}{x:Cv}{c:Prop}
theorem zCE{t:Nat}{d de:TyD}(h:B1 P t d)(he:d.el≠0)(h':B1 P d.el de)(ho:AR w E ob){y:Cv}(Q:evAppendT de ob r x y=some (c,ob'))(hc:c){u v:Value}(G:CvR w E (dom ob) x u)(hv:CvR w E (dom ob) y v)(ty:Nat) :
 ∃z w' H,(Builtin.append_ #[t,t] ty #[u,v]).run P w = .ok z w'/\AV (dom ob) w E w' H/\(∀j,dom ob j->dom ob' j)/\AR w' H ob'/\AvR w' H (dom ob') (.m false [.h r]) z:=by
 unfold evAppendT at Q;split at Q
 ·rename_i i n f C m f' hr hd hs
  cases Q;obtain⟨hC,eA⟩:=hc;obtain⟨-,a',c',rfl,kA⟩:=Ud ho hs hC hv;cases x<;>simp only[tlOf]at hd<;>try (cases hd;done)
  rename_i i'
  split at hd
  ·rename_i k' n' fo hi
   split at hd
   ·rename_i ek
    subst ek;cases hd;obtain⟨a,cap,fB,hn,fA⟩:=ho _ _ hi;obtain⟨N,rfl,-⟩:=G;rw[fB];have O:∀j,dom ob j->dom (put (put ob i .dead) r (.tl de.k (n+m) (Ai f n f'))) j:=fun j D=>BI (BI D)
    obtain⟨b,o,s,Y,L,dA,jA⟩:∃b o,∃s:List Value,s.length=m*de.k/\(∀(j:Nat) u,s[j]?=some u->w.cell? ⟨b,o+j,none⟩=some u)/\(0<m->a'=some ⟨b,o,none⟩)/\∀p j,p<m->j<de.k->∃u,s[p*de.k+j]?=some u/\Sh w E.g (f' p j) u:=by
     rcases Nat.eq_zero_or_pos m with e | e
     ·subst e;exact⟨0,0,[],by simp,fun j u h=>by simp at h,fun h=>by omega,fun p j J=>by omega⟩
     ·obtain⟨b,o,ha,A⟩:=kA e;obtain⟨cs,h1,h2⟩:=YQ m (fun p j J D=>let ⟨u,G,_⟩:=A p j J D;⟨u,G⟩);refine⟨b,o,cs,h1,h2,fun _=>ha,fun p j J D=>?_⟩;obtain⟨u,G,F⟩:=A p j J D;have K:=Fg J D;have h5:cs[p*de.k+j]?=some cs[p*de.k+j]:=List.getElem?_eq_getElem (by omega);have h6:=h2 _ _ h5;rw[G]at h6;cases h6;exact⟨_,h5,F⟩
    have iA:∀u∈s,u.oneCell'=true:=fun u G=>by
     obtain⟨q,hq⟩:=List.getElem?_of_mem G;have K:=(List.getElem?_eq_some_iff.1 hq).1;have J:=h'.pos;obtain⟨u',mA,eB⟩:=jA (q / de.k) (q % de.k) ((Nat.div_lt_iff_lt_mul J).2 (by omega)) (Nat.mod_lt _ J);rw[Nat.mul_comm,Nat.div_add_mod,hq]at mA;cases mA;exact eB.one
    have S:∀(olds rest:List Value),olds.length=n*de.k->(∀p j,p<n->j<de.k->∃u,olds[p*de.k+j]?=some u/\Sh w E.g (f p j) u)->∀p j,p<n+m->j<de.k->∃u,(olds ++ s ++ rest)[p*de.k+j]?=some u/\Sh w E.g (Ai f n f' p j) u:=fun olds rest M holds p j J D=>by
     by_cases Z:p<n
     ·obtain⟨u,G,F⟩:=holds p j Z D;have K:=(List.getElem?_eq_some_iff.1 G).1;exact⟨u,by rw[List.append_assoc,List.getElem?_append_left K];exact G,by unfold Ai;rw[if_pos Z];exact F⟩
     ·obtain⟨u,G,F⟩:=jA (p - n) j (by omega) D;have e:p*de.k+j=n*de.k+((p - n)*de.k+j):=by
       rw[<-Nat.add_assoc,<-Nat.add_mul];congr 2;omega
      refine⟨u,?_,by unfold Ai;rw[if_neg Z];exact F⟩;have K:=(List.getElem?_eq_some_iff.1 G).1;rw[e,List.append_assoc,List.getElem?_append_right (by omega),M,Nat.add_sub_cancel_left,List.getElem?_append_left K];exact G
    have grow:∀(olds:List Value),olds.length=n*de.k->(∀p j,p<n->j<de.k->∃u,olds[p*de.k+j]?=some u/\Sh w E.g (f p j) u)->(0<n->∃B,a=some ⟨B,0,none⟩/\∀(j:Nat) u,olds[j]?=some u->w.cell? ⟨B,j,none⟩=some u)->cap<n+m->
     ∃z w' H,(Builtin.append_ #[t,t] ty #[.slice a n cap,.slice a' m c']).run P w = .ok z w'/\AV (dom ob) w E w' H/\(∀j,dom ob j->dom (put (put ob i .dead) r (.tl de.k (n+m) (Ai f n f'))) j)/\AR w' H (put (put ob i .dead) r (.tl de.k (n+m) (Ai f n f')))/\AvR w' H (dom (put (put ob i .dead) r (.tl de.k (n+m) (Ai f n f')))) (.m false [.h r]) z:=by
     intro olds M holds hB aB;have ea:=dA (by omega);subst ea;obtain⟨bA,rest,h1,h2,h3⟩:=Qj h he h' (w:=w) (a:=a) (n:=n) (cap:=cap) (olds:=olds) M hB Y L hn aB eA ty (c':=c');have I:∀b,b<w.heap.size->(w.drew.alloc (.cells (olds ++ s ++ rest).toArray d.el)).heap[b]?=w.heap[b]?:=fun b R=>Below.heap_alloc w.drew _ _ R
     obtain⟨H,U,V,W⟩:=Ng (w':=w.drew.alloc (.cells (olds ++ s ++ rest).toArray d.el)) ho N hr (k:=de.k) (n:=n+m) (f:=Ai f n f') (a:=some ⟨w.heap.size,0,none⟩) (cap:=bA) (B:=w.heap.size) (c1:=olds ++ s ++ rest) (T:=d.el) h1
      (fun _=>⟨rfl,rfl,rfl,by show _<=(w.heap.push _).size;simp,fun b x R Y=>⟨I b Y,by rw[if_neg (by omega)];exact R⟩,fun b x l R Y=>⟨fun j _=>World.cell?_of_block (w:=w) (I b Y),.inl ⟨x,l,by rw[if_neg (by omega)];exact R,Nat.le_refl _⟩⟩⟩)
      (fun e=>by omega) (fun b R _=>I b R) (fun _=>.inl (Nat.le_refl _))
      (fun _=>⟨rfl,OG w.drew _,by rw[List.length_append,List.length_append,M,Y,h2,<-Nat.add_mul,<-Nat.add_mul];congr 1;omega,S olds rest M holds⟩)
     exact⟨_,_,H,h3,U,O,V,W⟩
    rcases Nat.eq_zero_or_pos cap with e0 | e0
    ·subst e0;have en:n=0:=(by omega);subst en;rcases Nat.eq_zero_or_pos m with e | e
     ·subst e;obtain⟨H,U,V,W⟩:=Ng (w':=w) ho N hr (k:=de.k) (n:=0+0) (f:=Ai f 0 f') (a:=a) (cap:=0) (B:=0) (c1:=[]) (T:=0) (Nat.le_refl _) (fun h=>by omega) (fun _=>Kp.refl _ _) (fun _ _ _=>rfl) (fun h=>by omega) (fun h=>by omega);exact⟨_,_,H,O4 h he h' hn ty,U,O,V,W⟩
     ·exact grow [] (by simp) (fun p j J=>by omega) (fun h0=>by omega) (by omega)
    ·obtain⟨ha,hg,cs,T,X,gA,A⟩:=fA e0;subst ha;have bC:=Nat.mul_le_mul_right de.k hn;have lA:(cs.take (n*de.k)).length=n*de.k:=(by simp;omega);have holds:∀p j,p<n->j<de.k->∃u,(cs.take (n*de.k))[p*de.k+j]?=some u/\Sh w E.g (f p j) u:=fun p j J D=>by
      obtain⟨u,G,F⟩:=A p j J D;exact⟨u,by rw[List.getElem?_take,if_pos (Fg J D)];exact G,F⟩
     by_cases hm:n+m<=cap
     ·rcases Nat.eq_zero_or_pos m with e | e
      ·subst e;have hk:Kp w E.g w (fun b=>if b=E.bl i then .ow (.nm r) ((n+0)*de.k)else E.g b):=by
        have:=Kp.turnL (w:=w) (o':=.nm r) hg (Nat.le_refl _) X (c:=cs) (fun _ _=>rfl);rw[setRow_self _ _ _ T (0,0) X]at this;exact this
       obtain⟨H,U,V,W⟩:=Ng (w':=w) ho N hr (k:=de.k) (n:=n+0) (f:=Ai f n f') (a:=some ⟨E.bl i,0,none⟩) (cap:=cap) (B:=E.bl i) (c1:=cs) (T:=T) hm (fun _=>hk) (fun e=>by omega) (fun _ _ _=>rfl) (fun _=>.inr ⟨_,hg⟩) (fun _=>⟨rfl,X,gA,fun p j J D=>by
        obtain⟨u,G,F⟩:=A p j (by omega) D;exact⟨u,G,by unfold Ai;rw[if_pos (by omega)];exact F⟩⟩)
       exact⟨_,_,H,O4 h he h' hn ty,U,O,V,W⟩
      ·have ea:=dA e;subst ea;have cB:=VY h he h' X gA Y L iA hm ty (c':=c');have aC:(n+m)*de.k<=cap*de.k:=Nat.mul_le_mul_right _ hm;have lB:n*de.k+m*de.k=(n+m)*de.k:=(Nat.add_mul _ _ _).symm;obtain⟨H,U,V,W⟩:=Ng (w':=w.setRow (E.bl i) (cs.take (n*de.k) ++ s ++ cs.drop (n*de.k+s.length)).toArray) ho N hr (k:=de.k) (n:=n+m) (f:=Ai f n f') (a:=some ⟨E.bl i,0,none⟩) (cap:=cap) (B:=E.bl i) (c1:=cs.take (n*de.k) ++ s ++ cs.drop (n*de.k+s.length)) (T:=T) hm
        (fun _=>Kp.turnL hg (by omega) X (fun j D=>by rw[List.append_assoc,List.getElem?_append_left (by omega),List.getElem?_take,if_pos D])) (fun e=>by omega) (fun b R bB=>Fu _ _ _ _ (fun e'=>bB ⟨e0,e'⟩)) (fun _=>.inr ⟨_,hg⟩)
        (fun _=>⟨rfl,setRow_heap _ _ _ _ _ _ X,by simp;omega,S _ _ lA holds⟩)
       exact⟨_,_,H,cB,U,O,V,W⟩
     ·exact grow _ lA holds (fun _=>⟨_,rfl,fun j u D=>by
       rw[cell_of_row w _ _ _ T _ X];rw[List.getElem?_take]at D;split at D
       ·simpa using D
       ·cases D⟩) (by omega)
   ·cases hd
  ·cases hd
 ·cases Q
def mvOf(k:Nat)(ob:List (Nat×Ob)):Cv->Option (Prop×Nat×Nat×Nat×Nat×(Nat->Nat->Tr))
 | .h i=>match get ob i with
  | some (.row k' n f)=>if k'=k then some (True,i,0,n,n,f)else none
  | _=>none
 | .hs i k' lo m=>match get ob i with
  | some (.row k2 n f)=>if k'=k/\k2=k then some (lo+m<=n,i,lo,m,n,f)else none
  | _=>none
 | _=>none
variable{lo:Nat}
theorem zHp(l:AR w E ob){m:Nat}{C:Prop}(h:mvOf k ob x=some (C,i,lo,m,n,f))(d:C){y:Value}(b:CvR w E (dom ob) x y) :
 get ob i=some (.row k n f)/\lo+m<=n/\∃a c,y = .slice a m c/\(0<m->a=some ⟨E.bl i,lo*k,none⟩):=by
 unfold mvOf at h;split at h
 ·rename_i o
  split at h
  ·rename_i p n' f' hi
   split at h
   ·rename_i e
    subst e;cases h;obtain⟨a,cap,hv,hn,j⟩:=l _ _ hi;exact⟨hi,by omega,a,cap,b.2.1.trans hv,fun q=>by simpa using (j (by omega)).1⟩
   ·cases h
  ·cases h
 ·rename_i o p lo' m'
  split at h
  ·rename_i r n' f' hi
   split at h
   ·rename_i e
    obtain⟨rfl,rfl⟩:=e;cases h;obtain⟨-,a,c,e,g⟩:=b;exact⟨hi,d,a,c,e,g⟩
   ·cases h
  ·cases h
 ·cases h
def ntR(F:Nat->Nat->Tr)(lo m:Nat):Nat->Nat->Tr:=fun p q=>if lo<=p/\p<lo+m then(F p q).nt else F p q
def evAppendM(de:TyD)(ob:List (Nat×Ob))(r:Nat)(x y:Cv):Option (Prop×List (Nat×Ob)):=
 match get ob r,dstOf de.k ob x,mvOf de.k ob y with
 | none,some (id,n,f),some (C,i,lo,m,N,F)=>if id≠some i then some (C/\n+m<=1000000000,put (put (D4 ob id) i (.row de.k N (ntR F lo m))) r (.row de.k (n+m) (Ai f n fun p q=>F (lo+p) q)))else none
 | _,_,_=>none
def Bs.rl(B B' lo hi to:Nat):Bs->Bs
 | .ow (.tl b c) l=>if b=B/\lo<=c/\c<hi then .ow (.tl B' (c - lo+to)) l else .ow (.tl b c) l
 | s=>s
theorem Bs.rl_nm{B' hi to:Nat}{s:Bs}{l:Nat}(h:s = .ow (.nm i) l):s.rl B B' lo hi to = .ow (.nm i) l:=by subst h;rfl
theorem zIm(ho:AR w E ob){N M m:Nat}{F G:Nat->Nat->Tr}(hi:get ob i=some (.row k N F))(hr:get ob r=some (.row k M G))(nA:i≠r)(sB:lo+m<=N)(hM:M=n+m)
 (hG:∀p q,p<m->q<k->∃u,G (n+p) q = .v u/\w.cell? ⟨E.bl i,(lo+p)*k+q,none⟩=some u) :
 ∃E',E'.bl=E.bl/\E'.hv=E.hv/\AV (dom ob) w E w E'/\AR w E' (put (put ob i (.row k N (ntR F lo m))) r (.row k M (fun p q=>if p<n then G p q else F (lo+(p - n)) q))):=by
 have Z:Kp w E.g w (fun b=>(E.g b).rl (E.bl i) (E.bl r) (lo*k) ((lo+m)*k) (n*k)):=by
  refine⟨rfl,rfl,rfl,Nat.le_refl _,fun b x A _=>⟨rfl,by rw[A];rfl⟩,fun b o l A _=>⟨fun _ _=>rfl,.inl ?_⟩⟩;rw[A];cases o with
  | nm j=>exact⟨_,l,rfl,Nat.le_refl _⟩
  | tl b c=>
   simp only[Bs.rl];split
   ·exact⟨_,l,rfl,Nat.le_refl _⟩
   ·exact⟨_,l,rfl,Nat.le_refl _⟩
 have U:AV (dom ob) w E w ⟨fun b=>(E.g b).rl (E.bl i) (E.bl r) (lo*k) ((lo+m)*k) (n*k),E.bl,E.hv⟩:=⟨Z,fun _ _=>rfl,fun _ _=>rfl⟩;have nB:dom ob i:=by unfold dom;rw[hi];rfl
 have oB:dom ob r:=by unfold dom;rw[hr];rfl
 have hD:∀j,dom ob j->dom (put (put ob i (.row k N (ntR F lo m))) r (.row k M (fun p q=>if p<n then G p q else F (lo+(p - n)) q))) j:=fun j y=>BI (BI y)
 obtain⟨ai,V,bB,oA,t⟩:=ho i _ hi;have kA:0<m->E.g (E.bl i) = .ow (.nm i) 0:=fun C=>(t (by omega)).2.1
 have I:∀{j:Nat},0<m->E.g (E.bl j) = .ow (.nm j) 0->j≠i->E.bl j≠E.bl i:=fun C y mA e=>by
  rw[e,kA C]at y;cases y;exact mA rfl
 have D:∀{B c:Nat} {T:Tr} {u:Value},¬(0<m/\B=E.bl i/\lo*k<=c/\c<(lo+m)*k)->By w E.g B c T u->By w (fun b=>(E.g b).rl (E.bl i) (E.bl r) (lo*k) ((lo+m)*k) (n*k)) B c T u:=fun {B c T u} hn=>by
  cases T with
  | v x=>exact id
  | s fl k2 n2 f2=>
   cases fl with
   | b=>exact id
   | z=>exact id
   | o=>
    rintro⟨a,cp,rfl,hc⟩;refine⟨a,cp,rfl,fun C=>?_⟩;obtain⟨b,A,h,P⟩:=hc C;refine⟨b,A,?_,P⟩;show(E.g b).rl _ _ _ _ _=_;rw[h];simp only[Bs.rl];rw[if_neg];rintro⟨K,H,W⟩;refine hn ⟨?_,K,H,W⟩;rcases Nat.eq_zero_or_pos m with e | e
    ·rw[e,Nat.add_zero]at W;omega
    ·exact e
 refine⟨⟨fun b=>(E.g b).rl (E.bl i) (E.bl r) (lo*k) ((lo+m)*k) (n*k),E.bl,E.hv⟩,rfl,rfl,U,fun j o y=>?_⟩;rw[B8,B8]at y;by_cases e:r=j
 ·subst e;rw[if_pos rfl]at y;cases y;obtain⟨a,cap,hv,hn,cA⟩:=ho r _ hr;refine⟨a,cap,hv,hn,fun C=>?_⟩;obtain⟨ha,hg,cs,T,hh,hl,O⟩:=cA C;refine⟨ha,Bs.rl_nm hg,cs,T,hh,hl,fun p q hp S=>?_⟩;obtain⟨u,hu,hs,ht⟩:=O p q hp S;refine⟨u,hu,?_⟩;by_cases bA:p<n
  ·simp only[if_pos bA];refine⟨hs.kp Z,D (fun U=>?_) ht⟩;exact I U.1 hg (fun e=>nA e.symm) U.2.1
  ·simp only[if_neg bA];obtain⟨u',K,H⟩:=hG (p - n) q (by omega) S;rw[show n+(p - n)=p by omega]at K;rw[K]at hs;obtain⟨rfl,-⟩:=hs;obtain⟨Y,J,ci,Ti,Q,aA,d⟩:=t (by omega);obtain⟨v,aB,sA,vA⟩:=d (lo+(p - n)) q (by omega) S;rw[cell_of_row w _ _ _ Ti _ Q]at H;simp only[List.getElem?_toArray]at H;rw[aB]at H;cases H;refine⟨sA.kp Z,?_⟩;revert vA;cases F (lo+(p - n)) q with
   | v x=>exact id
   | s fl k2 n2 f2=>
    cases fl with
    | b=>exact id
    | z=>exact id
    | o=>
     rintro⟨a,cp,rfl,hc⟩;refine⟨a,cp,rfl,fun C=>?_⟩;obtain⟨b,A,h,P⟩:=hc C;refine⟨b,A,?_,P⟩;show(E.g b).rl _ _ _ _ _=_;rw[h];have e1:(lo+(p - n))*k=lo*k+(p - n)*k:=Nat.add_mul _ _ _;have e2:=Fg (show lo+(p - n)<lo+m by omega) S;have e3:p*k=n*k+(p - n)*k:=(by rw[<-Nat.add_mul];congr 1;omega);simp only[Bs.rl];rw[if_pos ⟨by first | trivial | rfl,by omega,e2⟩];congr 2;omega
 ·rw[if_neg e]at y;by_cases e':i=j
  ·rw[if_pos e']at y;cases y;subst e';refine⟨ai,V,bB,oA,fun C=>?_⟩;obtain⟨Y,J,ci,Ti,Q,aA,d⟩:=t C;refine⟨Y,Bs.rl_nm J,ci,Ti,Q,aA,fun p q hp S=>?_⟩;obtain⟨u,hu,hs,ht⟩:=d p q hp S;by_cases R:lo<=p/\p<lo+m
   ·rw[show ntR F lo m p q=(F p q).nt by unfold ntR;rw[if_pos R]];exact⟨u,hu,hs.nt.kp Z,Tr.nt_tail⟩
   ·rw[show ntR F lo m p q=F p q by unfold ntR;rw[if_neg R]];refine⟨u,hu,hs.kp Z,D (fun U=>R ?_) ht⟩;obtain⟨K,-,H,W⟩:=U;constructor
    ·rcases Nat.lt_or_ge p lo with L | L
     ·have:=Fg L S;omega
     ·exact L
    ·rcases Nat.lt_or_ge p (lo+m)with L | L
     ·exact L
     ·have:=Nat.mul_le_mul_right k L;omega
  ·rw[if_neg e']at y;have hd:dom ob j:=(by unfold dom;rw[y];rfl);refine ObR.ext U hD hd (X:=fun b=>(E.g b).rl (E.bl i) (E.bl r) (lo*k) ((lo+m)*k) (n*k)≠E.g b) (fun b _ A=>⟨rfl,Classical.not_not.1 A⟩) (fun b l A h=>A (by rw[h];rfl)) (fun lA b j' l A h=>?_) (ho j o y);apply A;rw[h];simp only[Bs.rl];rw[if_neg];rintro⟨K,H,W⟩;have C:0<m:=by
    rcases Nat.eq_zero_or_pos m with e | e
    ·rw[e,Nat.add_zero]at W;omega
    ·exact e
   exact I C lA (fun e=>e' e.symm) K
theorem zCD{t:Nat}{d de:TyD}(h:B1 P t d)(he:d.el≠0)(h':B1 P d.el de)(ho:AR w E ob){y:Cv}(b:evAppendM de ob r x y=some (c,ob'))(hc:c){u v:Value}(hu:CvR w E (dom ob) x u)(hv:CvR w E (dom ob) y v)(ty:Nat) :
 ∃z w' S,(Builtin.append_ #[t,t] ty #[u,v]).run P w = .ok z w'/\AV (dom ob) w E w' S/\(∀j,dom ob j->dom ob' j)/\AR w' S ob'/\AvR w' S (dom ob') (.m false [.h r]) z:=by
 unfold evAppendM at b;split at b
 ·rename_i id n f C i lo m N F hr hd hs
  split at b
  ·rename_i M
   cases b;obtain⟨hC,I⟩:=hc;obtain⟨hi,bA,a',c',rfl,W⟩:=zHp ho hs hC hv;obtain⟨ai,kA,iB,fB,B⟩:=ho i _ hi;have J:dom ob i:=(by unfold dom;rw[hi];rfl);have K:i≠r:=Ir J hr;obtain⟨U,V⟩:∃U:Nat->Nat->Value,∀p q,p<m->q<de.k->w.cell? ⟨E.bl i,(lo+p)*de.k+q,none⟩=some (U p q)/\(U p q).oneCell'=true:=by
    refine⟨fun p q=>(w.cell? ⟨E.bl i,(lo+p)*de.k+q,none⟩).getD (.bool false),fun p q O H=>?_⟩;obtain⟨X,s,ci,Ti,G,aA,a⟩:=B (by omega);obtain⟨v,gA,fA,-⟩:=a (lo+p) q (by omega) H;have:w.cell? ⟨E.bl i,(lo+p)*de.k+q,none⟩=some v:=by
     rw[cell_of_row w _ _ _ Ti _ G];simpa using gA
    simp only[this,Option.getD_some];exact⟨trivial,fA.one⟩
   obtain⟨z,w',E1,g1,Q,T,g4,g5,g6⟩:=Yt h he h' ho hr hd I (f':=fun p q=>.v (U p q)) (v:=.slice a' m c') hu (fun _ _ _ _ _=>trivial) ⟨a',c',rfl,fun h0=>⟨_,_,W h0,fun p q O H=>⟨U p q,by rw[<-Nat.add_assoc,<-Nat.add_mul];exact(V p q O H).1,rfl,(V p q O H).2⟩⟩⟩ ty;have Z:get (D4 ob id) i=some (.row de.k N F):=by
    cases id with
    | none=>exact hi
    | some q=>show get (put ob q .dead) i=_;rw[B8,if_neg (fun e=>M (by rw[e]))];exact hi
   have Y:get (put (D4 ob id) r (.row de.k (n+m) (Ai f n fun p q=>.v (U p q)))) i=some (.row de.k N F):=by
    rw[B8,if_neg (fun e=>K e.symm)];exact Z
   obtain⟨E2,e1,e2,R,k2⟩:=zIm g4 Y (by rw[B8,if_pos rfl]) K bA rfl (fun p q O H=>by
    refine⟨U p q,by unfold Ai;rw[if_neg (by omega),Nat.add_sub_cancel_left],?_⟩;obtain⟨X,s,ci,Ti,G,aA,a⟩:=B (by omega);have cA:=(Array.getElem?_eq_some_iff.1 G).1;obtain⟨h1,-⟩:=g6 (E.bl i) cA (fun q' eA=>⟨fun l L=>by rw[s]at L;cases L;exact M eA,fun j l L=>by rw[s]at L;cases L⟩);rw[Q.bl i J,<-(V p q O H).1];exact World.cell?_of_block (w:=w) h1)
   have g:∀j,get (put (put (put (D4 ob id) r (.row de.k (n+m) (Ai f n fun p q=>.v (U p q)))) i (.row de.k N (ntR F lo m))) r (.row de.k (n+m) (fun p q=>if p<n then Ai f n (fun p q=>.v (U p q)) p q else F (lo+(p - n)) q))) j=get (put (put (D4 ob id) i (.row de.k N (ntR F lo m))) r (.row de.k (n+m) (Ai f n fun p q=>F (lo+p) q))) j:=fun j=>by
    have ef:(fun p q=>if p<n then Ai f n (fun p q=>.v (U p q)) p q else F (lo+(p - n)) q)=Ai f n fun p q=>F (lo+p) q:=by
     funext p q;unfold Ai;split<;>rfl
    rw[ef];simp only[B8];by_cases e:r=j
    ·simp[e]
    ·simp[e]
   have D:dom (put (put (put (D4 ob id) r (.row de.k (n+m) (Ai f n fun p q=>.v (U p q)))) i (.row de.k N (ntR F lo m))) r (.row de.k (n+m) (fun p q=>if p<n then Ai f n (fun p q=>.v (U p q)) p q else F (lo+(p - n)) q)))=dom (put (put (D4 ob id) i (.row de.k N (ntR F lo m))) r (.row de.k (n+m) (Ai f n fun p q=>F (lo+p) q))):=by
    funext j;unfold dom;rw[g]
   refine⟨z,w',E2,g1,⟨Q.kp.trans R.kp,fun j A=>(R.bl j (T j A)).trans (Q.bl j A),fun j A=>(R.hv j (T j A)).trans (Q.hv j A)⟩,fun j A=>?_,fun j o A=>?_,?_⟩
   ·rw[<-D];exact BI (BI (T j A))
   ·rw[<-D];exact k2 j o (by rw[g];exact A)
   ·rw[<-D];exact g5.ext R (fun j A=>BI (BI A))
  ·cases b
 ·cases b
def DP(P:Program)(f:Nat):Prop:=∀(args:Array Value) (w:World),(callFunc f args).run P w = .ok (.enter f args) w
structure BL (P:Program) (Γ : List (Nat×AE)) (w:World):Prop where
 a:∀f sp,f<1000000->get Γ f=some sp->Fk P f sp w/\DP P f
 k:∀f sp,f<1000000->get Γ (f+1000000)=some sp->Fk P f sp w/\DP P f
 p:∀f sp,f<1000000->get Γ (f+2000000)=some sp->Kk P f sp w/\DP P f
 pk:∀f sp,f<1000000->get Γ (f+3000000)=some sp->Kk P f sp w/\DP P f
 n:∀f sp,f<1000000->get Γ (f+4000000)=some sp->O2 P f sp w/\DP P f
 o:∀f sp,f<1000000->get Γ (f+5000000)=some sp->O3 P f sp w/\DP P f
def GOk(P:Program)(Γ : List (Nat×AE)):Prop:=∀w,BL P Γ w
theorem BL.nil:BL P [] w:=⟨fun _ _ _ h=>(by cases h),fun _ _ _ h=>(by cases h),fun _ _ _ h=>(by cases h),fun _ _ _ h=>(by cases h),fun _ _ _ h=>(by cases h),fun _ _ _ h=>(by cases h)⟩
theorem Kq{α : Type}{Γ : List (Nat×α)}{g:Nat}{x y:α}(h:get ((k,x) :: Γ) g=some y):(k=g/\x=y)\/get Γ g=some y:=by
 simp only[get]at h;split at h
 · rename_i e;cases h;exact .inl ⟨e,rfl⟩
 · exact .inr h
section
variable {P : Program} {w : World} {Γ : List (Nat × AE)} {f : Nat} {sp : AE}
theorem BL.putA(m:f<1000000)(h:Fk P f sp w)(l:DP P f)(i:BL P Γ w):BL P ((f,sp) :: Γ) w:=by
 refine⟨fun g s c d=>?_,fun g s c d=>?_,fun g s c d=>?_,fun g s c d=>?_,fun g s c d=>?_,fun g s c d=>?_⟩<;>rcases Kq d with⟨e,j⟩ | b
 all_goals first
  | omega
  | (obtain rfl:f=g:=by omega
     subst j;exact⟨h,l⟩)
  | exact i.a g s c b
  | exact i.k g s c b
  | exact i.p g s c b
  | exact i.pk g s c b
  | exact i.n g s c b
  | exact i.o g s c b
theorem BL.putK(m:f<1000000)(h:Fk P f sp w)(l:DP P f)(i:BL P Γ w):BL P ((f+1000000,sp) :: Γ) w:=by
 refine⟨fun g s c d=>?_,fun g s c d=>?_,fun g s c d=>?_,fun g s c d=>?_,fun g s c d=>?_,fun g s c d=>?_⟩<;>rcases Kq d with⟨e,j⟩ | b
 all_goals first
  | omega
  | (obtain rfl:f=g:=by omega
     subst j;exact⟨h,l⟩)
  | exact i.a g s c b
  | exact i.k g s c b
  | exact i.p g s c b
  | exact i.pk g s c b
  | exact i.n g s c b
  | exact i.o g s c b
theorem BL.putP(m:f<1000000)(h:Kk P f sp w)(l:DP P f)(i:BL P Γ w):BL P ((f+2000000,sp) :: Γ) w:=by
 refine⟨fun g s c d=>?_,fun g s c d=>?_,fun g s c d=>?_,fun g s c d=>?_,fun g s c d=>?_,fun g s c d=>?_⟩<;>rcases Kq d with⟨e,j⟩ | b
 all_goals first
  | omega
  | (obtain rfl:f=g:=by omega
     subst j;exact⟨h,l⟩)
  | exact i.a g s c b
  | exact i.k g s c b
  | exact i.p g s c b
  | exact i.pk g s c b
  | exact i.n g s c b
  | exact i.o g s c b
theorem BL.putQ(m:f<1000000)(h:Kk P f sp w)(l:DP P f)(i:BL P Γ w):BL P ((f+3000000,sp) :: Γ) w:=by
 refine⟨fun g s c d=>?_,fun g s c d=>?_,fun g s c d=>?_,fun g s c d=>?_,fun g s c d=>?_,fun g s c d=>?_⟩<;>rcases Kq d with⟨e,j⟩ | b
 all_goals first
  | omega
  | (obtain rfl:f=g:=by omega
     subst j;exact⟨h,l⟩)
  | exact i.a g s c b
  | exact i.k g s c b
  | exact i.p g s c b
  | exact i.pk g s c b
  | exact i.n g s c b
  | exact i.o g s c b
theorem BL.putN(m:f<1000000)(h:O2 P f sp w)(l:DP P f)(i:BL P Γ w):BL P ((f+4000000,sp) :: Γ) w:=by
 refine⟨fun g s c d=>?_,fun g s c d=>?_,fun g s c d=>?_,fun g s c d=>?_,fun g s c d=>?_,fun g s c d=>?_⟩<;>rcases Kq d with⟨e,j⟩ | b
 all_goals first
  | omega
  | (obtain rfl:f=g:=by omega
     subst j;exact⟨h,l⟩)
  | exact i.a g s c b
  | exact i.k g s c b
  | exact i.p g s c b
  | exact i.pk g s c b
  | exact i.n g s c b
  | exact i.o g s c b
theorem BL.putO(m:f<1000000)(h:O3 P f sp w)(l:DP P f)(i:BL P Γ w):BL P ((f+5000000,sp) :: Γ) w:=by
 refine⟨fun g s c d=>?_,fun g s c d=>?_,fun g s c d=>?_,fun g s c d=>?_,fun g s c d=>?_,fun g s c d=>?_⟩<;>rcases Kq d with⟨e,j⟩ | b
 all_goals first
  | omega
  | (obtain rfl:f=g:=by omega
     subst j;exact⟨h,l⟩)
  | exact i.a g s c b
  | exact i.k g s c b
  | exact i.p g s c b
  | exact i.pk g s c b
  | exact i.n g s c b
  | exact i.o g s c b
theorem GOk.nil:GOk P []:=fun _=>BL.nil
theorem GOk.cons(h:Ae P f sp)(a:DP P f)(c:GOk P Γ)(b:f<1000000:=by decide):GOk P ((f,sp) :: Γ):=fun w=>BL.putA b (h w) a (c w)
theorem GOk.keep(h:Ae P f sp)(a:DP P f)(c:GOk P Γ)(b:f<1000000:=by decide):GOk P ((f+1000000,sp) :: Γ):=fun w=>BL.putK b (h w) a (c w)
theorem GOk.ptr(h:Cy P f sp)(a:DP P f)(c:GOk P Γ)(b:f<1000000:=by decide):GOk P ((f+2000000,sp) :: Γ):=fun w=>BL.putP b (h w) a (c w)
theorem GOk.ptrK(h:Cy P f sp)(a:DP P f)(c:GOk P Γ)(b:f<1000000:=by decide):GOk P ((f+3000000,sp) :: Γ):=fun w=>BL.putQ b (h w) a (c w)
theorem GOk.own(h:NQ P f sp)(a:DP P f)(c:GOk P Γ)(b:f<1000000:=by decide):GOk P ((f+5000000,sp) :: Γ):=fun w=>BL.putO b (h w) a (c w)
theorem GOk.new(h:NP P f sp)(a:DP P f)(c:GOk P Γ)(b:f<1000000:=by decide):GOk P ((f+4000000,sp) :: Γ):=fun w=>BL.putN b (h w) a (c w)
end
def partsOf:List (Nat×Operand)->List Av->Option (List (Nat×List Cv))
 | [],[]=>some []
 | (i,_) :: r,.m _ c :: s=>match partsOf r s with
   | some q=>some ((i,c) :: q)
   | none=>none
 | _,_=>none
def shp:Option Ob->Option (Nat×Nat)
 | some (.row k n _)=>some (k,n)
 | _=>none
def evSlice(ob:List (Nat×Ob))(k:Nat)(lo hi:Option Operand):List Av->Option (Prop×Cv)
 | [.m false [.s fl k' n f],.m false [.v (.int _ x)]]=>if k'=k then match lo,hi with
   | none,some _=>some (0<=x/\x<=n,.s fl k x.toNat f)
   | some _,none=>some (0<=x/\x<=n,.s fl k (n - x.toNat) fun p q=>f (x.toNat+p) q)
   | _,_=>none
   else none
 | [.m false [.h i],.m false [.v (.int _ x)]]=>match shp (get ob i)with
   | some (k',n)=>if k'=k then match lo,hi with
     | none,some _=>some (0<=x/\x<=n,.hs i k 0 x.toNat)
     | some _,none=>some (0<=x/\x<=n,.hs i k x.toNat (n - x.toNat))
     | _,_=>none
     else none
   | none=>none
 | _=>none
def evLd(T:Tb)(t:Nat)(d:TyD)(ob:List (Nat×Ob))(dst:Option Nat)(x:Cv):Option Dl:=
 match (if t=T.tk/\d.k=1/\d.g=false then dst else none).bind fun i=>evTake ob (rid i 0) x with
 | some q=>some ⟨q.1,dst.map fun i=>.m false [.h (rid i 0)],q.2,true⟩
 | none=>match evLoad d ob x with
   | some q=>some ⟨q.1,some q.2,ob,false⟩
   | none=>none
def evSt(d:TyD)(ob:List (Nat×Ob))(c:List Cv)(x:Cv):Option (Prop×List (Nat×Ob)):=
 match c,x with
 | [.h r],.e i k a j=>evStoreH d ob r (.e i k a j)
 | _,.e i k a j=>evStore d (frz c ob).2 (frz c ob).1 (.e i k a j)
 | _,_=>evStore d ob c x
def JO(T:Tb)(t:Nat)(de:TyD)(ob:List (Nat×Ob))(r:Nat)(x y:Cv):Option (Prop×List (Nat×Ob)):=
 match if t=T.mv then evAppendM de ob r x y else none with
 | some q=>some q
 | none=>match evAppendT de ob r x y with
   | some q=>some q
   | none=>evAppend de ob r x y
def evField(d:TyD)(f:Nat)(c:List Cv):Option Av:=
 match d.fs[f]? with
 | some q=>if q.1+q.2<=c.length then some (.m (q.2 != 1) ((c.drop q.1).take q.2))else none
 | none=>none
def yg:Tr->Int
 | .v (.int _ x)=>x
 | _=>0
def N1(n:Nat)(f:Nat->Nat->Tr):ByteArray:=strOfNums ((List.range n).map fun p=>yg (f p 0))
def evConv(T:Tb)(src dst:Nat)(ob:List (Nat×Ob)):Cv->Option (Prop×Value)
 | .v (.int _ x)=>match T.ik src,T.ik dst with
   | some _,some k=>some (True,.int k (k.wrap x))
   | _,_=>none
 | .h i=>match rowE ob i with
   | some (k,n,f)=>if src=T.by'/\dst=T.sx/\k=1 then some (∀p,p<n->∃x,f p 0 = .v (.int .u8 x),.string (N1 n f))else none
   | none=>none
 | _=>none
def evC(Γ : List (Nat×AE))(f i:Nat)(ob:List (Nat×Ob))(r:List Av):Option Dl:=
 if f<1000000 then match get Γ f with
  | some sp=>evCall false sp i ob r
  | none=>match get Γ (f+1000000)with
    | some sp=>evCall true sp i ob r
    | none=>match get Γ (f+4000000)with
      | some sp=>evCallN sp i ob r
      | none=>match get Γ (f+5000000)with
       | some sp=>evCallO sp i ob r
       | none=>match r with
        | .m false [.p j 0] :: r'=>match get Γ (f+2000000)with
          | some sp=>evCallP false sp i j ob r'
          | none=>match get Γ (f+3000000)with
            | some sp=>evCallP true sp i j ob r'
            | none=>none
        | _=>none
 else none
def coreU(T:Tb)(Γ : List (Nat×AE))(dst:Option Nat)(ob:List (Nat×Ob))(op:Op)(l:List Av):Option Dl:=
 match op with
 | .move _=>match l with | [x]=>some ⟨True,some x,ob,false⟩ | _=>none
 | .assign _=>match l with | [x]=>some ⟨True,some x,ob,false⟩ | _=>none
 | .nilCheck _=>match l with | [.m false [.p i o]]=>some ⟨True,some (.m false [.p i o]),ob,false⟩ | _=>none
 | .unOp .not _ _=>match l with | [.m false [.v (.bool b)]]=>some ⟨True,some (.m false [.v (.bool !b)]),ob,false⟩ | _=>none
 | .binOp o t _ _ _=>match l with
   | [x,y]=>match bin T o t x y with
     | some q=>some ⟨q.1,some (.m false [.v q.2]),ob,false⟩
     | none=>none
   | _=>none
 | .alloc t=>match l,T.ty t,dst with
   | [],some d,some i=>match evAlloc d ob i with
     | some ob'=>some ⟨True,some (.m false [.p i 0]),ob',true⟩
     | none=>none
   | _,_,_=>none
 | .box t _=>match l,dst with
   | [.m _ c],some i=>match KR ob i c with
     | some ob'=>some ⟨True,some (.m false [.p i 0]),ob',true⟩
     | none=>none
   | _,_=>none
 | .load t _=>match l,T.ty t with
   | [.m false [x]],some d=>evLd T t d ob dst x
   | _,_=>none
 | .store t _ _=>match l,T.ty t,dst with
   | [.m false [x],.m _ c],some d,none=>match evSt d ob c x with
     | some q=>some ⟨q.1,none,q.2,true⟩
     | none=>none
   | _,_,_=>none
 | .fieldAddr t _ f=>match l,T.ty t with
   | [.m false [x]],some d=>match d.fs[f]?,x with
     | some q,.p i o=>some ⟨True,some (.m false [.p i (o+q.1)]),ob,false⟩
     | some q,.e i k a j=>some ⟨True,some (.m false [.e i k a (j+q.1)]),ob,false⟩
     | some q,.q fl k n g a j=>some ⟨True,some (.m false [.q fl k n g a (j+q.1)]),ob,false⟩
     | _,_=>none
   | _,_=>none
 | .indexAddr t _ _=>match l,T.ty t with
   | [.m false [x],.m false [.v (.int _ ix)]],some d=>match T.ty d.el,x with
     | some de,.s fl k n g=>if k=de.k/\d.el≠0 then some ⟨0<=ix/\ix<n,some (.m false [.q fl k n g ix.toNat 0]),ob,false⟩else none
     | some de,.h i=>match get ob i with
       | some (.row k n g)=>if k=de.k/\d.el≠0 then some ⟨0<=ix/\ix<n,some (.m false [.e i k ix.toNat 0]),ob,false⟩else none
       | _=>none
     | _,_=>none
   | _,_=>none
 | .index t _ _=>match l with
   | [.m false [.v (.string s)],.m false [.v (.int _ ix)]]=>if t=T.sx then some ⟨0<=ix/\ix<s.size,some (.m false [.v (.int .u8 ((s[ix.toNat]?).getD 0).toNat)]),ob,false⟩else none
   | _=>none
 | .extract _ ix=>match l with
   | [.t q]=>match q[ix]? with
     | some r=>some ⟨True,some (.m r.1 r.2),ob,false⟩
     | none=>none
   | _=>none
 | .build t ps=>match T.ty t,partsOf ps.toList l with
   | some d,some q=>match fillC (fun f=>d.fs[f]?) (d.z.map .v) q with
     | some c=>if d.fs.isEmpty then none else some ⟨True,some (.m true c),ob,false⟩
     | none=>none
   | _,_=>none
 | .buildSlice t n ps=>match T.ty t,partsOf ps.toList l,dst with
   | some d,some q,some i=>match T.ty d.el with
     | some de=>match Mb de ob (rid i 0) n q with
       | some ob'=>if d.el=0 then none else some ⟨True,some (.m false [.h (rid i 0)]),ob',true⟩
       | none=>none
     | none=>none
   | _,_,_=>none
 | .slice t _ lo hi none=>match T.ty t with
   | some d=>match T.ty d.el with
     | some de=>match evSlice ob de.k lo hi l with
       | some q=>if d.el=0 then none else some ⟨q.1,some (.m false [q.2]),ob,false⟩
       | none=>none
     | none=>none
   | none=>none
 | .makeSlice t _ _=>match l,T.ty t,dst with
   | [.m false [.v (.int _ x)],.m false [.v (.int _ y)]],some d,some i=>match T.ty d.el with
     | some de=>match evMakeSlice de ob (rid i 0) x with
       | some ob'=>if d.el=0 then none else some ⟨y=x/\0<=x/\x<=1000000,some (.m false [.h (rid i 0)]),ob',true⟩
       | none=>none
     | none=>none
   | _,_,_=>none
 | .call ⟨.builtin .len,_,tys⟩=>match l with
   | [.m false [.v (.string s)]]=>if tys.toList = [T.sx] then some ⟨True,some (.m false [.v (.int .i64 s.size)]),ob,false⟩else none
   | [.m false [x]]=>match tys.toList with
     | [t]=>match T.ty t,evLen ob x with
       | some d,some n=>if d.el=0 then none else some ⟨True,some (.m false [.v (.int .i64 n)]),ob,false⟩
       | _,_=>none
     | _=>none
   | _=>none
 | .call ⟨.builtin .append,_,tys⟩=>match l,tys.toList,dst with
   | [.m false [x],.m false [y]],[t,t'],some i=>match T.ty t with
     | some d=>match T.ty d.el with
       | some de=>match JO T t de ob (rid i 0) x y with
         | some q=>if t'=t/\d.el≠0 then some ⟨q.1,some (.m false [.h (rid i 0)]),q.2,true⟩else none
         | none=>none
       | none=>none
     | none=>none
   | _,_,_=>none
 | .call ⟨.value (.func f),args,_⟩=>match l,dst with
   | _ :: r,some i=>evC Γ f i ob r
   | _,_=>none
 | .field t _ f=>match l,T.ty t with
   | [.m true c],some d=>match evField d f c with
     | some av=>some ⟨True,some av,ob,false⟩
     | none=>none
   | _,_=>none
 | .convert src t _=>match l with
   | [.m false [x]]=>match evConv T src t ob x with
     | some q=>some ⟨q.1,some (.m false [.v q.2]),ob,false⟩
     | none=>none
   | _=>none
 | _=>none
def B6(T:Tb)(Γ : List (Nat×AE))(dst:Option Nat)(ob:List (Nat×Ob))(op:Op)(l:List Av):Option Dl:=coreU T Γ dst ob op l
def S8(E:En)(w:World)(ob:List (Nat×Ob))(o:Oper)(a:Act)(D:Dl):Act->World->Prop:=fun a' w'=>
 ∃y E',a'=a.put o.dst y/\AV (dom ob) w E w' E'/\(∀j,dom ob j->dom D.ob j)/\AR w' E' D.ob/\∀av,D.av=some av->AvR w' E' (dom D.ob) av y
section
variable {P : Program} {a : Act} {w : World} {o : Oper} {K : Act -> World -> Prop} {Q : Exit -> Act -> World -> Prop}
theorem Cc{s:Sem Value}{z:Value}{w':World}(h:execOp a.eval o=(do pure (.value (<-s))))(b:s.run P w = .ok z w')(hK:K (a.put o.dst z) w'):o.wp P a w K Q:=by
 unfold Oper.wp;rw[h];simp only[Sem.run_bind,b,Result.andThen_ok];exact hK
theorem Pf{s:Sem Unit}{w':World}(h:execOp a.eval o=(do s;pure .skip))(b:s.run P w = .ok () w')(hK:K (a.put o.dst undef) w'):o.wp P a w K Q:=by
 unfold Oper.wp;rw[h];simp only[Sem.run_bind,b,Result.andThen_ok];exact hK
end
variable{α β:Type}
theorem VX{R:α->β->Prop}{l:List β}(h:AN R [] l):l = []:=by cases h;rfl
theorem Fq{R:α->β->Prop}{x:α}{l:List β}(h:AN R [x] l):∃y,l = [y]/\R x y:=by
 cases h with
 | cons h t=>cases t;exact⟨_,rfl,h⟩
theorem F3{R:α->β->Prop}{x x':α}{l:List β}(h:AN R [x,x'] l):∃y a,l = [y,a]/\R x y/\R x' a:=by
 cases h with
 | cons h t=>
   obtain⟨a,rfl,b⟩:=Fq t;exact⟨_,a,rfl,h,b⟩
theorem Ra{w:World}{E:En}{D:Nat->Prop}{a:Act}:∀{ps:List (Nat×Operand)} {l:List Av} {q:List (Nat×List Cv)},partsOf ps l=some q->AN (fun x b=>AvR w E D b (a.eval x)) (ps.map (·.2)) l->
 AN (fun (p:Nat×List Cv) (v:Nat×Value)=>p.1=v.1/\CsR w E D p.2 v.2.cells.toList) q (ps.map fun p=>(p.1,a.eval p.2))
 | [],l,q,h,hl=>by
   have:=VX hl;subst this;cases h;exact .nil
 | (i,x) :: r,l,q,h,hl=>by
   cases hl with
   | @cons _ b _ l' h1 t=>
     cases b with
     | m g c=>
       simp only[partsOf]at h;split at h
       · rename_i d hq'
         cases h;exact .cons ⟨rfl,VlR.cells h1⟩ (Ra hq' t)
       · cases h
     | t l=>cases h
theorem Same.after{o:Oper}{a:Act}{x:Av}{z:Value}(b:AR w E ob)(h:AvR w E (dom ob) x z):S8 E w ob o a ⟨c,some x,ob,false⟩ (a.put o.dst z) w:=
 ⟨z,E,rfl,AV.refl _ _ _,fun _ h=>h,b,fun d e=>by cases e;exact h⟩
theorem av1{D:Nat->Prop}{y:Value}(h:CvR w E D x y):AvR w E D (.m false [x]) y:=⟨x,rfl,h⟩
end Go.Proofs.YtibhefllijahkaaGreatDoor
