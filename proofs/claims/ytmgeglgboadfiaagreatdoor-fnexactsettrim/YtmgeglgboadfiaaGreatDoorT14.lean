/- A region that draws its order and holds calls and makings of memory, whose facts stay when memory grows: each of its operations is walked once (no law is proved here). -/
import Derived.Test.YtmgeglgboadfiaaGreatDoorT13
import Derived.Deep.RegionLawGrows
set_option linter.unusedVariables false
set_option maxRecDepth 20000
set_option maxHeartbeats 4000000
namespace Go.Proofs.YtmgeglgboadfiaaGreatDoor
open Go.RowKit
theorem zES{j i:Nat}(h:j≠i):(j == i)=false:=by simpa using h
def qb(d:Nat->Nat)(x:Nat->Value):List Nat->Act->Act
 | [],a=>a
 | i :: r,a=>qb d x r (a.put (some (d i)) (x i))
theorem zPs(a:Act)(k:Nat)(u v:Value):(a.put (some k) u).put (some k) v=a.put (some k) v:=by
 unfold Act.put;simp[Array.setIfInBounds_setIfInBounds]
theorem zNr(a:Act){k j:Nat}(u v:Value)(h:k≠j):(a.put (some k) u).put (some j) v=(a.put (some j) v).put (some k) u:=
 Act.put_comm a u v (fun d e e'=>h (by injection e with e;injection e' with e';omega))
theorem zJA(d:Nat->Nat)(x:Nat->Value)(k:Nat)(v:Value):∀(M:List Nat) (a:Act),(∀i∈M,d i≠k)->(qb d x M a).put (some k) v=qb d x M (a.put (some k) v)
 | [],_,_=>rfl
 | i :: r,a,h=>by
  show(qb d x r (a.put (some (d i)) (x i))).put (some k) v=qb d x r ((a.put (some k) v).put (some (d i)) (x i));rw[zJA d x k v r _ (fun j hj=>h j (List.mem_cons_of_mem _ hj)),zNr a _ _ (h i List.mem_cons_self)]
theorem zGy{d:Nat->Nat}{x y:Nat->Value}:∀{M:List Nat} {a:Act},(∀i∈M,x i=y i)->qb d x M a=qb d y M a
 | [],_,_=>rfl
 | i :: r,a,h=>by
  show qb d x r (a.put (some (d i)) (x i))=qb d y r (a.put (some (d i)) (y i));rw[h i List.mem_cons_self];exact zGy (fun j hj=>h j (List.mem_cons_of_mem _ hj))
def zIn(x:Nat->Value)(i:Nat)(v:Value)(j:Nat):Value:=if j=i then v else x j
theorem zJo(d:Nat->Nat)(x:Nat->Value)(i:Nat)(v:Value):∀(M:List Nat) (a:Act),i∈M->M.Pairwise (fun p q=>d p≠d q)->(qb d x M a).put (some (d i)) v=qb d (zIn x i v) M a
 | [],_,h,_=>by cases h
 | j :: r,a,h,hp=>by
  obtain⟨h1,h2⟩:=List.pairwise_cons.1 hp;show(qb d x r (a.put (some (d j)) (x j))).put (some (d i)) v=qb d (zIn x i v) r (a.put (some (d j)) (zIn x i v j));by_cases e:j=i
  ·subst e;have aA:∀p∈r,d p≠d j:=fun p hp e=>h1 p hp e.symm
   rw[zJA d x (d j) v r _ aA,zPs];have e1:zIn x j v j=v:=(by unfold zIn;rw[if_pos rfl]);rw[e1];refine zGy (fun p hp=>?_);unfold zIn;rw[if_neg (fun e=>aA p hp (by rw[e]))]
  ·have e1:zIn x i v j=x j:=(by unfold zIn;rw[if_neg e]);rw[e1];rcases List.mem_cons.1 h with h | h
   ·exact absurd h.symm e
   ·exact zJo d x i v r _ h h2
def zAt(b:Nat->Bool):List Nat->Array Bool->Array Bool
 | [],l=>l
 | i :: r,l=>zAt b r (if b i then l.setIfInBounds i true else l)
def zBd(b:Nat->Bool)(i:Nat)(j:Nat):Bool:=j == i || b j
theorem zGI(b:Nat->Bool)(k:Nat):∀(M:List Nat) (l:Array Bool),(zAt b M l).setIfInBounds k true=zAt b M (l.setIfInBounds k true)
 | [],_=>rfl
 | i :: r,l=>by
  show(zAt b r (if b i then l.setIfInBounds i true else l)).setIfInBounds k true=zAt b r (if b i then(l.setIfInBounds k true).setIfInBounds i true else l.setIfInBounds k true);rw[zGI b k r];by_cases h:b i
  ·rw[if_pos h,if_pos h];by_cases e:i=k
   ·subst e;rfl
   ·rw[Array.setIfInBounds_comm _ _ e]
  ·rw[if_neg h,if_neg h]
theorem zB1{b c:Nat->Bool}:∀{M:List Nat} {l:Array Bool},(∀i∈M,b i=c i)->zAt b M l=zAt c M l
 | [],_,_=>rfl
 | i :: r,l,h=>by
  show zAt b r (if b i then _ else _)=zAt c r (if c i then _ else _);rw[h i List.mem_cons_self];exact zB1 (fun j hj=>h j (List.mem_cons_of_mem _ hj))
theorem zFH(b:Nat->Bool)(k:Nat):∀(M:List Nat) (l:Array Bool),k∈M->(zAt b M l).setIfInBounds k true=zAt (zBd b k) M l
 | [],_,h=>by cases h
 | i :: r,l,h=>by
  show(zAt b r (if b i then l.setIfInBounds i true else l)).setIfInBounds k true=zAt (zBd b k) r (if zBd b k i then l.setIfInBounds i true else l);by_cases e:i=k
  ·subst e;have e1:zBd b i i=true:=(by unfold zBd;simp);rw[if_pos e1,zGI];have e2:(if b i then l.setIfInBounds i true else l).setIfInBounds i true=l.setIfInBounds i true:=by
    by_cases h':b i
    ·rw[if_pos h',Array.setIfInBounds_setIfInBounds]
    ·rw[if_neg h']
   rw[e2];by_cases hr:i∈r
   ·rw[<-zFH b i r _ hr,zGI,Array.setIfInBounds_setIfInBounds]
   ·refine zB1 (fun j hj=>?_);unfold zBd;have:(j == i)=false:=zES fun e=>hr (e▸hj)
    rw[this,Bool.false_or]
  ·have e1:zBd b k i=b i:=by
    unfold zBd;have:(i == k)=false:=zES e;rw[this,Bool.false_or]
   rw[e1];rcases List.mem_cons.1 h with h | h
   ·exact absurd h.symm e
   ·exact zFH b k r _ h
def zMq:List Nat->List (Nat->Bool)
 | []=>[fun _=>false]
 | i :: r=>(zMq r).flatMap fun b=>[b,zBd b i]
theorem zIA(c:Nat->Bool):∀M:List Nat,M.Nodup->∃b∈zMq M,(∀i∈M,b i=c i)/\∀i,i∉M->b i=false
 | [],_=>⟨_,List.mem_singleton.2 rfl,fun i h=>(by cases h),fun _ _=>rfl⟩
 | i :: r,hn=>by
  obtain⟨h1,h2⟩:=List.nodup_cons.1 hn;obtain⟨b,hb,hc,ho⟩:=zIA c r h2;by_cases e:c i
  ·refine⟨zBd b i,List.mem_flatMap.2 ⟨b,hb,by simp⟩,fun j hj=>?_,fun j hj=>?_⟩
   ·unfold zBd;rcases List.mem_cons.1 hj with rfl | hj
    ·simp[e]
    ·have:(j == i)=false:=zES fun e=>h1 (e▸hj)
     rw[this,Bool.false_or];exact hc j hj
   ·unfold zBd;have h3:(j == i)=false:=zES fun e=>hj (e▸List.mem_cons_self)
    rw[h3,Bool.false_or];exact ho j (fun h=>hj (List.mem_cons_of_mem _ h))
  ·refine⟨b,List.mem_flatMap.2 ⟨b,hb,by simp⟩,fun j hj=>?_,fun j hj=>?_⟩
   ·rcases List.mem_cons.1 hj with rfl | hj
    ·rw[ho j h1];simpa using e
    ·exact hc j hj
   ·exact ho j (fun h=>hj (List.mem_cons_of_mem _ h))
theorem zJa(b:Nat->Bool)(i:Nat):∀M:List Nat,M.Nodup->i∈M->b i=false->(M.countP fun j=>!b j)=(M.countP fun j=>!zBd b i j)+1
 | [],_,h,_=>by cases h
 | j :: r,hn,h,hbi=>by
  obtain⟨g1,g2⟩:=List.nodup_cons.1 hn;rw[List.countP_cons,List.countP_cons];rcases List.mem_cons.1 h with e | aA
  ·subst e;have e1:(r.countP fun j=>!b j)=r.countP fun j=>!zBd b i j:=by
    refine List.countP_congr fun p hp=>?_
    unfold zBd;have:(p == i)=false:=zES fun e=>g1 (e▸hp)
    rw[this,Bool.false_or]
   have e2:zBd b i i=true:=(by unfold zBd;simp);rw[e1,hbi,e2];simp
  ·have bA:(j == i)=false:=zES fun e=>g1 (e▸aA)
   have e2:zBd b i j=b j:=(by unfold zBd;rw[bA,Bool.false_or]);have h3:=zJa b i r g2 aA hbi;rw[e2];omega
def zJv(md:Region.Mode)(ops:Array Oper)(M:List Nat)(D:Nat->List Nat)(l0:Array Bool):Bool:=
 (zMq M).all fun b=>!(M.all fun i=>!b i || (D i).all b) || (M.all b || (!(Region.ready md ops (zAt b M l0)).isEmpty && (Region.ready md ops (zAt b M l0)).all fun i=>M.contains i && !b i && (D i).all b))
section
variable {P : Program} {md : Region.Mode} {ops : Array Oper} {Q : Exit -> Act -> World -> Prop} {S G : World -> Prop}
theorem zNm{M:List Nat}{D:Nat->List Nat}{d:Nat->Nat}{F:Nat->Value->World->Prop}{l0:Array Bool}{a0:Act}{dA:Nat}
  (jA:zJv md ops M D l0=true) (hn:M.Nodup) (hd:M.Pairwise (fun p q=>d p≠d q)) (iA:∀i∈M,∀j∈D i,j∈M)
  (hF:∀i v w w',F i v w->Below w.heap.size w w'->F i v w') (hG:∀w w',G w->Below w.heap.size w w'->G w')
  (fA:∀i∈M,∀x w,S w->G w->(∀j∈D i,F j (x j) w)->∀K:Act->World->Prop,Shut (∀a' v w',a'=(qb d x M a0).put (some (d i)) v->S w'->F i v w'->Below w.heap.size w w'->K a' w')->wpOp P ops Q i K (qb d x M a0) w)
  (gA:∀x w,S w->G w->(∀i∈M,F i (x i) w)->wpAnyH P md ops Q S dA (zAt (fun _=>true) M l0) (qb d x M a0) w) :
  ∀(n:Nat) (b:Nat->Bool),(M.countP fun i=>!b i)=n->(∀i∈M,b i=true->∀j∈D i,b j=true)->∀x w,S w->G w->(∀i∈M,b i=true->F i (x i) w)->wpAnyH P md ops Q S (dA+n) (zAt b M l0) (qb d x M a0) w:=by
 intro n
 induction n with
 | zero=>
  intro b hc hb x w hS hg hf;have eA:∀i∈M,b i=true:=fun i hi=>by
   have:=(List.countP_eq_zero.1 hc) i hi;simpa using this
  rw[zB1 (c:=fun _=>true) eA];exact gA x w hS hg (fun i hi=>hf i hi (eA i hi))
 | succ n ih=>
  intro b hc hb x w hS hg hf;obtain⟨c,rA,aA,aB⟩:=zIA b M hn;have hk:=List.all_eq_true.1 jA c rA;have tA:(M.all fun i=>!c i || (D i).all c)=true:=List.all_eq_true.2 fun i hi=>by
   rw[aA i hi];by_cases e:b i=true
   ·have:(D i).all c=true:=List.all_eq_true.2 fun j hj=>by rw[aA j (iA i hi j hj)];exact hb i hi e j hj
    rw[this];simp
   ·have:b i=false:=(by simpa using e);rw[this];rfl
  have vA:(M.all c)=false:=by
   cases h:M.all c with
   | false=>rfl
   | true=>
    have h0:(M.countP fun i=>!b i)=0:=List.countP_eq_zero.2 fun i hi=>by rw[<-aA i hi,List.all_eq_true.1 h i hi];simp
    omega
  rw[tA,vA]at hk;simp only[Bool.not_true,Bool.false_or,Bool.and_eq_true]at hk;rw[zB1 (c:=c) (fun i hi=>(aA i hi).symm)];refine⟨fun h0=>?_,fun i hi=>?_⟩
  ·rw[h0]at hk;simp at hk
  ·have hq:=List.all_eq_true.1 hk.2 i hi;simp only[Bool.and_eq_true,Bool.not_eq_true']at hq;have cA:i∈M:=(by simpa using hq.1.1);have sA:b i=false:=(by rw[<-aA i cA];exact hq.1.2);have oA:∀j∈D i,b j=true:=fun j hj=>by rw[<-aA j (iA i cA j hj)];exact List.all_eq_true.1 hq.2 j hj
   refine fA i cA x w hS hg (fun j hj=>hf j (iA i cA j hj) (oA j hj)) _ ?_;intro a' v w' ha mA pA nA;refine⟨mA,?_⟩;rw[ha,zJo d x i v M a0 cA hd,zFH c i M l0 cA];have kA:∀j∈M,zBd c i j=zBd b i j:=fun j hj=>by unfold zBd;rw[aA j hj]
   rw[zB1 (c:=zBd b i) kA];refine ih (zBd b i) ?_ ?_ (zIn x i v) w' mA (hG w w' hg nA) ?_
   ·have h1:(M.countP fun j=>!b j)=(M.countP fun j=>!zBd b i j)+1:=zJa b i M hn cA sA;omega
   ·intro p hp bA j hj;unfold zBd at bA ⊢;by_cases e:p=i
    ·subst e;rw[oA j hj];simp
    ·have lA:(p == i)=false:=zES e;rw[lA,Bool.false_or]at bA;rw[hb p hp bA j hj];simp
   ·intro p hp bA;unfold zIn;by_cases e:p=i
    ·subst e;rw[if_pos rfl];exact pA
    ·rw[if_neg e];unfold zBd at bA;have lA:(p == i)=false:=zES e;rw[lA,Bool.false_or]at bA;exact hF p _ w w' (hf p hp bA) nA
theorem zPG{M:List Nat}{D:Nat->List Nat}{d:Nat->Nat}{F:Nat->Value->World->Prop}{l0:Array Bool}{a0:Act}{dA:Nat}(x0:Nat->Value)
  (cA:zJv md ops M D l0=true) (hn:M.Nodup) (hd:M.Pairwise (fun p q=>d p≠d q)) (eA:∀i∈M,∀j∈D i,j∈M)
  (hF:∀i v w w',F i v w->Below w.heap.size w w'->F i v w') (hG:∀w w',G w->Below w.heap.size w w'->G w')
  (aA:∀i∈M,∀x w,S w->G w->(∀j∈D i,F j (x j) w)->∀K:Act->World->Prop,Shut (∀a' v w',a'=(qb d x M a0).put (some (d i)) v->S w'->F i v w'->Below w.heap.size w w'->K a' w')->wpOp P ops Q i K (qb d x M a0) w)
  (bA:∀x w,S w->G w->(∀i∈M,F i (x i) w)->wpAnyH P md ops Q S dA (zAt (fun _=>true) M l0) (qb d x M a0) w)
  {a:Act} {w:World} {f:Nat} (ha:a=qb d x0 M a0) (hf:f=dA+M.length) (hS:S w) (hg:G w):wpAnyH P md ops Q S f l0 a w:=by
 subst ha hf;have e0:zAt (fun _=>false) M l0=l0:=by
  clear cA hn hd eA aA bA
  induction M with
  | nil=>rfl
  | cons i r ih=>exact ih
 have:=zNm (P:=P) (Q:=Q) cA hn hd eA hF hG aA bA M.length (fun _=>false) (by simp[List.countP_true]) (fun i hi h=>by cases h) x0 w hS hg (fun i hi h=>by cases h)
 rwa [e0]at this
theorem zO0(a:Act)(k:Nat):a.put (some k) (a.tmps.getD k undef)=a:=by
 unfold Act.put;have:a.tmps.setIfInBounds k (a.tmps.getD k undef)=a.tmps:=by
  refine Array.ext_getElem? fun j=>?_
  rw[Array.getElem?_setIfInBounds];by_cases e:k=j
  ·subst e;by_cases h:k<a.tmps.size
   ·simp[h,Array.getD]
   ·simp[h]
  ·simp[e]
 cases a;simp only[this]
theorem zHT(d:Nat->Nat)(a:Act):∀M:List Nat,qb d (fun i=>a.tmps.getD (d i) undef) M a=a
 | []=>rfl
 | i :: r=>by
  show qb d _ r (a.put (some (d i)) (a.tmps.getD (d i) undef))=a;rw[zO0];exact zHT d a r
theorem zJQ(M:List Nat)(D:Nat->List Nat)(d:Nat->Nat)(F:Nat->Value->World->Prop)(bA:Nat){l0:Array Bool}{a:Act}{w:World}
  (dA:zJv md ops M D l0=true) (hn:M.Nodup) (hd:M.Pairwise (fun p q=>d p≠d q)) (eA:∀i∈M,∀j∈D i,j∈M)
  (hF:∀i v w w',F i v w->Below w.heap.size w w'->F i v w') (hG:∀w w',G w->Below w.heap.size w w'->G w') (hS:S w) (hg:G w)
  (aA:∀i∈M,∀x w,S w->G w->(∀j∈D i,F j (x j) w)->∀K:Act->World->Prop,Shut (∀a' v w',a'=(qb d x M a).put (some (d i)) v->S w'->F i v w'->Below w.heap.size w w'->K a' w')->wpOp P ops Q i K (qb d x M a) w)
  (cA:∀x w,S w->G w->(∀i∈M,F i (x i) w)->wpAnyH P md ops Q S bA (zAt (fun _=>true) M l0) (qb d x M a) w):wpAnyH P md ops Q S (bA+M.length) l0 a w:=
 zPG (fun i=>a.tmps.getD (d i) undef) dA hn hd eA hF hG aA cA (zHT d a M).symm rfl hS hg
end
def zCf(w:World)(lb:Array Value)(caps:List Value):Prop:=lb.size=caps.length/\∀(k:Nat) (u:Value),caps[k]?=some u->∃B,lb[k]?=some (.pointer (some ⟨B,0,none⟩))/\w.cell? ⟨B,0,none⟩=some u
theorem zCf.zRJ{w w':World}{lb:Array Value}{caps:List Value}(h:zCf w lb caps)(t:Below w.heap.size w w'):zCf w' lb caps:=
 ⟨h.1,fun k u hk=>by
  obtain⟨B,h1,h2⟩:=h.2 k u hk;exact⟨B,h1,(t.cell (zD h2)).trans h2⟩⟩
theorem zCf.one{w:World}{B:Nat}{u:Value}(h:w.cell? ⟨B,0,none⟩=some u):zCf w #[.pointer (some ⟨B,0,none⟩)] [u]:=
 ⟨rfl,fun k x hk=>by
  match k,hk with
  | 0,hk=>simp at hk;subst hk;exact⟨B,rfl,h⟩
  | k+1,hk=>simp at hk⟩
theorem zCf.is1{w:World}{lb:Array Value}{u:Value}(h:zCf w lb [u]):∃B,lb=#[.pointer (some ⟨B,0,none⟩)]/\w.cell? ⟨B,0,none⟩=some u:=by
 obtain⟨B,h1,h2⟩:=h.2 0 u rfl;refine⟨B,?_,h2⟩;have hs:=h.1;obtain⟨l⟩:=lb
 match l,hs,h1 with
 | [x],_,h1=>simp at h1;rw[h1]
def QAt(w:World)(p:Nat->Addr)(g i:Nat)(caps:List Value)(v:Value):Prop:=∃lb,v = .agg #[.func (.func g) #[] lb,qN (p i)]/\zCf w lb caps
theorem QAt.zRJ{w w':World}{p:Nat->Addr}{g i:Nat}{caps:List Value}{v:Value}(h:QAt w p g i caps v)(t:Below w.heap.size w w'):QAt w' p g i caps v:=by
 obtain⟨lb,hv,hc⟩:=h;exact⟨lb,hv,hc.zRJ t⟩
theorem zOH{w:World}{s:ByteArray}{t:TypeId}{f:Nat->ByteArray}(hs:s.size<=maxLen)(h0:f 0=s):zAH (w.alloc (.cells #[.string s] t)) (.slice (some ⟨w.heap.size,0,none⟩) 1 1) 1 f:=by
 refine⟨by omega,_,_,rfl,fun i hi=>?_,fun _=>⟨_,_,rfl,fun i hi=>?_⟩⟩
 ·obtain rfl:i=0:=(by omega);rw[h0];exact hs
 ·obtain rfl:i=0:=(by omega);rw[h0];exact World.cell?_alloc_at _ _ _ _ rfl
def zGe(w:World)(p:Nat->Addr)(m:Nat)(g ei:Nat->Nat)(caps:Nat->List Value)(v:Value):Prop:=∃lb:Nat->Array Value,zCz w p v m g lb ei/\∀k,k<m->zCf w (lb k) (caps k)
theorem zGe.zRJ{w w':World}{p:Nat->Addr}{m:Nat}{g ei:Nat->Nat}{caps:Nat->List Value}{v:Value}(h:zGe w p m g ei caps v)(t:Below w.heap.size w w'):zGe w' p m g ei caps v:=by
 obtain⟨lb,h1,h2⟩:=h;exact⟨lb,h1.zRJ t,fun k hk=>(h2 k hk).zRJ t⟩
theorem zQm{w:World}{p:Nat->Addr}{g ei:Nat->Nat}{caps:Nat->List Value}{aA:Array Value}{t:TypeId}(h0:zCf w aA (caps 0)):zGe (w.alloc (.cells #[.func (.func (g 0)) #[] aA,qN (p (ei 0))] t)) p 1 g ei caps (.slice (some ⟨w.heap.size,0,none⟩) 1 1):=by
 have bA:=zC w (.cells #[.func (.func (g 0)) #[] aA,qN (p (ei 0))] t);refine⟨(fun i=>match i with  | _=>aA),⟨by omega,_,_,rfl,fun _=>⟨_,_,rfl,fun i hi=>?_⟩⟩,fun i hi=>?_⟩
 ·obtain rfl:i=0:=(by omega);exact⟨World.cell?_alloc_at _ _ _ _ rfl,World.cell?_alloc_at _ _ _ _ rfl⟩
 ·obtain rfl:i=0:=(by omega);exact h0.zRJ bA
theorem zMu(v0 v1 v2 v3:Value)(lo hi:Nat)(W:zH)(name:ByteArray)(w:World)(h:zl w lo hi v0 v1 v2 v3 W)(mA:W.sn<=8)(nA:name.size<=maxLen) :
  Calls Tryz.prog 92 #[zz v0 v1 v2 v3 W,.string name] w fun e w'=>zG (zAP W name) e/\Below w.heap.size w w':=by
 have Hp:=zB h;clear h;have ha:=zC w (.cells #[v0,v1,.int .i64 W.time,.int .i64 W.next,v2,v3] 37);obtain⟨⟨x0,-⟩,⟨x1,-⟩,⟨x2,-⟩,⟨x3,-⟩,⟨x4,-⟩,⟨x5,-⟩⟩:=zi.zRL w (v0) (v1) (.int .i64 W.time) (.int .i64 W.next) (v2) (v3) 37;go_enter Tryz.func92,Tryz.ntmps92;go_wp2_with fail;clear x0 x1 x2 x3 x4 x5;generalize w.alloc (.cells #[v0,v1,.int .i64 W.time,.int .i64 W.next,v2,v3] 37)=W0 at ha ⊢;refine(zDy v0 v1 v2 v3 lo hi W W0 (Hp.out.zRJ ha) mA).mono ?_;rintro e w1 ⟨vd,rfl,cA,kA,fA⟩;have jA:∀i,i<W.sn->∃a n c,vd i = .slice a n c:=fun i hi'=>by
  obtain⟨_,aa,cc,hv,_⟩:=kA i hi';exact⟨aa,_,cc,hv⟩
 obtain⟨s0,i1,i2,i3,i4,sa,sn,sc,gA⟩:=zJP jA name;have lA:=zB gA;have dA:=zB (zLV (W:=W) (vd:=vd));have eA:=zB cA;have bA:=zB (zKd nA);have iA:=zA ha fA;clear cA kA jA fA ha gA;obtain⟨M,hM⟩:∃M,M=W0.heap.size+1:=⟨_,rfl⟩;rw[<-hM]at eA ⊢;clear hM;by_cases aA:zAP W name
 ·skip;have Hc:=zB (show Maps.has (putD (fun i=>zCr (W.zRS i).name) (fun i=>zDF (vd i) (W.zRS i)) W.sn) (zCr name)=true from(dA.out name).2 aA);have Hn:=zB aA;clear aA;go_wp2_with (first
   | (at_lookup;refine yz _ rfl _ _ 177 rfl 9 67 zOr zLD (zFd _) M W.sn _ rfl eA.out _ _ rfl bA.out _ lA.out true Hc.out ?_)
   | go_in)
  go_ret;exact⟨zG.yes Hn.out,zA iA (zC w1 (.cells #[.string s0,.int .i64 i1,.int .i64 i2,.int .i64 i3,.int .i64 i4,.slice sa sn sc] 67))⟩
 ·skip;have Hc:=zB (show Maps.has (putD (fun i=>zCr (W.zRS i).name) (fun i=>zDF (vd i) (W.zRS i)) W.sn) (zCr name)=false from by rw[Bool.eq_false_iff];exact fun h=>aA ((dA.out name).1 h));have Hn:=zB aA;clear aA;go_wp2_with (first
   | (at_lookup;refine yz _ rfl _ _ 177 rfl 9 67 zOr zLD (zFd _) M W.sn _ rfl eA.out _ _ rfl bA.out _ lA.out false Hc.out ?_)
   | go_in)
  go_ret;exact⟨zG.no Hn.out,zA iA (zC w1 (.cells #[.string s0,.int .i64 i1,.int .i64 i2,.int .i64 i3,.int .i64 i4,.slice sa sn sc] 67))⟩
theorem zIl(v0 v1 v2 v3:Value)(lo hi:Nat)(W:zH)(B:Nat)(name:ByteArray)(w:World)(h:zl w lo hi v0 v1 v2 v3 W)(bA:W.sn<=8)(dA:name.size<=maxLen)(hc:w.cell? ⟨B,0,none⟩=some (.string name)) :
  Calls Tryz.prog 91 #[zz v0 v1 v2 v3 W,.pointer (some ⟨B,0,none⟩)] w fun e w'=>zG (zAP W name) e/\Below w.heap.size w w':=by
 have Hp:=zB h;clear h;have ha:=zC w (.cells #[v0,v1,.int .i64 W.time,.int .i64 W.next,v2,v3] 37);have eA:=(ha.cell (zD hc)).trans hc;obtain⟨⟨x0,-⟩,⟨x1,-⟩,⟨x2,-⟩,⟨x3,-⟩,⟨x4,-⟩,⟨x5,-⟩⟩:=zi.zRL w (v0) (v1) (.int .i64 W.time) (.int .i64 W.next) (v2) (v3) 37;go_enter Tryz.func91,Tryz.ntmps91;go_wp2_with fail;clear x0 x1 x2 x3 x4 x5 hc eA;generalize w.alloc (.cells #[v0,v1,.int .i64 W.time,.int .i64 W.next,v2,v3] 37)=W0 at ha ⊢;refine(zMu v0 v1 v2 v3 lo hi W name W0 (Hp.out.zRJ ha) bA dA).mono ?_;rintro e w1 ⟨⟨t,rfl,ht⟩,cA⟩;have aA:=zA ha cA;by_cases hf:zAP W name
 ·obtain rfl:t=true:=ht.2 hf;have HF:=zB hf;clear ht hf;go_wp2;go_ret;exact⟨zG.yes HF.out,aA⟩
 ·obtain rfl:t=false:=zQ ht hf;have HF:=zB hf;clear ht hf;go_wp2;go_ret;exact⟨zG.no HF.out,aA⟩
theorem zKe(p:Nat->Addr)(s0:ByteArray)(w:World)(hE:zEp w p) :
  Calls Tryz.prog 33 #[.string s0] w fun e w'=>∃B0:Nat,e = .returned (.agg #[.func (.func 91) #[] #[.pointer (some ⟨B0,0,none⟩)],qN (p 2)])/\w'.cell? ⟨B0,0,none⟩=some (.string s0)/\Below w.heap.size w w':=by
 have bA:=zC w (.cells #[.string s0] 9);have eA:=zC (w.alloc (.cells #[.string s0] 9)) (.cells #[.nilFunc,.nilIface] 75);have hb:=zA (bA) eA;have c0:(w.alloc (.cells #[.string s0] 9)).cell? ⟨w.heap.size,0,none⟩=some (.string s0):=World.cell?_alloc_at _ _ _ _ rfl;have hg:((w.alloc (.cells #[.string s0] 9)).alloc (.cells #[.nilFunc,.nilIface] 75)).cell? ⟨0,0,none⟩=some (qN (p 2)):=(hE.zRJ hb).cell 2 (by omega);have cA:=zC (w.alloc (.cells #[.string s0] 9)) (.cells #[.func (.func 91) #[] #[.pointer (some ⟨w.heap.size,0,none⟩)],qN (p 2)] 75);have fA:=zA (bA) cA;have dA:=zB ((cA.cell (zD c0)).trans c0);clear c0;go_enter Tryz.func33,Tryz.ntmps33;have gA:=fun (ww:World) (a:Addr)=>run_store Tryz.prog ww a (.func (.func 91) #[] #[.pointer (some ⟨w.heap.size,0,none⟩)]) .plain rfl
 go_wp2_with fail;have aA:=zc.zRL (w.alloc (.cells #[.string s0] 9)) (.func (.func 91) #[] #[.pointer (some ⟨w.heap.size,0,none⟩)]) (qN (p 2)) 75;rw[World.size_alloc]at aA;refine bodyPost_ret (v:=.agg #[.func (.func 91) #[] #[.pointer (some ⟨w.heap.size,0,none⟩)],qN (p 2)]) (by simp[results,Tryz.results33,go_sem,aA.1.1,aA.2.1]) rfl ⟨_,rfl,dA.out,fA⟩
theorem zD3(p:Nat->Addr)(v0 v1 v2 v3:Value)(lo hi:Nat)(W:zH)(name:ByteArray)(zRV:Int)(o:zBz)(w:World)(hE:zEp w p)(h:zl w lo hi v0 v1 v2 v3 W)(tB:zCG W)(b1:qD W.zRQ<=1048576)(b2:W.sn<=1048576)(b3:W.pn<=1048576)(b4:zDY W)(fA:name.size<=maxLen)(gA:(Lit.int .i64 zRV).wf=true)
  (nB:∀B0 B1 C w' z0 z1 z2 z3,w'.cell? ⟨B0,0,none⟩=some (.string name)->B0<C->w'.cell? ⟨B1,0,none⟩=some (.int .i64 zRV)->B1<C->zAu W->¬(∃i,i<1/\8000<((fun (_:Nat)=>name) i).size)->¬(∃i,i<0/\¬yM ((fun _=>⟨#[]⟩) i))->(∀j,j<1->(fun i=>match i with  | _=>zAP W name) j)->C<w'.heap.size->Below w.heap.size w w'->qR w' (C+1) w'.heap.size z0 z1 z2 z3 W->yn w' C z0 z1 (.int .i64 W.time) (.int .i64 W.next) z2 z3 (.int .i64 0) (.int .i64 0) .nilIface->Calls Tryz.prog 47 #[.pointer (some ⟨C,0,none⟩),.pointer (some ⟨B0,0,none⟩),.pointer (some ⟨B1,0,none⟩)] w' (zLH p o C w')) :
  Calls Tryz.prog 17 #[zz v0 v1 v2 v3 W,.string name,.int .i64 zRV] w fun e w'=>∃r,zH1 W (∃i,i<1/\8000<((fun (_:Nat)=>name) i).size) (∃i,i<0/\¬yM ((fun _=>⟨#[]⟩) i)) 1 (fun i=>match i with  | _=>zAP W name) (fun i=>match i with  | _=>2) r/\zBw (zMx r o) w e w':=by
 have Hp:=zd h;have HE:=zd hE;have mC:=zd nB;have cC:=zd tB;have dA:=zd fA;have vA:=zd gA;clear gA;clear h hE nB tB;have vB:=zC w (.cells #[v0,v1,.int .i64 W.time,.int .i64 W.next,v2,v3] 37);have jB:=zC (w.alloc (.cells #[v0,v1,.int .i64 W.time,.int .i64 W.next,v2,v3] 37)) (.cells #[.string name] 9);have bB:=zC ((w.alloc (.cells #[v0,v1,.int .i64 W.time,.int .i64 W.next,v2,v3] 37)).alloc (.cells #[.string name] 9)) (.cells #[.int .i64 zRV] 2);have nA:=zC (((w.alloc (.cells #[v0,v1,.int .i64 W.time,.int .i64 W.next,v2,v3] 37)).alloc (.cells #[.string name] 9)).alloc (.cells #[.int .i64 zRV] 2)) (.cells #[.slice none 0 0,.slice none 0 0,.int .i64 0,.int .i64 0,.slice none 0 0,.slice none 0 0,.int .i64 0,.int .i64 0,.int .i64 0] 39);have hb:=zA (zA (zA (vB) jB) bB) nA;have HX:=zd ((((zi.zRL w (v0) (v1) (.int .i64 W.time) (.int .i64 W.next) (v2) (v3) 37).zRJ jB).zRJ bB).zRJ nA);have c0:((w.alloc (.cells #[v0,v1,.int .i64 W.time,.int .i64 W.next,v2,v3] 37)).alloc (.cells #[.string name] 9)).cell? ⟨(w.alloc (.cells #[v0,v1,.int .i64 W.time,.int .i64 W.next,v2,v3] 37)).heap.size,0,none⟩=some (.string name):=World.cell?_alloc_at _ _ _ _ rfl;rw[World.size_alloc]at c0;replace c0:=(bB.cell (zD c0)).trans c0;replace c0:=(nA.cell (zD c0)).trans c0;have oB:=zd c0;clear c0;have c1:(((w.alloc (.cells #[v0,v1,.int .i64 W.time,.int .i64 W.next,v2,v3] 37)).alloc (.cells #[.string name] 9)).alloc (.cells #[.int .i64 zRV] 2)).cell? ⟨((w.alloc (.cells #[v0,v1,.int .i64 W.time,.int .i64 W.next,v2,v3] 37)).alloc (.cells #[.string name] 9)).heap.size,0,none⟩=some (.int .i64 zRV):=World.cell?_alloc_at _ _ _ _ rfl;rw[World.size_alloc,World.size_alloc]at c1;replace c1:=(nA.cell (zD c1)).trans c1;have lB:=zd c1;clear c1;have hr:=yn.zRL (((w.alloc (.cells #[v0,v1,.int .i64 W.time,.int .i64 W.next,v2,v3] 37)).alloc (.cells #[.string name] 9)).alloc (.cells #[.int .i64 zRV] 2)) (.slice none 0 0) (.slice none 0 0) (.int .i64 0) (.int .i64 0) (.slice none 0 0) (.slice none 0 0) (.int .i64 0) (.int .i64 0) (.int .i64 0) 39;rw[World.size_alloc,World.size_alloc,World.size_alloc]at hr;have HR:=zd hr;clear hr;have hz:((((w.alloc (.cells #[v0,v1,.int .i64 W.time,.int .i64 W.next,v2,v3] 37)).alloc (.cells #[.string name] 9)).alloc (.cells #[.int .i64 zRV] 2)).alloc (.cells #[.slice none 0 0,.slice none 0 0,.int .i64 0,.int .i64 0,.slice none 0 0,.slice none 0 0,.int .i64 0,.int .i64 0,.int .i64 0] 39)).heap.size=w.heap.size+4:=by rw[World.size_alloc,World.size_alloc,World.size_alloc,World.size_alloc]
 go_enter Tryz.func17,Tryz.ntmps17;go_upto_region 1 with fail;generalize ((((w.alloc (.cells #[v0,v1,.int .i64 W.time,.int .i64 W.next,v2,v3] 37)).alloc (.cells #[.string name] 9)).alloc (.cells #[.int .i64 zRV] 2)).alloc (.cells #[.slice none 0 0,.slice none 0 0,.int .i64 0,.int .i64 0,.slice none 0 0,.slice none 0 0,.int .i64 0,.int .i64 0,.int .i64 0] 39))=W1 at hb HX HR hz oB lB ⊢;clear vB jB bB nA;obtain⟨⟨x0,-⟩,⟨x1,-⟩,⟨x2,-⟩,⟨x3,-⟩,⟨x4,-⟩,⟨x5,-⟩⟩:=HX.out;have k0:=oB.out;have k1:=lB.out;have aA:=zd (show ∀w',Below (w.heap.size+1+1+1) W1 w'->(fun w'=>w'.cell? ⟨w.heap.size,0,none⟩=some (v0)/\w'.cell? ⟨w.heap.size,1,none⟩=some (v1)/\w'.cell? ⟨w.heap.size,2,none⟩=some (.int .i64 W.time)/\w'.cell? ⟨w.heap.size,3,none⟩=some (.int .i64 W.next)/\w'.cell? ⟨w.heap.size,4,none⟩=some (v2)/\w'.cell? ⟨w.heap.size,5,none⟩=some (v3)/\w'.cell? ⟨w.heap.size+1,0,none⟩=some (.string name)/\w'.cell? ⟨w.heap.size+1+1,0,none⟩=some (.int .i64 zRV)/\Below (w.heap.size+1+1+1) W1 w') w' from fun w' bA=>⟨(bA.cell (p:=⟨w.heap.size,0,none⟩) (by show w.heap.size<_;omega)).trans x0,(bA.cell (p:=⟨w.heap.size,1,none⟩) (by show w.heap.size<_;omega)).trans x1,(bA.cell (p:=⟨w.heap.size,2,none⟩) (by show w.heap.size<_;omega)).trans x2,(bA.cell (p:=⟨w.heap.size,3,none⟩) (by show w.heap.size<_;omega)).trans x3,(bA.cell (p:=⟨w.heap.size,4,none⟩) (by show w.heap.size<_;omega)).trans x4,(bA.cell (p:=⟨w.heap.size,5,none⟩) (by show w.heap.size<_;omega)).trans x5,(bA.cell (p:=⟨w.heap.size+1,0,none⟩) (by show w.heap.size+1<_;omega)).trans k0,(bA.cell (p:=⟨w.heap.size+1+1,0,none⟩) (by show w.heap.size+1+1<_;omega)).trans k1,bA⟩);have iA:w.heap.size+1+1+1<=W1.heap.size:=by omega
 clear x0 x1 x2 x3 x4 x5 k0 k1;refine wp_region_held_drew (S:=(fun w'=>w'.cell? ⟨w.heap.size,0,none⟩=some (v0)/\w'.cell? ⟨w.heap.size,1,none⟩=some (v1)/\w'.cell? ⟨w.heap.size,2,none⟩=some (.int .i64 W.time)/\w'.cell? ⟨w.heap.size,3,none⟩=some (.int .i64 W.next)/\w'.cell? ⟨w.heap.size,4,none⟩=some (v2)/\w'.cell? ⟨w.heap.size,5,none⟩=some (v3)/\w'.cell? ⟨w.heap.size+1,0,none⟩=some (.string name)/\w'.cell? ⟨w.heap.size+1+1,0,none⟩=some (.int .i64 zRV)/\Below (w.heap.size+1+1+1) W1 w')) (by kernel_rfl) (aA.out _ ((Below.refl _ _).drew.mono iA)) (fun hHeld=>?_);have gC:Below W1.heap.size W1 W1.drew:=(Below.refl _ _).drew;refine tk 0 (h:=?_);refine tk 2 (h:=?_);refine tk 5 (h:=?_);refine tk 7 (h:=?_);refine zJQ [1,3,4] (fun i=>if i=4 then [3] else []) (fun i=>i+7) (fun i v w'=>(i=1->zAH w' v 1 (fun (_:Nat)=>name))/\(i=3->QAt w' p 91 2 [.string name] v)/\(i=4->zGe w' p 1 (fun i=>match i with  | _=>91) (fun i=>match i with  | _=>2) (fun i=>match i with  | _=>[.string name]) v)) 3 (G:=fun w'=>Below W1.heap.size W1 w') (by kernel_rfl) (by decide) (by decide) (by decide) ?_ (fun _ _ h t=>zA h t) (by assumption) gC ?_ ?_
 ·intro i v w' rC hf t;exact⟨fun e=>(hf.1 e).zRJ t,fun e=>(hf.2.1 e).zRJ t,fun e=>(hf.2.2 e).zRJ t⟩
 ·intro i hi x w2 hS hG hD K hK;simp only[List.mem_cons,List.not_mem_nil,or_false]at hi;rcases hi with rfl | rfl | rfl
  ·refine wpOp_step (zAW rfl) (fun K' mA=>?_);simp only[qb,Act.put,Nat.reduceAdd,s1,s2,s3];have sA:=zC w2 (.cells #[.string name] 9);go_simp;refine mA _ _ (hK.out _ _ _ ?_ (aA.out _ ((zA hG sA).mono iA)) ⟨fun _=>zOH dA.out rfl,fun e=>absurd e (by decide),fun e=>absurd e (by decide)⟩ sA);simp only[qb,Act.put,Nat.reduceAdd,s1,s2,s3]
  ·refine wpOp_step (zAW rfl) (fun K' mA=>?_);simp only[qb,Act.put,Nat.reduceAdd,s1,s2,s3];go_simp;go_at_call 33;refine(zKe p name w2 (HE.out.zRJ (zA hb hG))).mono ?_;rintro e w3 ⟨B0,rfl,kA,cB⟩;refine mA _ _ (hK.out _ _ w3 ?_ (aA.out _ ((zA hG cB).mono iA)) ⟨fun e=>absurd e (by decide),fun _=>⟨_,rfl,zCf.one kA⟩,fun e=>absurd e (by decide)⟩ cB);simp only[qb,Act.put,Nat.reduceAdd,s1,s2,s3]
  ·refine wpOp_step (zAW rfl) (fun K' mA=>?_);simp only[qb,Act.put,Nat.reduceAdd,s1,s2,s3];obtain⟨rB,e0,pA⟩:=(hD 3 (by decide)).2.1 rfl;simp only[e0];have sA:=zC w2 (.cells #[.func (.func 91) #[] rB,qN (p 2)] 75);have hA:zGe (w2.alloc (.cells #[.func (.func 91) #[] rB,qN (p 2)] 75)) p 1 (fun i=>match i with  | _=>91) (fun i=>match i with  | _=>2) (fun i=>match i with  | _=>[.string name]) (.slice (some ⟨w2.heap.size,0,none⟩) 1 1):=zQm (g:=(fun i=>match i with  | _=>91)) (ei:=(fun i=>match i with  | _=>2)) (caps:=(fun i=>match i with  | _=>[.string name])) pA;go_simp;refine mA _ _ (hK.out _ _ _ ?_ (aA.out _ ((zA hG sA).mono iA)) ⟨fun e=>absurd e (by decide),fun e=>absurd e (by decide),fun _=>hA⟩ sA);simp only[qb,Act.put,Nat.reduceAdd,s1,s2,s3,e0]
 ·intro x w2 hS hG hF;have hT:=(hF 1 (by decide)).1 rfl;obtain⟨-,ta,tc,et,-,-⟩:=id hT;have hN:zAH w2 (.slice none 0 0) 0 (fun _=>⟨#[]⟩):=⟨by omega,_,_,rfl,fun i hi=>absurd hi (Nat.not_lt_zero _),fun h=>absurd h (Nat.lt_irrefl _)⟩;obtain⟨lb,hA,tA⟩:=(hF 4 (by decide)).2.2 rfl;obtain⟨-,qa,qc,eq,-⟩:=id hA;simp only[qb,zAt,if_true,Act.put,Nat.reduceAdd,s1,s2,s3,et,eq];rw[et]at hT;rw[eq]at hA;have bA:=zA hb hG;have fC:=zd hT;have jC:=zd hN;have iC:=zd hA;have kB:=zd tA;clear hT hN hA tA hF;refine tk 6 (h:=?_);refine rd [8] (rc (fun K hK=>?_) .nil);go_simp;go_at_call 38;refine(zQp p _ _ _ 47 #[.pointer (some ⟨w.heap.size+1,0,none⟩),.pointer (some ⟨w.heap.size+1+1,0,none⟩)] 1 0 1 (fun (_:Nat)=>name) (fun _=>⟨#[]⟩) (fun i=>match i with  | _=>91) lb (fun i=>match i with  | _=>2) (fun i=>match i with  | _=>zAP W name) o _ _ _ _ lo hi W w2 (HE.out.zRJ bA) (Hp.out.zRJ bA) cC.out b1 b2 b3 b4 fC.out jC.out iC.out ?_ ?_ (enters_of Tryz.func47 (by kernel_rfl) rfl) ?_ ?_).mono ?_
  ·intro i hi;obtain rfl:i=0:=(by omega);decide
  ·intro i hi;obtain rfl:i=0:=(by omega);exact enters_of Tryz.func91 (by kernel_rfl) rfl
  ·intro i hi' w' jA hI oC;have hW:=(Hp.out.zRJ bA).zRJ jA;have h8:=hI.zRa.zRS.1;have pC:=hI.zRa.zRP.1;obtain rfl:i=0:=(by omega);obtain⟨B0,aC,kA⟩:=(kB.out 0 (by decide)).is1;replace kA:=(jA.cell (zD kA)).trans kA;rw[aC];exact zIl v0 v1 v2 v3 lo hi W B0 name w' hW h8 fA kA
  ·intro C w' z0 z1 z2 z3 hC jA eC hI hl dC hq cA iB;exact mC.out (w.heap.size+1) (w.heap.size+1+1) C w' z0 z1 z2 z3 ((jA.cell (zD hS.2.2.2.2.2.2.1)).trans hS.2.2.2.2.2.2.1) (by have:=hG.size;omega) ((jA.cell (zD hS.2.2.2.2.2.2.2.1)).trans hS.2.2.2.2.2.2.2.1) (by have:=hG.size;omega) hI hl dC hq eC (zA bA jA) cA iB
  rintro e w3 ⟨r,rA,z0,z1,z2,z3,rfl,cA,cB⟩;obtain⟨n0,dB,n1,aB,n2,fB,n3,eB,rfl,rfl,rfl,rfl⟩:=cA.form;have lA:=zA hG cB;have sB:=zd (HR.out.zRJ lA);have oA:=zd cA;have gB:=zd rA;clear cA rA;generalize mB:zMx r o=oo at oA ⊢;have kC:=zd mB;clear mB
  (try go_wp2_with fail)
  refine hK.out _ _ (aA.out _ (lA.mono iA)) ?_;clear hK K hHeld;intro hHeld
  try simp only[Act.put,s1,s2,s3]
  refine rd [9] (rc (fun K hK=>?_) .nil);obtain⟨⟨r0,g0⟩,⟨r1,g1⟩,⟨r2,g2⟩,⟨r3,g3⟩,⟨r4,g4⟩,⟨r5,g5⟩,⟨r6,g6⟩,⟨r7,g7⟩,⟨r8,g8⟩⟩:=sB.out;go_simp
  (try go_wp2_with fail)
  have hT:=zF.put9 w3 (w.heap.size+1+1+1) (.slice n0 oo.world.zRQ.n dB) (.slice n1 oo.world.zRQ.hn aB) (.int .i64 oo.world.time) (.int .i64 oo.world.next) (.slice n2 oo.world.sn fB) (.slice n3 oo.world.pn eB) (.int .i64 oo.id) (.int .i64 oo.zRb) (.int .i64 oo.code);have bC:Below (w.heap.size+1+1+1) W1 (((((((((w3.setCell ⟨w.heap.size+1+1+1,0,none⟩ (.slice n0 oo.world.zRQ.n dB)).setCell ⟨w.heap.size+1+1+1,1,none⟩ (.slice n1 oo.world.zRQ.hn aB)).setCell ⟨w.heap.size+1+1+1,2,none⟩ (.int .i64 oo.world.time)).setCell ⟨w.heap.size+1+1+1,3,none⟩ (.int .i64 oo.world.next)).setCell ⟨w.heap.size+1+1+1,4,none⟩ (.slice n2 oo.world.sn fB)).setCell ⟨w.heap.size+1+1+1,5,none⟩ (.slice n3 oo.world.pn eB)).setCell ⟨w.heap.size+1+1+1,6,none⟩ (.int .i64 oo.id)).setCell ⟨w.heap.size+1+1+1,7,none⟩ (.int .i64 oo.zRb)).setCell ⟨w.heap.size+1+1+1,8,none⟩ (.int .i64 oo.code)):=(lA.mono iA).trans (hT.zRJ (B:=w.heap.size+1+1+1) (by have:=lA.size;omega) (fun k e=>by omega));refine hK.out _ _ (aA.out _ bC) ?_;clear hK K hHeld r0 r1 r2 r3 r4 r5 r6 r7 r8 g0 g1 g2 g3 g4 g5 g6 g7 g8;intro hHeld
  try simp only[Act.put,s1,s2,s3]
  refine wpAnyH_done (by kernel_rfl) ?_ _;go_wp2_with fail;have eA:=sB.out.put (.slice n0 oo.world.zRQ.n dB) (.slice n1 oo.world.zRQ.hn aB) (.int .i64 oo.world.time) (.int .i64 oo.world.next) (.slice n2 oo.world.sn fB) (.slice n3 oo.world.pn eB) (.int .i64 oo.id) (.int .i64 oo.zRb) (.int .i64 oo.code);have pB:=zA hb lA;have lC:=hT.size;have nC:=lA.size;refine bodyPost_ret (v:=.agg #[.slice n0 oo.world.zRQ.n dB,.slice n1 oo.world.zRQ.hn aB,.int .i64 oo.world.time,.int .i64 oo.world.next,.slice n2 oo.world.sn fB,.slice n3 oo.world.pn eB,.int .i64 oo.id,.int .i64 oo.zRb,.int .i64 oo.code]) (by simp[results,Tryz.results17,go_sem,eA.1.1,eA.2.1.1,eA.2.2.1.1,eA.2.2.2.1.1,eA.2.2.2.2.1.1,eA.2.2.2.2.2.1.1,eA.2.2.2.2.2.2.1.1,eA.2.2.2.2.2.2.2.1.1,eA.2.2.2.2.2.2.2.2.1]) rfl ⟨r,gB.out,?_⟩;rw[kC.out];refine⟨_,_,_,_,rfl,?_,?_⟩
  ·exact(oA.out.zRR hT (fun k e=>by have:=hG.size;omega)).zRO (by have:=hG.size;omega) lC
  ·exact pB.trans (hT.zRJ (B:=w.heap.size) pB.size (fun k e=>by omega))
def zAK(p:zJ)(xs:Int):zJ:={n:=p.n,s:=p.s,hn:=p.hn+1,h:=fun i=>if i=p.hn then xs else p.h i}
open Classical in
noncomputable def zHl(p:zJ)(xs xb:Int):zDj:=if zv p then(if zr p xs xb/\¬Has p.hn p.h xs then⟨zAK p xs,0,0,0⟩else⟨zDk 0,0,0,4⟩)else⟨zDk 0,0,0,1⟩
theorem zOF{p:zJ}{xs xb:Int}(h:¬zv p):zHl p xs xb=⟨zDk 0,0,0,1⟩:=if_neg h
theorem zJY{p:zJ}{xs xb:Int}(h:zv p)(h':¬(zr p xs xb/\¬Has p.hn p.h xs)):zHl p xs xb=⟨zDk 0,0,0,4⟩:=(if_pos h).trans (if_neg h')
theorem zNL{p:zJ}{xs xb:Int}(h:zv p)(h':zr p xs xb)(aA:¬Has p.hn p.h xs):zHl p xs xb=⟨zAK p xs,0,0,0⟩:=(if_pos h).trans (if_pos ⟨h',aA⟩)
theorem zOe{f g:Nat->Int}{n:Nat}(h:∀i,i<n->f i=g i):ic f n=ic g n:=by
 induction n with
 | zero=>rfl
 | succ n ih=>
  unfold ic;rw[ih (fun i hi=>h i (by omega)),h n (by omega)]
theorem zNK(p:zJ)(xs:Int):ic (zAK p xs).h (p.hn+1)=ic p.h p.hn ++ [.int .i64 xs]:=by
 show ic (zAK p xs).h p.hn ++ [.int .i64 ((zAK p xs).h p.hn)]=_;rw[zOe (f:=(zAK p xs).h) (g:=p.h) (fun i hi=>if_neg (by omega)),show(zAK p xs).h p.hn=xs from if_pos rfl]
theorem zQw(w:World)(a0 a1 x0 x1:Value)(t1 t2 t3:TypeId) :
  zc (((w.alloc (.cells #[a0,a1] t1)).alloc (.cells #[x0,x1] t2)).alloc (.cells #[.slice none 0 0,.slice none 0 0,.int .i64 0,.int .i64 0,.int .i64 0] t3)) w.heap.size a0 a1/\
  zc (((w.alloc (.cells #[a0,a1] t1)).alloc (.cells #[x0,x1] t2)).alloc (.cells #[.slice none 0 0,.slice none 0 0,.int .i64 0,.int .i64 0,.int .i64 0] t3)) (w.heap.size+1) x0 x1/\
  zFQ (((w.alloc (.cells #[a0,a1] t1)).alloc (.cells #[x0,x1] t2)).alloc (.cells #[.slice none 0 0,.slice none 0 0,.int .i64 0,.int .i64 0,.int .i64 0] t3)) (w.heap.size+1+1) (.slice none 0 0) (.slice none 0 0) (.int .i64 0) (.int .i64 0) (.int .i64 0)/\
  Below w.heap.size w (((w.alloc (.cells #[a0,a1] t1)).alloc (.cells #[x0,x1] t2)).alloc (.cells #[.slice none 0 0,.slice none 0 0,.int .i64 0,.int .i64 0,.int .i64 0] t3))/\
  (((w.alloc (.cells #[a0,a1] t1)).alloc (.cells #[x0,x1] t2)).alloc (.cells #[.slice none 0 0,.slice none 0 0,.int .i64 0,.int .i64 0,.int .i64 0] t3)).heap.size=w.heap.size+3:=by
 refine⟨((zc.zRL w a0 a1 t1).zRJ (zC _ _)).zRJ (zC _ _),?_,?_,zA (zA (zC _ _) (zC _ _)) (zC _ _),by simp⟩
 ·have:=(zc.zRL (w.alloc (.cells #[a0,a1] t1)) x0 x1 t2).zRJ (zC _ (.cells #[.slice none 0 0,.slice none 0 0,.int .i64 0,.int .i64 0,.int .i64 0] t3));rw[World.size_alloc]at this;exact this
 ·have:=zFQ.zRL ((w.alloc (.cells #[a0,a1] t1)).alloc (.cells #[x0,x1] t2)) (.slice none 0 0) (.slice none 0 0) (.int .i64 0) (.int .i64 0) (.int .i64 0) t3;rw[World.size_alloc,World.size_alloc]at this;exact this
theorem zHI{w wr:World}{lo hi R:Nat}{s0 s1 u2 u3 u4:Value}{p:zJ}(ho:zt wr lo hi s0 s1 p)(aA:R<lo)(bA:w.heap.size<=R)(cA:hi<=wr.heap.size)(hb:Below w.heap.size w wr) :
  zt (put5 wr R s0 s1 u2 u3 u4) w.heap.size (put5 wr R s0 s1 u2 u3 u4).heap.size s0 s1 p/\Below w.heap.size w (put5 wr R s0 s1 u2 u3 u4):=by
 have t:=zF.put5 wr R s0 s1 u2 u3 u4;have hz:=t.size;exact⟨(ho.zRR t (fun k hk=>by omega)).zRO (by omega) (by omega),hb.trans (t.zRJ (by have:=hb.size;omega) (fun k hk=>by omega))⟩
theorem zCg{w wr:World}{R:Nat}{u2 u3 u4:Value}(aA:w.heap.size<=R)(hb:Below w.heap.size w wr) :
  zt (put5 wr R (.slice none 0 0) (.slice none 0 0) u2 u3 u4) w.heap.size (put5 wr R (.slice none 0 0) (.slice none 0 0) u2 u3 u4).heap.size (.slice none 0 0) (.slice none 0 0) (zDk 0)/\Below w.heap.size w (put5 wr R (.slice none 0 0) (.slice none 0 0) u2 u3 u4):=by
 have t:=zF.put5 wr R (.slice none 0 0) (.slice none 0 0) u2 u3 u4;exact⟨zHo,hb.trans (t.zRJ (by have:=hb.size;omega) (fun k hk=>by omega))⟩
theorem zB7{b:Nat}{w w':World}(t:zF (fun k=>k=b) w w'):w.grownBy w' (some b):=⟨t.os,t.tape,t.output,t.size,fun k hk aA=>t.block k hk (fun e=>aA (by rw[e]))⟩
theorem zRB(w:World)(x:Value)(t:TypeId):∀j u,[x][j]?=some u->(w.alloc (.cells #[x] t)).cell? ((⟨w.heap.size,0,none⟩:Addr).add j)=some u:=by
 intro j u hj
 match j,hj with
 | 0,hj=>simp at hj;subst hj;simp[Addr.add]
 | (j+1),hj=>simp at hj
theorem zQI(x:Int):∀u∈[Value.int .i64 x],u.oneCell'=true:=by
 intro u hu;simp only[List.mem_cons,List.not_mem_nil,or_false]at hu;rw[hu];rfl
theorem zNF{w:World}{lo hi:Nat}{f:Nat->Int}{n c:Nat}{a:Option Addr}(h:qT w lo hi (.slice a n c) n f){w':World}(hb:Below w.heap.size w w'):∀b,a=some b->∀j u,(ic f n)[j]?=some u->w'.cell? (b.add j)=some u:=by
 intro b aA j u hj;have bA:j<n:=by
  have:=(List.getElem?_eq_some_iff.1 hj).1;rw[zBl]at this;omega
 obtain⟨b0,off,ha,hc⟩:=zJ9 h rfl hb (by omega);rw[ha]at aA;simp only[Option.some.injEq]at aA;subst aA;rw[add_lit];exact hc j u hj
theorem zL3{w:World}{lo hi:Nat}{f:Nat->Int}{n c:Nat}{a:Option Addr}(h:qT w lo hi (.slice a n c) n f):a=none->n=0/\n=0:=fun e=>by
 obtain⟨_,a2,c2,hv,_,hx⟩:=h;simp only[Value.slice.injEq,true_and]at hv;obtain⟨rfl,rfl⟩:=hv;by_cases h0:0<n
 ·obtain⟨b,off,ha,_⟩:=hx h0;rw[ha]at e;cases e
 ·omega
theorem zCc{w w':World}(h:w.grownBy w' none):Below w.heap.size w w':=⟨h.os,h.tape,h.output,h.size,fun k hk=>h.block k hk (by simp)⟩
theorem zFh{w:World}{b:Nat}{x:Value}(h:w.cell? ⟨b,0,none⟩=some x):∀j u,[x][j]?=some u->w.cell? ((⟨b,0,none⟩:Addr).add j)=some u:=by
 intro j u hj
 match j,hj with
 | 0,hj=>simp at hj;subst hj;rw[add_lit];exact h
 | (j+1),hj=>simp at hj
theorem zLi{p:zJ}{xs y:Int}{j:Nat}(hj:j<=p.hn):Has j (zAK p xs).h y↔Has j p.h y:=by
 constructor
 ·rintro⟨k,hk,e⟩;exact⟨k,hk,by rw[<-e];exact(if_neg (by omega:¬k=p.hn)).symm⟩
 ·rintro⟨k,hk,e⟩;exact⟨k,hk,by rw[<-e];exact if_neg (by omega:¬k=p.hn)⟩
theorem zMJ{p:zJ}{xs xb:Int}(hR:zv p)(hP:zr p xs xb)(hH:¬Has p.hn p.h xs):zv (zAK p xs):=by
 refine⟨hR.1,fun j hj=>hR.2.1 j hj,fun j hj=>?_⟩;by_cases e:j=p.hn
 ·subst e;have hx:(zAK p xs).h p.hn=xs:=if_pos rfl;refine⟨?_,?_,?_,?_⟩
  ·rw[hx];exact hP.2.1
  ·rw[hx];exact hP.2.2.1
  ·rw[hx];intro hf;have h4:=hP.2.2.2;have h5:(p.s xs.toNat).zRU=0:=hf.1;have:=hP.1;omega
  ·rw[hx,zLi (Nat.le_refl _)];exact hH
 ·have aA:j<p.hn:=(by have:j<p.hn+1:=hj;omega);have hx:(zAK p xs).h j=p.h j:=if_neg e;obtain⟨h1,h2,h3,h4⟩:=hR.2.2 j aA;refine⟨?_,?_,?_,?_⟩
  ·rw[hx];exact h1
  ·rw[hx];exact h2
  ·rw[hx];exact h3
  ·rw[hx,zLi (by omega)];exact h4
def zC3(t:Nat)(left:Int)(e:Ending):Prop:=∃r:Int,e = .returned (.int .i64 r)/\(0<=r->r+t=left)/\r<=left/\-1<=r
theorem zFK(v:Value)(n lo hi:Nat)(f g:Nat->Int)(left:Int)(w:World)(h1:zR w lo hi v n f g)(aA:0<=left)(bA:left<=1048576) :
  Calls Tryz.prog 135 #[v,.int .i64 left] w fun e w'=>zC3 n left e/\Below w.heap.size w w':=by
 obtain⟨m1,a,c,rfl,mc,g1⟩:=h1;unfold maxLen at m1;clear g1;by_cases h:left - (n:Int)<0
 ·go_enter Tryz.func135,Tryz.ntmps135;go_wp2;go_ret;exact⟨⟨-1,rfl,by omega,by omega,by omega⟩,Below.refl _ _⟩
 ·go_enter Tryz.func135,Tryz.ntmps135;go_wp2;go_ret;exact⟨⟨_,rfl,by omega,by omega,by omega⟩,Below.refl _ _⟩
theorem zJ4(v:Value)(n lo hi:Nat)(f:Nat->Int)(left:Int)(w:World)(h1:qT w lo hi v n f)(aA:0<=left)(bA:left<=1048576) :
  Calls Tryz.prog 65 #[v,.int .i64 left] w fun e w'=>zC3 n left e/\Below w.heap.size w w':=by
 obtain⟨m1,a,c,rfl,mc,g1⟩:=h1;unfold maxLen at m1;clear g1;by_cases h:left - (n:Int)<0
 ·go_enter Tryz.func65,Tryz.ntmps65;go_wp2;go_ret;exact⟨⟨-1,rfl,by omega,by omega,by omega⟩,Below.refl _ _⟩
 ·go_enter Tryz.func65,Tryz.ntmps65;go_wp2;go_ret;exact⟨⟨_,rfl,by omega,by omega,by omega⟩,Below.refl _ _⟩
theorem zNB(v0 v1 v2:Value)(lo hi:Nat)(s:zL)(left:Int)(w:World)(h1:qI w lo hi v0 v1 v2 s)(fA:0<=left)(eA:left<=1048576) :
  Calls Tryz.prog 134 #[.agg #[v0,v1,v2],.int .i64 left] w fun e w'=>zC3 (zAV s) left e/\Below w.heap.size w w':=by
 obtain⟨rfl,p1,rfl,m1⟩:=h1;have q1:=p1;obtain⟨_,a,c,rfl,_⟩:=p1;unfold maxLen at m1;go_enter Tryz.func134,Tryz.ntmps134;go_wp2_with fail;have cA:=(Below.refl w.heap.size w).alloc (Nat.le_refl _) (.cells #[.int .i64 s.zRU,.slice a s.kn c,.string s.data] 183);refine(zFK _ s.kn lo hi _ _ _ _ (q1.zRJ cA) fA eA).mono ?_;rintro e w1 ⟨⟨r,rfl,dA,iA,gA⟩,aA⟩;have bA:=zA cA aA;have e1:=aA.cell (p:=⟨w.heap.size,2,none⟩) (by simp);simp at e1;have Hr:Hid (0<=r->r+s.kn=left):=dA;clear dA aA cA;by_cases h:r<0
 ·go_wp2;go_ret;exact⟨⟨-1,rfl,by omega,by omega,by omega⟩,bA⟩
 ·by_cases h2:r - (s.data.size:Int)<0
  ·go_wp2;go_ret;exact⟨⟨-1,rfl,by omega,by omega,by omega⟩,bA⟩
  ·go_wp2;go_ret;refine⟨⟨_,rfl,fun _=>?_,by omega,by omega⟩,bA⟩;have:=Hr.out (by omega);unfold zAV;omega
theorem zK6(v:Value)(n lo hi:Nat)(f:Nat->zL)(left:Int)(w:World)(h1:qA w lo hi v n f)(oA:0<=left)(mA:left<=1048576) :
  Calls Tryz.prog 64 #[v,.int .i64 left] w fun e w'=>zC3 (n+ym f n) left e/\Below w.heap.size w w':=by
 obtain⟨m1,a,c,rfl,mc,g1⟩:=h1;unfold maxLen at m1;have G1:Hid (0<n->∃b off,a=some ⟨b,off,none⟩/\lo<=b/\b<hi/\∀i,i<n->∃v0 v1 v2,w.cell? ⟨b,off+i*3,none⟩=some v0/\w.cell? ⟨b,off+i*3+1,none⟩=some v1/\w.cell? ⟨b,off+i*3+2,none⟩=some v2/\qI w lo hi v0 v1 v2 (f i)):=g1;clear g1;by_cases h:left - (n:Int)<0
 ·go_enter Tryz.func64,Tryz.ntmps64;go_wp2;go_ret;exact⟨⟨-1,rfl,by omega,by omega,by omega⟩,Below.refl _ _⟩
 ·go_enter Tryz.func64,Tryz.ntmps64;go_wp2
  go_loopw [1,5] (fun m i wr=>∃(k:Nat) (r:Int),k<=n/\i = .int .i64 k/\m = .int .i64 r/\0<=r/\r+n+ym f k=left/\Below w.heap.size w wr) (fun _ i _=>n - (intOf i).toNat)
  case atStart=>exact⟨0,_,Nat.zero_le _,rfl,rfl,by omega,by simp[ym],Below.refl _ _⟩
  case round=>
   obtain⟨k,r,hk,rfl,rfl,jA,hr,hb⟩:=hrel;have gA:r<=left:=(by omega);have Hr:Hid (r+n+ym f k=left):=hr;clear hr;by_cases eA:k<n
   ·have kA:(k:Int)<(n:Int):=(by omega);obtain⟨b,off,rfl,_,_,k1⟩:=G1.out (by omega);obtain⟨x0,x1,x2,c0,c1,c2,hs⟩:=k1 k eA;have fA:=(hb.cell (zD c0)).trans c0;have iA:=(hb.cell (zD c1)).trans c1;have lA:=(hb.cell (zD c2)).trans c2;have dA:=hs.zRJ hb;have Hs:Hid (qI wr lo hi x0 x1 x2 (f k)):=dA;clear k1 G1 c0 c1 c2 hs;obtain⟨rfl,⟨_,ka,kc,rfl,_⟩,rfl,_⟩:=dA;go_wp2_with fail;refine(zNB _ _ _ lo hi (f k) _ _ Hs.out jA (by omega)).mono ?_;rintro e w1 ⟨⟨r',rfl,cA,nA,pA⟩,aA⟩;have bA:=zA hb aA;have Hq:Hid (0<=r'->r'+zAV (f k)=r):=cA;clear cA aA fA iA lA;by_cases h3:r'<0
    ·go_wp2;go_ret;exact⟨⟨-1,rfl,by omega,by omega,by omega⟩,bA⟩
    ·go_wp2;go_roundw
     case rel=>
      refine⟨k+1,r',by omega,by go_num,rfl,by omega,?_,bA⟩;have e1:=Hq.out (by omega);have e2:=Hr.out;show r'+(n:Int)+((ym f k+zAV (f k):Nat):Int)=left;omega
     case measure=>simp[intOf];omega
   ·obtain rfl:k=n:=(by omega);go_wp2;go_ret;exact⟨⟨r,rfl,fun _=>by have:=Hr.out;omega,gA,by omega⟩,hb⟩
theorem zMl(v0 v1:Value)(lo hi:Nat)(p:zJ)(left:Int)(w:World)(h1:zy w lo hi v0 v1 p)(jA:0<=left)(iA:left<=1048576) :
  Calls Tryz.prog 22 #[.agg #[v0,v1],.int .i64 left] w fun e w'=>zC3 (qD p) left e/\Below w.heap.size w w':=by
 have q1:=h1;obtain⟨⟨_,a,c,rfl,_⟩,⟨_,a',c',rfl,_⟩⟩:=h1;go_enter Tryz.func22,Tryz.ntmps22;go_wp2_with fail;have cA:=(Below.refl w.heap.size w).alloc (Nat.le_refl _) (.cells #[.slice a p.n c,.slice a' p.hn c'] 25);refine(zK6 _ p.n lo hi _ _ _ (q1.1.zRJ cA) jA iA).mono ?_;rintro e w1 ⟨⟨r,rfl,fA,lA,kA⟩,aA⟩;have bA:=zA cA aA;have e1:=aA.cell (p:=⟨w.heap.size,1,none⟩) (by simp);simp at e1;have Hr:Hid (0<=r->r+(p.n+ym p.s p.n:Nat)=left):=fA;clear fA aA cA;by_cases h:r<0
 ·go_wp2;go_ret;exact⟨⟨-1,rfl,by omega,by omega,by omega⟩,bA⟩
 ·go_wp2_with fail;refine(zJ4 _ p.hn lo hi _ _ _ (q1.2.zRJ bA) (by omega) (by omega)).mono ?_;rintro e w2 ⟨⟨r',rfl,eA,mA,nA⟩,gA⟩;have dA:=zA bA gA;have Hq:Hid (0<=r'->r'+p.hn=r):=eA;clear eA gA;by_cases h3:r'<0
  ·go_wp2;go_ret;exact⟨⟨-1,rfl,by omega,by omega,by omega⟩,dA⟩
  ·go_wp2;go_ret;refine⟨⟨r',rfl,fun _=>?_,by omega,by omega⟩,dA⟩;have e1:=Hq.out (by omega);have e2:=Hr.out (by omega);unfold qD;omega
theorem zG0{p:zJ}(h:∀i,i<p.n->qG (p.s i)\/zAN p (p.s i)):∀k,k<=p.n->ym p.s k<=24*k
 | 0,_=>Nat.le_refl _
 | k+1,hk=>by
  have ih:=zG0 h k (by omega);have hs:zAV (p.s k)<=24:=by
   unfold zAV;rcases h k (by omega)with hf | hf
   ·have h1:=hf.2.1;have h2:(p.s k).data.size=0:=by
     have:=hf.2.2;rw[Go.ByteArray.toList_eq]at this;have e:(p.s k).data.data=#[]:=(by simpa using this);show(p.s k).data.data.size=0;rw[e];rfl
    omega
   ·rcases hf.2 with h2 | h2
    ·omega
    ·have h3:(p.s k).data.size=0:=by
      have:=h2.2.1;rw[Go.ByteArray.toList_eq]at this;have e:(p.s k).data.data=#[]:=(by simpa using this);show(p.s k).data.data.size=0;rw[e];rfl
     omega
  show ym p.s k+zAV (p.s k)<=_;omega
theorem zEF{p:zJ}(h:zv p):qD p<=10000:=by
 have h1:=zG0 h.2.1 p.n (Nat.le_refl _);have h2:=((zCM p).2 h).2.1;have h3:=h.1;unfold qD;omega
def zx(p:zJ):List (Int×Int)->zJ
 | []=>p
 | x :: l=>zx (zAK p x.1) l
def yY(p:zJ)(l:List (Int×Int)):Prop:=zv p/\(∀x,x∈l->zr p x.1 x.2/\¬Has p.hn p.h x.1)/\(l.map Prod.fst).Nodup
theorem zNv{p:zJ}{xs y:Int}(h:Has (p.hn+1) (zAK p xs).h y):Has p.hn p.h y\/y=xs:=by
 obtain⟨j,hj,e⟩:=h;by_cases ej:j=p.hn
 ·right;rw[<-e,ej];exact if_pos rfl
 ·left;exact⟨j,by omega,by rw[<-e];exact(if_neg ej).symm⟩
theorem yY.head{p:zJ}{x:Int×Int}{l:List (Int×Int)}(h:yY p (x :: l)):zHl p x.1 x.2=⟨zAK p x.1,0,0,0⟩/\yY (zAK p x.1) l:=by
 obtain⟨h1,h2,h3⟩:=h;obtain⟨g1,g2⟩:=h2 x List.mem_cons_self;rw[List.map_cons,List.nodup_cons]at h3;refine⟨zNL h1 g1 g2,zMJ h1 g1 g2,fun y hy=>?_,h3.2⟩;obtain⟨k1,k2⟩:=h2 y (List.mem_cons_of_mem _ hy);refine⟨k1,fun hh=>?_⟩;rcases zNv hh with e | e
 ·exact k2 e
 ·exact h3.1 (e▸List.mem_map_of_mem hy)
theorem yY.cut{l':List (Int×Int)}:∀{l:List (Int×Int)} {p:zJ},yY p (l ++ l')->yY (zx p l) l'
 | [],_,h=>h
 | x :: l,p,h=>yY.cut (l:=l) (p:=zAK p x.1) (yY.head (p:=p) (x:=x) (l:=l ++ l') h).2
theorem zDi(x:Int×Int):∀(l:List (Int×Int)) (p:zJ),zx p (l ++ [x])=zAK (zx p l) x.1
 | [],_=>rfl
 | y :: l,p=>zDi x l (zAK p y.1)
theorem zJD:∀(l:List (Int×Int)) (p:zJ),(zx p l).n=p.n/\(zx p l).s=p.s/\(zx p l).hn=p.hn+l.length
 | [],_=>⟨rfl,rfl,rfl⟩
 | y :: l,p=>by
  obtain⟨h1,h2,h3⟩:=zJD l (zAK p y.1);refine⟨h1,h2,?_⟩;show(zx (zAK p y.1) l).hn=_;rw[h3,List.length_cons];show p.hn+1+l.length=_;omega
theorem yY.next{p:zJ}{l:List (Int×Int)}(h:yY p l){i:Nat}(hi:i<l.length):zHl (zx p (l.take i)) l[i].1 l[i].2=⟨zx p (l.take (i+1)),0,0,0⟩/\zv (zx p (l.take i)):=by
 have e:l=l.take i ++ l[i] :: l.drop (i+1):=by
  rw[List.getElem_cons_drop,List.take_append_drop]
 have h1:yY (zx p (l.take i)) (l[i] :: l.drop (i+1)):=yY.cut (l:=l.take i) (by rw[<-e];exact h);refine⟨?_,h1.1⟩;rw[h1.head.1,List.take_succ_eq_append_getElem hi,zDi]
theorem zGi(f g:Nat->Int)(t:Int):∀k,(qd f g t k).Sublist ((List.range k).map fun i=>(f i,g i))
 | 0=>List.Sublist.refl _
 | k+1=>by
  rw[List.range_succ,List.map_append,List.map_singleton];unfold qd;split
  ·exact(zGi f g t k).append (List.Sublist.refl _)
  ·exact(zGi f g t k).trans (List.sublist_append_left _ _)
theorem yY.sub{p:zJ}{l l':List (Int×Int)}(h:yY p l)(hs:l'.Sublist l):yY p l':=⟨h.1,fun x hx=>h.2.1 x (hs.subset hx),List.Nodup.sublist (hs.map _) h.2.2⟩
theorem yY.tree{p:zJ}{rs rb:Int}(hR:zv p)(hT:qF p rs rb):yY p (zT p rs rb):=by
 refine⟨hR,fun x hx=>?_,?_⟩
 ·have:=zAY hR hT hx;exact⟨this.1,this.2.2⟩
 ·rcases hT with h | h
  ·rw[zT,if_pos h];exact List.nodup_nil
  ·exact h.2.2
def qm(p:zJ)(i:Nat)(s:zL):zJ:={n:=p.n,s:=fun j=>if j=i then s else p.s j,hn:=p.hn,h:=p.h}
theorem zPc{w wr:World}{lo hi R:Nat}{s0 s1:Value}{p:zJ}(ho:zt wr lo hi s0 s1 p)(bA:R<lo)(aA:w.heap.size<=R)(cA:hi<=wr.heap.size)(hb:Below w.heap.size w wr) :
  zt ((wr.setCell ⟨R,0,none⟩ s0).setCell ⟨R,1,none⟩ s1) w.heap.size ((wr.setCell ⟨R,0,none⟩ s0).setCell ⟨R,1,none⟩ s1).heap.size s0 s1 p/\Below w.heap.size w ((wr.setCell ⟨R,0,none⟩ s0).setCell ⟨R,1,none⟩ s1):=by
 have t:=(zF.put wr R 0 s0).trans (zF.put _ R 1 s1);have hz:=t.size;exact⟨(ho.zRR t (fun k hk=>by omega)).zRO (by omega) (by omega),(hb.setCell aA _).setCell aA _⟩
def zBS(n:Nat)(f:Nat->zL)(i:Nat):Prop:=i<n/\qG (f i)/\∀j,j<i->¬qG (f j)
theorem zBS.uniq{n:Nat}{f:Nat->zL}{i j:Nat}(h:zBS n f i)(h':zBS n f j):i=j:=by
 rcases Nat.lt_trichotomy i j with e | e | e
 ·exact absurd h.2.1 (h'.2.2 i e)
 ·exact e
 ·exact absurd h'.2.1 (h.2.2 j e)
open Classical in
noncomputable def zCy(p:zJ)(s:zL):zDj:=
 if zv p/\¬qG s/\zAN p s then(if h:∃i,zBS p.n p.s i then⟨qm p (Classical.choose h) s,((Classical.choose h:Nat):Int),s.zRU,0⟩else⟨zDk 0,0,0,6⟩)else⟨zDk 0,0,0,1⟩
theorem zGg{p:zJ}{s:zL}(h:¬(zv p/\¬qG s/\zAN p s)):zCy p s=⟨zDk 0,0,0,1⟩:=if_neg h
theorem zGH{p:zJ}{s:zL}(h:zv p/\¬qG s/\zAN p s)(h':∀j,j<p.n->¬qG (p.s j)):zCy p s=⟨zDk 0,0,0,6⟩:=by
 unfold zCy;rw[if_pos h,dif_neg (fun ⟨i,hi⟩=>h' i hi.1 hi.2.1)]
theorem zKb{p:zJ}{s:zL}{i:Nat}(h:zv p/\¬qG s/\zAN p s)(h':zBS p.n p.s i):zCy p s=⟨qm p i s,(i:Int),s.zRU,0⟩:=by
 unfold zCy;have hx:∃i,zBS p.n p.s i:=⟨i,h'⟩;rw[if_pos h,dif_pos hx];have e:Classical.choose hx=i:=(Classical.choose_spec hx).uniq h';rw[e]
theorem zF.trans2{S T:Nat->Prop}{a b c:World}(h:zF S a b)(k:zF T b c)(aA:∀i,T i->i<a.heap.size->S i):zF S a c:=
 ⟨k.os.trans h.os,k.tape.trans h.tape,k.output.trans h.output,Nat.le_trans h.size k.size,fun i hi hs=>(k.block i (Nat.lt_of_lt_of_le hi h.size) (fun t=>hs (aA i t hi))).trans (h.block i hi hs)⟩
theorem zI9{p:zJ}{s:zL}(hR:zv p)(hf:¬qG s):zBE p.n p.s s↔zAN p s:=by
 have aA:∀i,i<p.n->¬qG (p.s i)->1<=(p.s i).zRU:=fun i hi=>zFE (hR.2.1 i hi)
 constructor
 ·rintro(h | h | h)
  ·exact absurd h hf
  ·exact⟨h.1,Or.inl h.2⟩
  ·exact⟨h.1.1,Or.inr ⟨h.1.2.1,h.1.2.2,fun j hj=>(zHK aA).1 (h.2 j (by have:=h.1.2.1;omega))⟩⟩
 ·intro h;rcases h.2 with g | g
  ·exact Or.inr (Or.inl ⟨h.1,g⟩)
  ·exact Or.inr (Or.inr ⟨⟨h.1,g.1,g.2.1⟩,fun j hj=>(zHK aA).2 (g.2.2 j (by omega))⟩)
theorem zIq(v:Value)(n lo hi:Nat)(f:Nat->zL)(w:World)(h1:qA w lo hi v n f) :
  Calls Tryz.prog 159 #[v,.func (.func 157) #[] #[]] w fun e w'=>((∃i:Nat,zBS n f i/\e = .returned (.int .i64 (i:Int)))\/((∀j,j<n->¬qG (f j))/\e = .returned (.int .i64 (-1))))/\Below w.heap.size w w':=by
 have Hp:=zU h1;obtain⟨m1,a,c,rfl,mc,g1⟩:=h1;unfold maxLen at m1;clear g1;go_enter Tryz.func159,Tryz.ntmps159;go_wp2
 go_loopw [5,8] (fun _ i wr=>∃k:Nat,k<=n/\i = .int .i64 k/\(∀j,j<k->¬qG (f j))/\Below w.heap.size w wr) (fun _ i _=>n - (intOf i).toNat)
 case atStart=>exact⟨0,Nat.zero_le _,rfl,fun j hj=>absurd hj (Nat.not_lt_zero _),Below.refl _ _⟩
 case round=>
  obtain⟨k,hk,rfl,bA,hb⟩:=hrel;have aA:=zU bA;clear bA;by_cases cA:k<n
  ·have fA:(k:Int)<(n:Int):=(by omega);obtain⟨b,off,ka,kc,rfl,hs⟩:=(Hp.out.zRJ hb).cells cA;have Hs:=zU hs;obtain⟨q0,q1,q2,_⟩:=hs;go_wp2_with fail;refine(zBe _ _ _ lo hi (f k) _ Hs.out.slot).mono ?_;rintro e w1 ⟨⟨t,rfl,ht⟩,dA⟩;have eA:=zA hb dA;clear dA q0 q1 q2 Hs;by_cases hf:qG (f k)
   ·obtain rfl:t=true:=ht.2 hf;have HF:=zU hf;clear ht hf;go_wp2;go_ret;exact⟨Or.inl ⟨k,⟨cA,HF.out,aA.out⟩,rfl⟩,eA⟩
   ·obtain rfl:t=false:=zQ ht hf;have HF:=zU hf;clear ht hf;go_wp2;go_roundw
    case rel=>exact⟨k+1,by omega,by go_num,zo cA aA.out HF.out,eA⟩
    case measure=>simp[intOf];omega
  ·obtain rfl:k=n:=(by omega);go_wp2;go_ret;exact⟨Or.inr ⟨aA.out,rfl⟩,hb⟩
theorem qT.zRO{w:World}{lo hi lo' hi':Nat}{v:Value}{n:Nat}{f:Nat->Int}(h:qT w lo hi v n f)(h1:lo'<=lo)(h2:hi<=hi'):qT w lo' hi' v n f:=by
  obtain⟨h0,a,bA,hv,aA,hc⟩:=h;refine⟨h0,a,bA,hv,aA,fun hn=>?_⟩;obtain⟨b,off,ha,g1,g2,g3⟩:=hc hn;exact⟨b,off,ha,by omega,by omega,g3⟩
theorem zR.zRO{w:World}{lo hi lo' hi':Nat}{v:Value}{n:Nat}{f g:Nat->Int}(h:zR w lo hi v n f g)(h1:lo'<=lo)(h2:hi<=hi'):zR w lo' hi' v n f g:=by
  obtain⟨h0,a,bA,hv,aA,hc⟩:=h;refine⟨h0,a,bA,hv,aA,fun hn=>?_⟩;obtain⟨b,off,ha,g1,g2,g3⟩:=hc hn;exact⟨b,off,ha,by omega,by omega,g3⟩
theorem zR.all{w:World}{lo hi:Nat}{v:Value}{n:Nat}{f g:Nat->Int}(h:zR w lo hi v n f g):zR w 0 w.heap.size v n f g:=by
  obtain⟨h0,a,bA,hv,aA,hc⟩:=h;refine⟨h0,a,bA,hv,aA,fun hn=>?_⟩;obtain⟨b,off,ha,g1,g2,g3⟩:=hc hn;exact⟨b,off,ha,Nat.zero_le _,zD (g3 0 hn).1,g3⟩
theorem qI.all{w:World}{lo hi:Nat}{v0 v1 v2:Value}{s:zL}(h:qI w lo hi v0 v1 v2 s):qI w 0 w.heap.size v0 v1 v2 s:=⟨h.1,h.2.1.all,h.2.2⟩
theorem qT.all{w:World}{lo hi:Nat}{v:Value}{n:Nat}{f:Nat->Int}(h:qT w lo hi v n f):qT w 0 w.heap.size v n f:=by
  obtain⟨h0,a,bA,hv,aA,hc⟩:=h;refine⟨h0,a,bA,hv,aA,fun hn=>?_⟩;obtain⟨b,off,ha,g1,g2,g3⟩:=hc hn;exact⟨b,off,ha,Nat.zero_le _,zD (g3 0 hn),g3⟩
theorem zJb{f g:Nat->zL}{kv aA:Nat->Value}{k:Nat}(h:∀i,i<k->f i=g i/\kv i=aA i):sc f kv k=sc g aA k:=by
  induction k with
  | zero=>rfl
  | succ k ih=>
    unfold sc;rw[ih (fun i hi=>h i (by omega)),(h k (by omega)).1,(h k (by omega)).2]
theorem zGb(f:Nat->zL)(kv:Nat->Value)(k m:Nat):sc f kv (k+m)=sc f kv k ++ sc (fun i=>f (k+i)) (fun i=>kv (k+i)) m:=by
  induction m with
  | zero=>simp[sc]
  | succ m ih=>
    show sc f kv (k+m) ++ [.int .i64 (f (k+m)).zRU,kv (k+m),.string (f (k+m)).data]=sc f kv k ++ (sc (fun i=>f (k+i)) (fun i=>kv (k+i)) m ++ [.int .i64 (f (k+m)).zRU,kv (k+m),.string (f (k+m)).data]);rw[ih,List.append_assoc]
theorem zOW{f:Nat->zL}{kv:Nat->Value}{k n j:Nat}{u:Value}(h:k<=n)(hj:(sc f kv k)[j]?=some u):(sc f kv n)[j]?=some u:=by
  obtain⟨m,rfl⟩:=Nat.exists_eq_add_of_le h;have aA:=(List.getElem?_eq_some_iff.1 hj).1;rw[zGb,List.getElem?_append_left aA];exact hj
theorem zOM{f:Nat->zL}{kv:Nat->Value}{k m j:Nat}{u:Value}(hj:(sc (fun i=>f (k+i)) (fun i=>kv (k+i)) m)[j]?=some u):(sc f kv (k+m))[k*3+j]?=some u:=by
  rw[zGb,List.getElem?_append_right (by rw[zDS];omega),zDS];rw[show k*3+j - k*3=j by omega];exact hj
theorem zHy(f:Nat->zL)(i:Nat)(s:zL):∀n,ym (fun j=>if j=i then s else f j) n<=ym f n+(if i<n then zAV s else 0)
  | 0=>Nat.zero_le _
  | n+1=>by
    have ih:=zHy f i s n;show ym (fun j=>if j=i then s else f j) n+zAV (if n=i then s else f n)<=ym f n+zAV (f n)+_;by_cases e:n=i
    · rw[if_pos e,if_pos (by omega)]
      rw[if_neg (by omega)]at ih;omega
    · rw[if_neg e]
      by_cases e2:i<n
      · rw[if_pos e2]at ih
        rw[if_pos (by omega)];omega
      · rw[if_neg e2]at ih
        rw[if_neg (by omega)];omega
theorem zJF(p:zJ)(i:Nat)(s:zL):qD (qm p i s)<=qD p+zAV s:=by
  have h:=zHy p.s i s p.n;have h2:(if i<p.n then zAV s else 0)<=zAV s:=(by split<;>omega);show p.n+ym (fun j=>if j=i then s else p.s j) p.n+p.hn<=p.n+ym p.s p.n+p.hn+zAV s;omega
theorem zQo{p:zJ}{s:zL}{cv:Nat->Value}{kv:Value}{aA:Nat}(h:aA<p.n) :
    sc p.s cv aA ++ [.int .i64 s.zRU,kv,.string s.data] ++ sc (fun i=>p.s (aA+1+i)) (fun i=>cv (aA+1+i)) (p.n - (aA+1))=sc (qm p aA s).s (fun j=>if j=aA then kv else cv j) p.n:=by
  have e:=zGb (qm p aA s).s (fun j=>if j=aA then kv else cv j) (aA+1) (p.n - (aA+1));rw[show aA+1+(p.n - (aA+1))=p.n by omega]at e;rw[e];congr 1
  · show _=sc (qm p aA s).s (fun j=>if j=aA then kv else cv j)aA ++ [.int .i64 ((qm p aA s).s aA).zRU,(if aA=aA then kv else cv aA),.string ((qm p aA s).s aA).data]
    rw[show(qm p aA s).s aA=s from if_pos rfl,if_pos rfl];congr 1;exact zJb fun i hi=>⟨(if_neg (by omega:¬i=aA)).symm,(if_neg (by omega:¬i=aA)).symm⟩
  · exact zJb fun i hi=>⟨(if_neg (by omega:¬aA+1+i=aA)).symm,(if_neg (by omega:¬aA+1+i=aA)).symm⟩
theorem zMk{w:World}{base e n:Nat}{f:Nat->zL}{cv:Nat->Value}{v:Value}(hm:n<=maxLen)(h:w.ownsRow base e 3 v n (sc f cv n))(hs:∀i,i<n->qI w 0 w.heap.size (.int .i64 (f i).zRU) (cv i) (.string (f i).data) (f i)):qA w 0 w.heap.size v n f:=by
  by_cases h0:0<n
  · obtain⟨g,bA,rfl,cA,hb,dA,aA⟩:=qf h h0
    refine⟨hm,_,bA,rfl,cA,fun _=>⟨g,0,rfl,Nat.zero_le _,dA,fun i hi=>⟨_,_,_,?_,?_,?_,hs i hi⟩⟩⟩
    · have:=(aA (i*3+0) _ (zEQ f cv n i 0 hi (by omega))).1;simpa using this
    · have:=(aA (i*3+1) _ (zEQ f cv n i 1 hi (by omega))).1;simpa using this
    · have:=(aA (i*3+2) _ (zEQ f cv n i 2 hi (by omega))).1;simpa using this
  · obtain⟨a,bA,rfl,cA⟩:=zW h
    exact⟨hm,a,bA,rfl,cA,fun h=>absurd h h0⟩
theorem zKz(v0 v1 kv:Value)(lo hi lo' hi' aA:Nat)(p:zJ)(s:zL)(w:World)(h1:zy w lo hi v0 v1 p)(h2:qI w lo' hi' (.int .i64 s.zRU) kv (.string s.data) s)(mB:aA<p.n)(hn:qD p+zAV s<=1048576) :
    Calls Tryz.prog 160 #[.agg #[v0,v1],.int .i64 (aA:Int),.agg #[.int .i64 s.zRU,kv,.string s.data]] w (zHP (qm p aA s) w):=by
  have Hp:=zU h1;have Hs:=zU h2;have Hn:=zU hn;have fC:p.n<=1048576:=(by unfold qD at hn;omega);have iC:p.hn<=1048576:=(by unfold qD at hn;omega);obtain⟨a,c,a',c',rfl,rfl⟩:=h1.form;obtain⟨ka,kc,rfl⟩:=h2.form;have mc:p.n<=c:=(by obtain⟨⟨_,_,_,e,h,_⟩,_⟩:=h1;simp only[Value.slice.injEq,true_and]at e;omega);obtain⟨cv,bB,lA⟩:=h1.1.values;obtain⟨b,off,rfl,cC,vB,fA⟩:=lA (by omega);have fB:=zU bB;have gA:=zU fA;have iB:b<w.heap.size:=by
    have:=fA 0 _ (by have:=zEQ p.s cv p.n 0 0 (by omega) (by omega);simpa using this);exact zD this
  obtain⟨i1,eB,kA⟩:=Option.map_eq_some_iff.1 zEk;simp only[Prod.mk.injEq]at kA;have jA:=zU (And.intro eB kA);clear h1 h2 hn bB lA fA eB kA cC vB;have jB:=zC w (.cells #[.slice (some ⟨b,off,none⟩) p.n c,.slice a' p.hn c'] 33);have cB:=zA jB (zC _ (.cells #[.int .i64 s.zRU,.slice ka s.kn kc,.string s.data] 127));have nA:=zA cB (zC _ (.cells #[.slice none 0 0,.slice none 0 0] 33));have HB:=zU (((zc.zRL w (.slice (some ⟨b,off,none⟩) p.n c) (.slice a' p.hn c') 33).zRJ (zC _ (.cells #[.int .i64 s.zRU,.slice ka s.kn kc,.string s.data] 127))).zRJ (zC _ (.cells #[.slice none 0 0,.slice none 0 0] 33)));have tA:=(yT.zRL (w.alloc (.cells #[.slice (some ⟨b,off,none⟩) p.n c,.slice a' p.hn c'] 33)) (.int .i64 s.zRU) (.slice ka s.kn kc) (.string s.data) 127).zRJ (zC _ (.cells #[.slice none 0 0,.slice none 0 0] 33));rw[World.size_alloc]at tA;have HS:=zU tA;have sA:=zc.zRL ((w.alloc (.cells #[.slice (some ⟨b,off,none⟩) p.n c,.slice a' p.hn c'] 33)).alloc (.cells #[.int .i64 s.zRU,.slice ka s.kn kc,.string s.data] 127)) (.slice none 0 0) (.slice none 0 0) 33;rw[World.size_alloc,World.size_alloc]at sA;have HR:=zU sA;clear jB cB tA sA;go_enter Tryz.func160,Tryz.ntmps160;go_wp2_with fail;generalize hW:((w.alloc (.cells #[.slice (some ⟨b,off,none⟩) p.n c,.slice a' p.hn c'] 33)).alloc (.cells #[.int .i64 s.zRU,.slice ka s.kn kc,.string s.data] 127)).alloc (.cells #[.slice none 0 0,.slice none 0 0] 33)=W at HB HS HR nA ⊢;have hz:W.heap.size=w.heap.size+3:=(by rw[<-hW,World.size_alloc,World.size_alloc,World.size_alloc]);clear hW;obtain⟨⟨x0,x1⟩,⟨x2,x3⟩⟩:=HB.out;obtain⟨⟨y0,y1⟩,⟨y2,y3⟩,⟨y4,y5⟩⟩:=HS.out;have rB:(aA:Int)<=(c:Int):=(by omega);have n0:W.heap.size≠w.heap.size:=(by omega);have n1:W.heap.size≠w.heap.size+1:=(by omega);go_region_held3 (fun w'=>w'.cell? ⟨w.heap.size,0,none⟩=some (.slice (some ⟨b,off,none⟩) p.n c)/\w'.cell? ⟨w.heap.size+1,0,none⟩=some (.int .i64 s.zRU)/\w'.cell? ⟨w.heap.size+1,1,none⟩=some (.slice ka s.kn kc)/\w'.cell? ⟨w.heap.size+1,2,none⟩=some (.string s.data)) (go_keep)
    (first
      | (refine step_append_grows rfl (.tmp 12) (.tmp 14) 31 rfl 127 i1 (.agg #[.int .i64 0,.slice none 0 0,.string ⟨#[]⟩]) 3 48 (by kernel_rfl) jA.out.1 jA.out.2.1 jA.out.2.2.1 jA.out.2.2.2 rfl (by decide) (some ⟨b,off,none⟩)aA aA (sc p.s cv aA) (by simp[Act.eval]) (fun e=>by cases e) (zDS _ _ _) ?_ ⟨W.heap.size,0,none⟩ 1 1 [.int .i64 s.zRU,.slice ka s.kn kc,.string s.data] (by simp[Act.eval]) rfl ?_ (zRA _ _ _ _ _) (by omega) (by unfold maxLen;omega) (by omega) ?_
         exact fun b1 e j u hj=>by
           simp only[Option.some.injEq]at e;subst e;rw[add_lit];exact((zA nA (zC W _)).drew.cell (p:=⟨b,off+j,none⟩) iB).trans (gA.out j u (zOW (by omega) hj))
         exact zQV W _ _ _ _;intro v4 w4 dA cA;obtain⟨g4,c4,rfl,_⟩:=dA.form (by omega);have mA:Below W.heap.size W w4:=zA (zC W _) (zK (zCc cA));have iA:=zU (zD4 (B:=W.heap.size) dA (by simp));obtain⟨⟨p0,p1⟩,⟨p2,p3⟩⟩:=HB.out.zRJ mA;obtain⟨⟨p4,p5⟩,⟨p6,p7⟩,⟨p8,p9⟩⟩:=HS.out.zRJ mA;clear dA cA))
  have aC:=zA nA mA;have sB:(aA:Int)+1<=(p.n:Int):=(by omega);have oB:=mA.size;clear x0 x1 x2 x3 y0 y1 y2 y3 y4 y5 p4 p5 p6 p7 p8 p9 HS;have pB:Hid (∀j u,(sc (fun i=>p.s (aA+1+i)) (fun i=>cv (aA+1+i)) (p.n - (aA+1)))[j]?=some u->w4.cell? ((⟨b,off+(aA+1)*3,none⟩:Addr).add j)=some u):=fun j u hj=>by
    have e:=zOM (f:=p.s) (kv:=cv) hj;rw[show aA+1+(p.n - (aA+1))=p.n by omega]at e;rw[add_lit,show off+(aA+1)*3+j=off+((aA+1)*3+j)by omega];exact(aC.cell (p:=⟨b,off+((aA+1)*3+j),none⟩) iB).trans (gA.out _ u e)
  have gC:Hid (c=aA+1->∀j u,(sc (fun i=>p.s (aA+1+i)) (fun i=>cv (aA+1+i)) (p.n - (aA+1)))[j]?=some u->w4.cell? ((⟨b,off,none⟩:Addr).add j)=some u):=fun eC j u hj=>by
    rw[show p.n - (aA+1)=0 by omega]at hj;simp[sc]at hj
  have rA:Hid (∀u∈sc (fun i=>p.s (aA+1+i)) (fun i=>cv (aA+1+i)) (p.n - (aA+1)),u.oneCell'=true):=zPU _ _ _ (fun i hi=>by obtain⟨jC,dC,e⟩:=(fB.out (aA+1+i) (by omega)).form;rw[e];rfl);go_wp2_with (first
    | (at_builtin;refine qJ rfl _ _ 31 rfl W.heap.size 127 i1 (.agg #[.int .i64 0,.slice none 0 0,.string ⟨#[]⟩]) 3 48 (by kernel_rfl) jA.out.1 jA.out.2.1 jA.out.2.2.1 jA.out.2.2.2 rfl (by decide) (.slice (some ⟨g4,0,none⟩) (aA+1) c4) (aA+1) _ rfl iA.out _ (p.n - (aA+1)) _ (sc (fun i=>p.s (aA+1+i)) (fun i=>cv (aA+1+i)) (p.n - (aA+1))) rfl (zDS _ _ _) rA.out (by intro hm;exact⟨b,off+(aA+1)*3,(by first | rw[if_neg (by omega)] | rfl | simp),fun j u hj=>by have hq:=pB.out j u hj;rw[add_lit]at hq;exact hq⟩) ?c3 ?c4 ?c5 ?_))
  case c3=>unfold maxLen;omega
  case c4=>omega
  case c5=>omega
  all_goals
    intro v5 w5 bA eA _;have hl:=zQo (s:=s) (cv:=cv) (kv:=.slice ka s.kn kc) mB;simp only[List.append_assoc,List.cons_append,List.nil_append]at hl bA;rw[show aA+1+(p.n - (aA+1))=p.n by omega,hl]at bA;clear hl;obtain⟨g5,c5,rfl,_⟩:=bA.form (by omega);have oA:Below W.heap.size W w5:=mA.grown eA oB (fun k hk=>(iA.out.lt k hk).1);have pA:=zA nA oA;have bC:Hid (zy w5 0 w5.heap.size (.slice (some ⟨g5,0,none⟩) p.n c5) (.slice a' p.hn c') (qm p aA s)):=by
      refine⟨zMk (by show p.n<=maxLen;unfold maxLen;omega) bA (fun i hi=>?_),(Hp.out.2.zRJ pA).all⟩;by_cases e:i=aA
      · subst e
        rw[show(qm p i s).s i=s from if_pos rfl];simp only[if_true];exact(Hs.out.zRJ pA).all
      · rw[show(qm p aA s).s i=p.s i from if_neg e]
        simp only[if_neg e];exact((fB.out i hi).zRJ pA).all
    have tB:=zU (HR.out.zRJ oA);have kC:w.heap.size+3<=w5.heap.size:=(by have:=oA.size;omega);clear bA eA p0 p1 p2 p3;obtain⟨⟨p0,p1⟩,⟨p2,p3⟩⟩:=HB.out.zRJ oA;go_wp2_with fail;refine(zBy _ _ 0 w5.heap.size (qm p aA s) _ bC.out (by have:=zJF p aA s;have:=Hn.out;omega)).mono ?_;rintro e w6 ⟨s0,s1,rfl,aB,vA⟩;obtain⟨a6,c6,a7,c7,rfl,rfl⟩:=aB.form;have dB:=zU (tB.out.zRJ vA);have lB:=zU aB;have nB:=zA pA vA;clear aB vA p0 p1 p2 p3;obtain⟨⟨u0,u1⟩,⟨u2,u3⟩⟩:=dB.out;go_wp2;have gB:=dB.out.put (.slice a6 (qm p aA s).n c6) (.slice a7 (qm p aA s).hn c7);have kB:=zPc (R:=w.heap.size+1+1) lB.out (by omega) (by omega) (Nat.le_refl _) nB;exact bodyPost_ret (v:=.agg #[.slice a6 (qm p aA s).n c6,.slice a7 (qm p aA s).hn c7]) (by simp[results,Tryz.results160,go_sem,gB.1.1,gB.2.1]) rfl ⟨_,_,rfl,kB.1,kB.2⟩
end Go.Proofs.YtmgeglgboadfiaaGreatDoor
