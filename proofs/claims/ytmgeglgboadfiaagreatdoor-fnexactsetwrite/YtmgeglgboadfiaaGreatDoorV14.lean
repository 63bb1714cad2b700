/- A region that draws its order and holds calls and makings of memory, whose facts stay when memory grows: each of its operations is walked once (no law is proved here). -/
import Derived.Test.YtmgeglgboadfiaaGreatDoorV13
import Derived.Deep.RegionLawGrows
set_option linter.unusedVariables false
set_option maxRecDepth 20000
set_option maxHeartbeats 4000000
namespace Go.Proofs.YtmgeglgboadfiaaGreatDoor
open Go.RowKit
theorem zEE{j i:Nat}(h:j≠i):(j == i)=false:=by simpa using h
def qX(d:Nat->Nat)(x:Nat->Value):List Nat->Act->Act
 | [],a=>a
 | i :: r,a=>qX d x r (a.put (some (d i)) (x i))
theorem zO3(a:Act)(k:Nat)(u v:Value):(a.put (some k) u).put (some k) v=a.put (some k) v:=by
 unfold Act.put;simp[Array.setIfInBounds_setIfInBounds]
theorem zOQ(a:Act){k j:Nat}(u v:Value)(h:k≠j):(a.put (some k) u).put (some j) v=(a.put (some j) v).put (some k) u:=
 Act.put_comm a u v (fun d e e'=>h (by injection e with e;injection e' with e';omega))
theorem zJJ(d:Nat->Nat)(x:Nat->Value)(k:Nat)(v:Value):∀(M:List Nat) (a:Act),(∀i∈M,d i≠k)->(qX d x M a).put (some k) v=qX d x M (a.put (some k) v)
 | [],_,_=>rfl
 | i :: r,a,h=>by
  show(qX d x r (a.put (some (d i)) (x i))).put (some k) v=qX d x r ((a.put (some k) v).put (some (d i)) (x i));rw[zJJ d x k v r _ (fun j hj=>h j (List.mem_cons_of_mem _ hj)),zOQ a _ _ (h i List.mem_cons_self)]
theorem zG1{d:Nat->Nat}{x y:Nat->Value}:∀{M:List Nat} {a:Act},(∀i∈M,x i=y i)->qX d x M a=qX d y M a
 | [],_,_=>rfl
 | i :: r,a,h=>by
  show qX d x r (a.put (some (d i)) (x i))=qX d y r (a.put (some (d i)) (y i));rw[h i List.mem_cons_self];exact zG1 (fun j hj=>h j (List.mem_cons_of_mem _ hj))
def zIy(x:Nat->Value)(i:Nat)(v:Value)(j:Nat):Value:=if j=i then v else x j
theorem zJq(d:Nat->Nat)(x:Nat->Value)(i:Nat)(v:Value):∀(M:List Nat) (a:Act),i∈M->M.Pairwise (fun p q=>d p≠d q)->(qX d x M a).put (some (d i)) v=qX d (zIy x i v) M a
 | [],_,h,_=>by cases h
 | j :: r,a,h,hp=>by
  obtain⟨h1,h2⟩:=List.pairwise_cons.1 hp;show(qX d x r (a.put (some (d j)) (x j))).put (some (d i)) v=qX d (zIy x i v) r (a.put (some (d j)) (zIy x i v j));by_cases e:j=i
  ·subst e;have aA:∀p∈r,d p≠d j:=fun p hp e=>h1 p hp e.symm
   rw[zJJ d x (d j) v r _ aA,zO3];have e1:zIy x j v j=v:=(by unfold zIy;rw[if_pos rfl]);rw[e1];refine zG1 (fun p hp=>?_);unfold zIy;rw[if_neg (fun e=>aA p hp (by rw[e]))]
  ·have e1:zIy x i v j=x j:=(by unfold zIy;rw[if_neg e]);rw[e1];rcases List.mem_cons.1 h with h | h
   ·exact absurd h.symm e
   ·exact zJq d x i v r _ h h2
def zAy(b:Nat->Bool):List Nat->Array Bool->Array Bool
 | [],l=>l
 | i :: r,l=>zAy b r (if b i then l.setIfInBounds i true else l)
def zBm(b:Nat->Bool)(i:Nat)(j:Nat):Bool:=j == i || b j
theorem zGn(b:Nat->Bool)(k:Nat):∀(M:List Nat) (l:Array Bool),(zAy b M l).setIfInBounds k true=zAy b M (l.setIfInBounds k true)
 | [],_=>rfl
 | i :: r,l=>by
  show(zAy b r (if b i then l.setIfInBounds i true else l)).setIfInBounds k true=zAy b r (if b i then(l.setIfInBounds k true).setIfInBounds i true else l.setIfInBounds k true);rw[zGn b k r];by_cases h:b i
  ·rw[if_pos h,if_pos h];by_cases e:i=k
   ·subst e;rfl
   ·rw[Array.setIfInBounds_comm _ _ e]
  ·rw[if_neg h,if_neg h]
theorem zB8{b c:Nat->Bool}:∀{M:List Nat} {l:Array Bool},(∀i∈M,b i=c i)->zAy b M l=zAy c M l
 | [],_,_=>rfl
 | i :: r,l,h=>by
  show zAy b r (if b i then _ else _)=zAy c r (if c i then _ else _);rw[h i List.mem_cons_self];exact zB8 (fun j hj=>h j (List.mem_cons_of_mem _ hj))
theorem zFN(b:Nat->Bool)(k:Nat):∀(M:List Nat) (l:Array Bool),k∈M->(zAy b M l).setIfInBounds k true=zAy (zBm b k) M l
 | [],_,h=>by cases h
 | i :: r,l,h=>by
  show(zAy b r (if b i then l.setIfInBounds i true else l)).setIfInBounds k true=zAy (zBm b k) r (if zBm b k i then l.setIfInBounds i true else l);by_cases e:i=k
  ·subst e;have e1:zBm b i i=true:=(by unfold zBm;simp);rw[if_pos e1,zGn];have e2:(if b i then l.setIfInBounds i true else l).setIfInBounds i true=l.setIfInBounds i true:=by
    by_cases h':b i
    ·rw[if_pos h',Array.setIfInBounds_setIfInBounds]
    ·rw[if_neg h']
   rw[e2];by_cases hr:i∈r
   ·rw[<-zFN b i r _ hr,zGn,Array.setIfInBounds_setIfInBounds]
   ·refine zB8 (fun j hj=>?_);unfold zBm;have:(j == i)=false:=zEE fun e=>hr (e▸hj)
    rw[this,Bool.false_or]
  ·have e1:zBm b k i=b i:=by
    unfold zBm;have:(i == k)=false:=zEE e;rw[this,Bool.false_or]
   rw[e1];rcases List.mem_cons.1 h with h | h
   ·exact absurd h.symm e
   ·exact zFN b k r _ h
def zNL:List Nat->List (Nat->Bool)
 | []=>[fun _=>false]
 | i :: r=>(zNL r).flatMap fun b=>[b,zBm b i]
theorem zHq(c:Nat->Bool):∀M:List Nat,M.Nodup->∃b∈zNL M,(∀i∈M,b i=c i)/\∀i,i∉M->b i=false
 | [],_=>⟨_,List.mem_singleton.2 rfl,fun i h=>(by cases h),fun _ _=>rfl⟩
 | i :: r,hn=>by
  obtain⟨h1,h2⟩:=List.nodup_cons.1 hn;obtain⟨b,hb,hc,ho⟩:=zHq c r h2;by_cases e:c i
  ·refine⟨zBm b i,List.mem_flatMap.2 ⟨b,hb,by simp⟩,fun j hj=>?_,fun j hj=>?_⟩
   ·unfold zBm;rcases List.mem_cons.1 hj with rfl | hj
    ·simp[e]
    ·have:(j == i)=false:=zEE fun e=>h1 (e▸hj)
     rw[this,Bool.false_or];exact hc j hj
   ·unfold zBm;have h3:(j == i)=false:=zEE fun e=>hj (e▸List.mem_cons_self)
    rw[h3,Bool.false_or];exact ho j (fun h=>hj (List.mem_cons_of_mem _ h))
  ·refine⟨b,List.mem_flatMap.2 ⟨b,hb,by simp⟩,fun j hj=>?_,fun j hj=>?_⟩
   ·rcases List.mem_cons.1 hj with rfl | hj
    ·rw[ho j h1];simpa using e
    ·exact hc j hj
   ·exact ho j (fun h=>hj (List.mem_cons_of_mem _ h))
theorem zJS(b:Nat->Bool)(i:Nat):∀M:List Nat,M.Nodup->i∈M->b i=false->(M.countP fun j=>!b j)=(M.countP fun j=>!zBm b i j)+1
 | [],_,h,_=>by cases h
 | j :: r,hn,h,hbi=>by
  obtain⟨g1,g2⟩:=List.nodup_cons.1 hn;rw[List.countP_cons,List.countP_cons];rcases List.mem_cons.1 h with e | aA
  ·subst e;have e1:(r.countP fun j=>!b j)=r.countP fun j=>!zBm b i j:=by
    refine List.countP_congr fun p hp=>?_
    unfold zBm;have:(p == i)=false:=zEE fun e=>g1 (e▸hp)
    rw[this,Bool.false_or]
   have e2:zBm b i i=true:=(by unfold zBm;simp);rw[e1,hbi,e2];simp
  ·have bA:(j == i)=false:=zEE fun e=>g1 (e▸aA)
   have e2:zBm b i j=b j:=(by unfold zBm;rw[bA,Bool.false_or]);have h3:=zJS b i r g2 aA hbi;rw[e2];omega
def zKp(md:Region.Mode)(ops:Array Oper)(M:List Nat)(D:Nat->List Nat)(l0:Array Bool):Bool:=
 (zNL M).all fun b=>!(M.all fun i=>!b i || (D i).all b) || (M.all b || (!(Region.ready md ops (zAy b M l0)).isEmpty && (Region.ready md ops (zAy b M l0)).all fun i=>M.contains i && !b i && (D i).all b))
section
variable {P : Program} {md : Region.Mode} {ops : Array Oper} {Q : Exit -> Act -> World -> Prop} {S G : World -> Prop}
theorem zOE{M:List Nat}{D:Nat->List Nat}{d:Nat->Nat}{F:Nat->Value->World->Prop}{l0:Array Bool}{a0:Act}{dA:Nat}
  (jA:zKp md ops M D l0=true) (hn:M.Nodup) (hd:M.Pairwise (fun p q=>d p≠d q)) (kA:∀i∈M,∀j∈D i,j∈M)
  (hF:∀i v w w',F i v w->Below w.heap.size w w'->F i v w') (hG:∀w w',G w->Below w.heap.size w w'->G w')
  (eA:∀i∈M,∀x w,S w->G w->(∀j∈D i,F j (x j) w)->∀K:Act->World->Prop,Shut (∀a' v w',a'=(qX d x M a0).put (some (d i)) v->S w'->F i v w'->Below w.heap.size w w'->K a' w')->wpOp P ops Q i K (qX d x M a0) w)
  (iA:∀x w,S w->G w->(∀i∈M,F i (x i) w)->wpAnyH P md ops Q S dA (zAy (fun _=>true) M l0) (qX d x M a0) w) :
  ∀(n:Nat) (b:Nat->Bool),(M.countP fun i=>!b i)=n->(∀i∈M,b i=true->∀j∈D i,b j=true)->∀x w,S w->G w->(∀i∈M,b i=true->F i (x i) w)->wpAnyH P md ops Q S (dA+n) (zAy b M l0) (qX d x M a0) w:=by
 intro n
 induction n with
 | zero=>
  intro b hc hb x w hS hg hf;have fA:∀i∈M,b i=true:=fun i hi=>by
   have:=(List.countP_eq_zero.1 hc) i hi;simpa using this
  rw[zB8 (c:=fun _=>true) fA];exact iA x w hS hg (fun i hi=>hf i hi (fA i hi))
 | succ n ih=>
  intro b hc hb x w hS hg hf;obtain⟨c,pA,cA,aB⟩:=zHq b M hn;have hk:=List.all_eq_true.1 jA c pA;have sA:(M.all fun i=>!c i || (D i).all c)=true:=List.all_eq_true.2 fun i hi=>by
   rw[cA i hi];by_cases e:b i=true
   ·have:(D i).all c=true:=List.all_eq_true.2 fun j hj=>by rw[cA j (kA i hi j hj)];exact hb i hi e j hj
    rw[this];simp
   ·have:b i=false:=(by simpa using e);rw[this];rfl
  have rA:(M.all c)=false:=by
   cases h:M.all c with
   | false=>rfl
   | true=>
    have h0:(M.countP fun i=>!b i)=0:=List.countP_eq_zero.2 fun i hi=>by rw[<-cA i hi,List.all_eq_true.1 h i hi];simp
    omega
  rw[sA,rA]at hk;simp only[Bool.not_true,Bool.false_or,Bool.and_eq_true]at hk;rw[zB8 (c:=c) (fun i hi=>(cA i hi).symm)];refine⟨fun h0=>?_,fun i hi=>?_⟩
  ·rw[h0]at hk;simp at hk
  ·have hq:=List.all_eq_true.1 hk.2 i hi;simp only[Bool.and_eq_true,Bool.not_eq_true']at hq;have bA:i∈M:=(by simpa using hq.1.1);have vA:b i=false:=(by rw[<-cA i bA];exact hq.1.2);have mA:∀j∈D i,b j=true:=fun j hj=>by rw[<-cA j (kA i bA j hj)];exact List.all_eq_true.1 hq.2 j hj
   refine eA i bA x w hS hg (fun j hj=>hf j (kA i bA j hj) (mA j hj)) _ ?_;intro a' v w' ha oA tA nA;refine⟨oA,?_⟩;rw[ha,zJq d x i v M a0 bA hd,zFN c i M l0 bA];have lA:∀j∈M,zBm c i j=zBm b i j:=fun j hj=>by unfold zBm;rw[cA j hj]
   rw[zB8 (c:=zBm b i) lA];refine ih (zBm b i) ?_ ?_ (zIy x i v) w' oA (hG w w' hg nA) ?_
   ·have h1:(M.countP fun j=>!b j)=(M.countP fun j=>!zBm b i j)+1:=zJS b i M hn bA vA;omega
   ·intro p hp aA j hj;unfold zBm at aA ⊢;by_cases e:p=i
    ·subst e;rw[mA j hj];simp
    ·have gA:(p == i)=false:=zEE e;rw[gA,Bool.false_or]at aA;rw[hb p hp aA j hj];simp
   ·intro p hp aA;unfold zIy;by_cases e:p=i
    ·subst e;rw[if_pos rfl];exact tA
    ·rw[if_neg e];unfold zBm at aA;have gA:(p == i)=false:=zEE e;rw[gA,Bool.false_or]at aA;exact hF p _ w w' (hf p hp aA) nA
theorem zPB{M:List Nat}{D:Nat->List Nat}{d:Nat->Nat}{F:Nat->Value->World->Prop}{l0:Array Bool}{a0:Act}{cA:Nat}(x0:Nat->Value)
  (dA:zKp md ops M D l0=true) (hn:M.Nodup) (hd:M.Pairwise (fun p q=>d p≠d q)) (eA:∀i∈M,∀j∈D i,j∈M)
  (hF:∀i v w w',F i v w->Below w.heap.size w w'->F i v w') (hG:∀w w',G w->Below w.heap.size w w'->G w')
  (aA:∀i∈M,∀x w,S w->G w->(∀j∈D i,F j (x j) w)->∀K:Act->World->Prop,Shut (∀a' v w',a'=(qX d x M a0).put (some (d i)) v->S w'->F i v w'->Below w.heap.size w w'->K a' w')->wpOp P ops Q i K (qX d x M a0) w)
  (bA:∀x w,S w->G w->(∀i∈M,F i (x i) w)->wpAnyH P md ops Q S cA (zAy (fun _=>true) M l0) (qX d x M a0) w)
  {a:Act} {w:World} {f:Nat} (ha:a=qX d x0 M a0) (hf:f=cA+M.length) (hS:S w) (hg:G w):wpAnyH P md ops Q S f l0 a w:=by
 subst ha hf;have e0:zAy (fun _=>false) M l0=l0:=by
  clear dA hn hd eA aA bA
  induction M with
  | nil=>rfl
  | cons i r ih=>exact ih
 have:=zOE (P:=P) (Q:=Q) dA hn hd eA hF hG aA bA M.length (fun _=>false) (by simp[List.countP_true]) (fun i hi h=>by cases h) x0 w hS hg (fun i hi h=>by cases h)
 rwa [e0]at this
theorem zPF(a:Act)(k:Nat):a.put (some k) (a.tmps.getD k undef)=a:=by
 unfold Act.put;have:a.tmps.setIfInBounds k (a.tmps.getD k undef)=a.tmps:=by
  refine Array.ext_getElem? fun j=>?_
  rw[Array.getElem?_setIfInBounds];by_cases e:k=j
  ·subst e;by_cases h:k<a.tmps.size
   ·simp[h,Array.getD]
   ·simp[h]
  ·simp[e]
 cases a;simp only[this]
theorem zIY(d:Nat->Nat)(a:Act):∀M:List Nat,qX d (fun i=>a.tmps.getD (d i) undef) M a=a
 | []=>rfl
 | i :: r=>by
  show qX d _ r (a.put (some (d i)) (a.tmps.getD (d i) undef))=a;rw[zPF];exact zIY d a r
theorem zJP(M:List Nat)(D:Nat->List Nat)(d:Nat->Nat)(F:Nat->Value->World->Prop)(aA:Nat){l0:Array Bool}{a:Act}{w:World}
  (dA:zKp md ops M D l0=true) (hn:M.Nodup) (hd:M.Pairwise (fun p q=>d p≠d q)) (eA:∀i∈M,∀j∈D i,j∈M)
  (hF:∀i v w w',F i v w->Below w.heap.size w w'->F i v w') (hG:∀w w',G w->Below w.heap.size w w'->G w') (hS:S w) (hg:G w)
  (bA:∀i∈M,∀x w,S w->G w->(∀j∈D i,F j (x j) w)->∀K:Act->World->Prop,Shut (∀a' v w',a'=(qX d x M a).put (some (d i)) v->S w'->F i v w'->Below w.heap.size w w'->K a' w')->wpOp P ops Q i K (qX d x M a) w)
  (cA:∀x w,S w->G w->(∀i∈M,F i (x i) w)->wpAnyH P md ops Q S aA (zAy (fun _=>true) M l0) (qX d x M a) w):wpAnyH P md ops Q S (aA+M.length) l0 a w:=
 zPB (fun i=>a.tmps.getD (d i) undef) dA hn hd eA hF hG bA cA (zIY d a M).symm rfl hS hg
end
def zCe(w:World)(lb:Array Value)(caps:List Value):Prop:=lb.size=caps.length/\∀(k:Nat) (u:Value),caps[k]?=some u->∃B,lb[k]?=some (.pointer (some ⟨B,0,none⟩))/\w.cell? ⟨B,0,none⟩=some u
theorem zCe.zRX{w w':World}{lb:Array Value}{caps:List Value}(h:zCe w lb caps)(t:Below w.heap.size w w'):zCe w' lb caps:=
 ⟨h.1,fun k u hk=>by
  obtain⟨B,h1,h2⟩:=h.2 k u hk;exact⟨B,h1,(t.cell (zD h2)).trans h2⟩⟩
theorem zCe.one{w:World}{B:Nat}{u:Value}(h:w.cell? ⟨B,0,none⟩=some u):zCe w #[.pointer (some ⟨B,0,none⟩)] [u]:=
 ⟨rfl,fun k x hk=>by
  match k,hk with
  | 0,hk=>simp at hk;subst hk;exact⟨B,rfl,h⟩
  | k+1,hk=>simp at hk⟩
theorem zCe.is1{w:World}{lb:Array Value}{u:Value}(h:zCe w lb [u]):∃B,lb=#[.pointer (some ⟨B,0,none⟩)]/\w.cell? ⟨B,0,none⟩=some u:=by
 obtain⟨B,h1,h2⟩:=h.2 0 u rfl;refine⟨B,?_,h2⟩;have hs:=h.1;obtain⟨l⟩:=lb
 match l,hs,h1 with
 | [x],_,h1=>simp at h1;rw[h1]
def QAt(w:World)(p:Nat->Addr)(g i:Nat)(caps:List Value)(v:Value):Prop:=∃lb,v = .agg #[.func (.func g) #[] lb,qK (p i)]/\zCe w lb caps
theorem QAt.zRX{w w':World}{p:Nat->Addr}{g i:Nat}{caps:List Value}{v:Value}(h:QAt w p g i caps v)(t:Below w.heap.size w w'):QAt w' p g i caps v:=by
 obtain⟨lb,hv,hc⟩:=h;exact⟨lb,hv,hc.zRX t⟩
theorem zOj{w:World}{s u:ByteArray}{t:TypeId}{f:Nat->ByteArray}(hs:s.size<=maxLen)(hu:u.size<=maxLen)(h0:f 0=s)(h1:f 1=u):zAL (w.alloc (.cells #[.string s,.string u] t)) (.slice (some ⟨w.heap.size,0,none⟩) 2 2) 2 f:=by
 refine⟨by omega,_,_,rfl,fun i hi=>?_,fun _=>⟨_,_,rfl,fun i hi=>?_⟩⟩
 ·rcases(by omega:i=0\/i=1)with rfl | rfl
  ·rw[h0];exact hs
  ·rw[h1];exact hu
 ·rcases(by omega:i=0\/i=1)with rfl | rfl
  ·rw[h0];exact World.cell?_alloc_at _ _ _ _ rfl
  ·rw[h1];exact World.cell?_alloc_at _ _ _ _ rfl
def zGd(w:World)(p:Nat->Addr)(m:Nat)(g ei:Nat->Nat)(caps:Nat->List Value)(v:Value):Prop:=∃lb:Nat->Array Value,zDE w p v m g lb ei/\∀k,k<m->zCe w (lb k) (caps k)
theorem zGd.zRX{w w':World}{p:Nat->Addr}{m:Nat}{g ei:Nat->Nat}{caps:Nat->List Value}{v:Value}(h:zGd w p m g ei caps v)(t:Below w.heap.size w w'):zGd w' p m g ei caps v:=by
 obtain⟨lb,h1,h2⟩:=h;exact⟨lb,h1.zRX t,fun k hk=>(h2 k hk).zRX t⟩
theorem zQ2{w:World}{p:Nat->Addr}{g ei:Nat->Nat}{caps:Nat->List Value}{aA:Array Value}{t:TypeId}(h0:zCe w aA (caps 0)):zGd (w.alloc (.cells #[.func (.func (g 0)) #[] aA,qK (p (ei 0))] t)) p 1 g ei caps (.slice (some ⟨w.heap.size,0,none⟩) 1 1):=by
 have bA:=zC w (.cells #[.func (.func (g 0)) #[] aA,qK (p (ei 0))] t);refine⟨(fun i=>match i with  | _=>aA),⟨by omega,_,_,rfl,fun _=>⟨_,_,rfl,fun i hi=>?_⟩⟩,fun i hi=>?_⟩
 ·obtain rfl:i=0:=(by omega);exact⟨World.cell?_alloc_at _ _ _ _ rfl,World.cell?_alloc_at _ _ _ _ rfl⟩
 ·obtain rfl:i=0:=(by omega);exact h0.zRX bA
theorem zM1(v0 v1 v2 v3:Value)(lo hi:Nat)(W:zH)(name:ByteArray)(w:World)(h:zk w lo hi v0 v1 v2 v3 W)(mA:W.sn<=8)(nA:name.size<=maxLen) :
  Calls Tryz.prog 92 #[zz v0 v1 v2 v3 W,.string name] w fun e w'=>zG (zAS W name) e/\Below w.heap.size w w':=by
 have Hp:=zB h;clear h;have ha:=zC w (.cells #[v0,v1,.int .i64 W.time,.int .i64 W.next,v2,v3] 37);obtain⟨⟨x0,-⟩,⟨x1,-⟩,⟨x2,-⟩,⟨x3,-⟩,⟨x4,-⟩,⟨x5,-⟩⟩:=zi.zRZ w (v0) (v1) (.int .i64 W.time) (.int .i64 W.next) (v2) (v3) 37;go_enter Tryz.func92,Tryz.ntmps92;go_wp2_with fail;clear x0 x1 x2 x3 x4 x5;generalize w.alloc (.cells #[v0,v1,.int .i64 W.time,.int .i64 W.next,v2,v3] 37)=W0 at ha ⊢;refine(zEX v0 v1 v2 v3 lo hi W W0 (Hp.out.zRX ha) mA).mono ?_;rintro e w1 ⟨vd,rfl,dA,fA,jA⟩;have gA:∀i,i<W.sn->∃a n c,vd i = .slice a n c:=fun i hi'=>by
  obtain⟨_,aa,cc,hv,_⟩:=fA i hi';exact⟨aa,_,cc,hv⟩
 obtain⟨s0,i1,i2,i3,i4,sa,sn,sc,kA⟩:=zJc gA name;have lA:=zB kA;have cA:=zB (zLg (W:=W) (vd:=vd));have eA:=zB dA;have bA:=zB (zKC nA);have iA:=zA ha jA;clear dA fA gA jA ha kA;obtain⟨M,hM⟩:∃M,M=W0.heap.size+1:=⟨_,rfl⟩;rw[<-hM]at eA ⊢;clear hM;by_cases aA:zAS W name
 ·skip;have Hc:=zB (show Maps.has (putD (fun i=>zC4 (W.zRg i).name) (fun i=>zDU (vd i) (W.zRg i)) W.sn) (zC4 name)=true from(cA.out name).2 aA);have Hn:=zB aA;clear aA;go_wp2_with (first
   | (at_lookup;refine yy _ rfl _ _ 177 rfl 9 67 zOy zLF (zF8 _) M W.sn _ rfl eA.out _ _ rfl bA.out _ lA.out true Hc.out ?_)
   | go_in)
  go_ret;exact⟨zG.yes Hn.out,zA iA (zC w1 (.cells #[.string s0,.int .i64 i1,.int .i64 i2,.int .i64 i3,.int .i64 i4,.slice sa sn sc] 67))⟩
 ·skip;have Hc:=zB (show Maps.has (putD (fun i=>zC4 (W.zRg i).name) (fun i=>zDU (vd i) (W.zRg i)) W.sn) (zC4 name)=false from by rw[Bool.eq_false_iff];exact fun h=>aA ((cA.out name).1 h));have Hn:=zB aA;clear aA;go_wp2_with (first
   | (at_lookup;refine yy _ rfl _ _ 177 rfl 9 67 zOy zLF (zF8 _) M W.sn _ rfl eA.out _ _ rfl bA.out _ lA.out false Hc.out ?_)
   | go_in)
  go_ret;exact⟨zG.no Hn.out,zA iA (zC w1 (.cells #[.string s0,.int .i64 i1,.int .i64 i2,.int .i64 i3,.int .i64 i4,.slice sa sn sc] 67))⟩
theorem zIo(v0 v1 v2 v3:Value)(lo hi:Nat)(W:zH)(B:Nat)(name:ByteArray)(w:World)(h:zk w lo hi v0 v1 v2 v3 W)(cA:W.sn<=8)(dA:name.size<=maxLen)(hc:w.cell? ⟨B,0,none⟩=some (.string name)) :
  Calls Tryz.prog 91 #[zz v0 v1 v2 v3 W,.pointer (some ⟨B,0,none⟩)] w fun e w'=>zG (zAS W name) e/\Below w.heap.size w w':=by
 have Hp:=zB h;clear h;have ha:=zC w (.cells #[v0,v1,.int .i64 W.time,.int .i64 W.next,v2,v3] 37);have bA:=(ha.cell (zD hc)).trans hc;obtain⟨⟨x0,-⟩,⟨x1,-⟩,⟨x2,-⟩,⟨x3,-⟩,⟨x4,-⟩,⟨x5,-⟩⟩:=zi.zRZ w (v0) (v1) (.int .i64 W.time) (.int .i64 W.next) (v2) (v3) 37;go_enter Tryz.func91,Tryz.ntmps91;go_wp2_with fail;clear x0 x1 x2 x3 x4 x5 hc bA;generalize w.alloc (.cells #[v0,v1,.int .i64 W.time,.int .i64 W.next,v2,v3] 37)=W0 at ha ⊢;refine(zM1 v0 v1 v2 v3 lo hi W name W0 (Hp.out.zRX ha) cA dA).mono ?_;rintro e w1 ⟨⟨t,rfl,ht⟩,eA⟩;have aA:=zA ha eA;by_cases hf:zAS W name
 ·obtain rfl:t=true:=ht.2 hf;have HF:=zB hf;clear ht hf;go_wp2;go_ret;exact⟨zG.yes HF.out,aA⟩
 ·obtain rfl:t=false:=zQ ht hf;have HF:=zB hf;clear ht hf;go_wp2;go_ret;exact⟨zG.no HF.out,aA⟩
theorem zKS(p:Nat->Addr)(s0:ByteArray)(w:World)(hE:zE3 w p) :
  Calls Tryz.prog 33 #[.string s0] w fun e w'=>∃B0:Nat,e = .returned (.agg #[.func (.func 91) #[] #[.pointer (some ⟨B0,0,none⟩)],qK (p 2)])/\w'.cell? ⟨B0,0,none⟩=some (.string s0)/\Below w.heap.size w w':=by
 have bA:=zC w (.cells #[.string s0] 9);have dA:=zC (w.alloc (.cells #[.string s0] 9)) (.cells #[.nilFunc,.nilIface] 75);have hb:=zA (bA) dA;have c0:(w.alloc (.cells #[.string s0] 9)).cell? ⟨w.heap.size,0,none⟩=some (.string s0):=World.cell?_alloc_at _ _ _ _ rfl;have hg:((w.alloc (.cells #[.string s0] 9)).alloc (.cells #[.nilFunc,.nilIface] 75)).cell? ⟨0,0,none⟩=some (qK (p 2)):=(hE.zRX hb).cell 2 (by omega);have cA:=zC (w.alloc (.cells #[.string s0] 9)) (.cells #[.func (.func 91) #[] #[.pointer (some ⟨w.heap.size,0,none⟩)],qK (p 2)] 75);have eA:=zA (bA) cA;have fA:=zB ((cA.cell (zD c0)).trans c0);clear c0;go_enter Tryz.func33,Tryz.ntmps33;have gA:=fun (ww:World) (a:Addr)=>run_store Tryz.prog ww a (.func (.func 91) #[] #[.pointer (some ⟨w.heap.size,0,none⟩)]) .plain rfl
 go_wp2_with fail;have aA:=zc.zRZ (w.alloc (.cells #[.string s0] 9)) (.func (.func 91) #[] #[.pointer (some ⟨w.heap.size,0,none⟩)]) (qK (p 2)) 75;rw[World.size_alloc]at aA;refine bodyPost_ret (v:=.agg #[.func (.func 91) #[] #[.pointer (some ⟨w.heap.size,0,none⟩)],qK (p 2)]) (by simp[results,Tryz.results33,go_sem,aA.1.1,aA.2.1]) rfl ⟨_,rfl,fA.out,eA⟩
theorem zD8(p:Nat->Addr)(v0 v1 v2 v3:Value)(lo hi:Nat)(W:zH)(name:ByteArray)(zRj:Int)(data:ByteArray)(o:zCA)(w:World)(hE:zE3 w p)(h:zk w lo hi v0 v1 v2 v3 W)(dC:zCQ W)(b1:qC W.zRd<=1048576)(b2:W.sn<=1048576)(b3:W.pn<=1048576)(b4:zDs W)(gA:name.size<=maxLen)(iA:(Lit.int .i64 zRj).wf=true)(vA:data.size<=maxLen)
  (tB:∀B0 B1 B2 C w' z0 z1 z2 z3,w'.cell? ⟨B0,0,none⟩=some (.string name)->B0<C->w'.cell? ⟨B1,0,none⟩=some (.int .i64 zRj)->B1<C->w'.cell? ⟨B2,0,none⟩=some (.string data)->B2<C->zAx W->¬(∃i,i<2/\8000<((fun i=>match i with | 0=>name | _=>data) i).size)->¬(∃i,i<0/\¬yI ((fun _=>⟨#[]⟩) i))->(∀j,j<1->(fun i=>match i with  | _=>zAS W name) j)->C<w'.heap.size->Below w.heap.size w w'->qP w' (C+1) w'.heap.size z0 z1 z2 z3 W->yi w' C z0 z1 (.int .i64 W.time) (.int .i64 W.next) z2 z3 (.int .i64 0) (.int .i64 0) .nilIface->Calls Tryz.prog 34 #[.pointer (some ⟨C,0,none⟩),.pointer (some ⟨B0,0,none⟩),.pointer (some ⟨B1,0,none⟩),.pointer (some ⟨B2,0,none⟩)] w' (zLy p o C w')) :
  Calls Tryz.prog 10 #[zz v0 v1 v2 v3 W,.string name,.int .i64 zRj,.string data] w fun e w'=>∃r,zIV W (∃i,i<2/\8000<((fun i=>match i with | 0=>name | _=>data) i).size) (∃i,i<0/\¬yI ((fun _=>⟨#[]⟩) i)) 1 (fun i=>match i with  | _=>zAS W name) (fun i=>match i with  | _=>2) r/\zB0 (zNA r o) w e w':=by
 have Hp:=zd h;have HE:=zd hE;have rC:=zd tB;have pC:=zd dC;have eA:=zd gA;have cA:=zd vA;have pA:=zd iA;clear iA;clear h hE tB dC;have aC:=zC w (.cells #[v0,v1,.int .i64 W.time,.int .i64 W.next,v2,v3] 37);have kB:=zC (w.alloc (.cells #[v0,v1,.int .i64 W.time,.int .i64 W.next,v2,v3] 37)) (.cells #[.string name] 9);have fB:=zC ((w.alloc (.cells #[v0,v1,.int .i64 W.time,.int .i64 W.next,v2,v3] 37)).alloc (.cells #[.string name] 9)) (.cells #[.int .i64 zRj] 2);have cB:=zC (((w.alloc (.cells #[v0,v1,.int .i64 W.time,.int .i64 W.next,v2,v3] 37)).alloc (.cells #[.string name] 9)).alloc (.cells #[.int .i64 zRj] 2)) (.cells #[.string data] 9);have mA:=zC ((((w.alloc (.cells #[v0,v1,.int .i64 W.time,.int .i64 W.next,v2,v3] 37)).alloc (.cells #[.string name] 9)).alloc (.cells #[.int .i64 zRj] 2)).alloc (.cells #[.string data] 9)) (.cells #[.slice none 0 0,.slice none 0 0,.int .i64 0,.int .i64 0,.slice none 0 0,.slice none 0 0,.int .i64 0,.int .i64 0,.int .i64 0] 39);have hb:=zA (zA (zA (zA (aC) kB) fB) cB) mA;have HX:=zd (((((zi.zRZ w (v0) (v1) (.int .i64 W.time) (.int .i64 W.next) (v2) (v3) 37).zRX kB).zRX fB).zRX cB).zRX mA);have c0:((w.alloc (.cells #[v0,v1,.int .i64 W.time,.int .i64 W.next,v2,v3] 37)).alloc (.cells #[.string name] 9)).cell? ⟨(w.alloc (.cells #[v0,v1,.int .i64 W.time,.int .i64 W.next,v2,v3] 37)).heap.size,0,none⟩=some (.string name):=World.cell?_alloc_at _ _ _ _ rfl;rw[World.size_alloc]at c0;replace c0:=(fB.cell (zD c0)).trans c0;replace c0:=(cB.cell (zD c0)).trans c0;replace c0:=(mA.cell (zD c0)).trans c0;have vB:=zd c0;clear c0;have c1:(((w.alloc (.cells #[v0,v1,.int .i64 W.time,.int .i64 W.next,v2,v3] 37)).alloc (.cells #[.string name] 9)).alloc (.cells #[.int .i64 zRj] 2)).cell? ⟨((w.alloc (.cells #[v0,v1,.int .i64 W.time,.int .i64 W.next,v2,v3] 37)).alloc (.cells #[.string name] 9)).heap.size,0,none⟩=some (.int .i64 zRj):=World.cell?_alloc_at _ _ _ _ rfl;rw[World.size_alloc,World.size_alloc]at c1;replace c1:=(cB.cell (zD c1)).trans c1;replace c1:=(mA.cell (zD c1)).trans c1;have rB:=zd c1;clear c1;have c2:((((w.alloc (.cells #[v0,v1,.int .i64 W.time,.int .i64 W.next,v2,v3] 37)).alloc (.cells #[.string name] 9)).alloc (.cells #[.int .i64 zRj] 2)).alloc (.cells #[.string data] 9)).cell? ⟨(((w.alloc (.cells #[v0,v1,.int .i64 W.time,.int .i64 W.next,v2,v3] 37)).alloc (.cells #[.string name] 9)).alloc (.cells #[.int .i64 zRj] 2)).heap.size,0,none⟩=some (.string data):=World.cell?_alloc_at _ _ _ _ rfl;rw[World.size_alloc,World.size_alloc,World.size_alloc]at c2;replace c2:=(mA.cell (zD c2)).trans c2;have sB:=zd c2;clear c2;have hr:=yi.zRZ ((((w.alloc (.cells #[v0,v1,.int .i64 W.time,.int .i64 W.next,v2,v3] 37)).alloc (.cells #[.string name] 9)).alloc (.cells #[.int .i64 zRj] 2)).alloc (.cells #[.string data] 9)) (.slice none 0 0) (.slice none 0 0) (.int .i64 0) (.int .i64 0) (.slice none 0 0) (.slice none 0 0) (.int .i64 0) (.int .i64 0) (.int .i64 0) 39;rw[World.size_alloc,World.size_alloc,World.size_alloc,World.size_alloc]at hr;have HR:=zd hr;clear hr;have hz:(((((w.alloc (.cells #[v0,v1,.int .i64 W.time,.int .i64 W.next,v2,v3] 37)).alloc (.cells #[.string name] 9)).alloc (.cells #[.int .i64 zRj] 2)).alloc (.cells #[.string data] 9)).alloc (.cells #[.slice none 0 0,.slice none 0 0,.int .i64 0,.int .i64 0,.slice none 0 0,.slice none 0 0,.int .i64 0,.int .i64 0,.int .i64 0] 39)).heap.size=w.heap.size+5:=by rw[World.size_alloc,World.size_alloc,World.size_alloc,World.size_alloc,World.size_alloc]
 go_enter Tryz.func10,Tryz.ntmps10;go_upto_region 1 with fail;generalize (((((w.alloc (.cells #[v0,v1,.int .i64 W.time,.int .i64 W.next,v2,v3] 37)).alloc (.cells #[.string name] 9)).alloc (.cells #[.int .i64 zRj] 2)).alloc (.cells #[.string data] 9)).alloc (.cells #[.slice none 0 0,.slice none 0 0,.int .i64 0,.int .i64 0,.slice none 0 0,.slice none 0 0,.int .i64 0,.int .i64 0,.int .i64 0] 39))=W1 at hb HX HR hz vB rB sB ⊢;clear aC kB fB cB mA;obtain⟨⟨x0,-⟩,⟨x1,-⟩,⟨x2,-⟩,⟨x3,-⟩,⟨x4,-⟩,⟨x5,-⟩⟩:=HX.out;have k0:=vB.out;have k1:=rB.out;have k2:=sB.out;have aA:=zd (show ∀w',Below (w.heap.size+1+1+1+1) W1 w'->(fun w'=>w'.cell? ⟨w.heap.size,0,none⟩=some (v0)/\w'.cell? ⟨w.heap.size,1,none⟩=some (v1)/\w'.cell? ⟨w.heap.size,2,none⟩=some (.int .i64 W.time)/\w'.cell? ⟨w.heap.size,3,none⟩=some (.int .i64 W.next)/\w'.cell? ⟨w.heap.size,4,none⟩=some (v2)/\w'.cell? ⟨w.heap.size,5,none⟩=some (v3)/\w'.cell? ⟨w.heap.size+1,0,none⟩=some (.string name)/\w'.cell? ⟨w.heap.size+1+1,0,none⟩=some (.int .i64 zRj)/\w'.cell? ⟨w.heap.size+1+1+1,0,none⟩=some (.string data)/\Below (w.heap.size+1+1+1+1) W1 w') w' from fun w' bA=>⟨(bA.cell (p:=⟨w.heap.size,0,none⟩) (by show w.heap.size<_;omega)).trans x0,(bA.cell (p:=⟨w.heap.size,1,none⟩) (by show w.heap.size<_;omega)).trans x1,(bA.cell (p:=⟨w.heap.size,2,none⟩) (by show w.heap.size<_;omega)).trans x2,(bA.cell (p:=⟨w.heap.size,3,none⟩) (by show w.heap.size<_;omega)).trans x3,(bA.cell (p:=⟨w.heap.size,4,none⟩) (by show w.heap.size<_;omega)).trans x4,(bA.cell (p:=⟨w.heap.size,5,none⟩) (by show w.heap.size<_;omega)).trans x5,(bA.cell (p:=⟨w.heap.size+1,0,none⟩) (by show w.heap.size+1<_;omega)).trans k0,(bA.cell (p:=⟨w.heap.size+1+1,0,none⟩) (by show w.heap.size+1+1<_;omega)).trans k1,(bA.cell (p:=⟨w.heap.size+1+1+1,0,none⟩) (by show w.heap.size+1+1+1<_;omega)).trans k2,bA⟩);have lA:w.heap.size+1+1+1+1<=W1.heap.size:=by omega
 clear x0 x1 x2 x3 x4 x5 k0 k1 k2;refine wp_region_held_drew (S:=(fun w'=>w'.cell? ⟨w.heap.size,0,none⟩=some (v0)/\w'.cell? ⟨w.heap.size,1,none⟩=some (v1)/\w'.cell? ⟨w.heap.size,2,none⟩=some (.int .i64 W.time)/\w'.cell? ⟨w.heap.size,3,none⟩=some (.int .i64 W.next)/\w'.cell? ⟨w.heap.size,4,none⟩=some (v2)/\w'.cell? ⟨w.heap.size,5,none⟩=some (v3)/\w'.cell? ⟨w.heap.size+1,0,none⟩=some (.string name)/\w'.cell? ⟨w.heap.size+1+1,0,none⟩=some (.int .i64 zRj)/\w'.cell? ⟨w.heap.size+1+1+1,0,none⟩=some (.string data)/\Below (w.heap.size+1+1+1+1) W1 w')) (by kernel_rfl) (aA.out _ ((Below.refl _ _).drew.mono lA)) (fun hHeld=>?_);have oC:Below W1.heap.size W1 W1.drew:=(Below.refl _ _).drew;refine tk 0 (h:=?_);refine tk 1 (h:=?_);refine tk 3 (h:=?_);refine tk 6 (h:=?_);refine tk 8 (h:=?_);refine zJP [2,4,5] (fun i=>if i=5 then [4] else []) (fun i=>i+9) (fun i v w'=>(i=2->zAL w' v 2 (fun i=>match i with | 0=>name | _=>data))/\(i=4->QAt w' p 91 2 [.string name] v)/\(i=5->zGd w' p 1 (fun i=>match i with  | _=>91) (fun i=>match i with  | _=>2) (fun i=>match i with  | _=>[.string name]) v)) 3 (G:=fun w'=>Below W1.heap.size W1 w') (by kernel_rfl) (by decide) (by decide) (by decide) ?_ (fun _ _ h t=>zA h t) (by assumption) oC ?_ ?_
 ·intro i v w' sC hf t;exact⟨fun e=>(hf.1 e).zRX t,fun e=>(hf.2.1 e).zRX t,fun e=>(hf.2.2 e).zRX t⟩
 ·intro i hi x w2 hS hG hD K hK;simp only[List.mem_cons,List.not_mem_nil,or_false]at hi;rcases hi with rfl | rfl | rfl
  ·refine wpOp_step (zAa rfl) (fun K' rA=>?_);simp only[qX,Act.put,Nat.reduceAdd,s1,s2,s3];have aB:=zC w2 (.cells #[.string name,.string data] 9);go_simp;refine rA _ _ (hK.out _ _ _ ?_ (aA.out _ ((zA hG aB).mono lA)) ⟨fun _=>zOj eA.out cA.out rfl rfl,fun e=>absurd e (by decide),fun e=>absurd e (by decide)⟩ aB);simp only[qX,Act.put,Nat.reduceAdd,s1,s2,s3]
  ·refine wpOp_step (zAa rfl) (fun K' rA=>?_);simp only[qX,Act.put,Nat.reduceAdd,s1,s2,s3];go_simp;go_at_call 33;refine(zKS p name w2 (HE.out.zRX (zA hb hG))).mono ?_;rintro e w3 ⟨B0,rfl,nA,iB⟩;refine rA _ _ (hK.out _ _ w3 ?_ (aA.out _ ((zA hG iB).mono lA)) ⟨fun e=>absurd e (by decide),fun _=>⟨_,rfl,zCe.one nA⟩,fun e=>absurd e (by decide)⟩ iB);simp only[qX,Act.put,Nat.reduceAdd,s1,s2,s3]
  ·refine wpOp_step (zAa rfl) (fun K' rA=>?_);simp only[qX,Act.put,Nat.reduceAdd,s1,s2,s3];obtain⟨cC,e0,sA⟩:=(hD 4 (by decide)).2.1 rfl;simp only[e0];have aB:=zC w2 (.cells #[.func (.func 91) #[] cC,qK (p 2)] 75);have hA:zGd (w2.alloc (.cells #[.func (.func 91) #[] cC,qK (p 2)] 75)) p 1 (fun i=>match i with  | _=>91) (fun i=>match i with  | _=>2) (fun i=>match i with  | _=>[.string name]) (.slice (some ⟨w2.heap.size,0,none⟩) 1 1):=zQ2 (g:=(fun i=>match i with  | _=>91)) (ei:=(fun i=>match i with  | _=>2)) (caps:=(fun i=>match i with  | _=>[.string name])) sA;go_simp;refine rA _ _ (hK.out _ _ _ ?_ (aA.out _ ((zA hG aB).mono lA)) ⟨fun e=>absurd e (by decide),fun e=>absurd e (by decide),fun _=>hA⟩ aB);simp only[qX,Act.put,Nat.reduceAdd,s1,s2,s3,e0]
 ·intro x w2 hS hG hF;have hT:=(hF 2 (by decide)).1 rfl;obtain⟨-,ta,tc,et,-,-⟩:=id hT;have hN:zAL w2 (.slice none 0 0) 0 (fun _=>⟨#[]⟩):=⟨by omega,_,_,rfl,fun i hi=>absurd hi (Nat.not_lt_zero _),fun h=>absurd h (Nat.lt_irrefl _)⟩;obtain⟨lb,hA,bB⟩:=(hF 5 (by decide)).2.2 rfl;obtain⟨-,qa,qc,eq,-⟩:=id hA;simp only[qX,zAy,if_true,Act.put,Nat.reduceAdd,s1,s2,s3,et,eq];rw[et]at hT;rw[eq]at hA;have bA:=zA hb hG;have gC:=zd hT;have kC:=zd hN;have nC:=zd hA;have lB:=zd bB;clear hT hN hA bB hF;refine tk 7 (h:=?_);refine rd [9] (rc (fun K hK=>?_) .nil);go_simp;go_at_call 38;refine(zQy p _ _ _ 34 #[.pointer (some ⟨w.heap.size+1,0,none⟩),.pointer (some ⟨w.heap.size+1+1,0,none⟩),.pointer (some ⟨w.heap.size+1+1+1,0,none⟩)] 2 0 1 (fun i=>match i with | 0=>name | _=>data) (fun _=>⟨#[]⟩) (fun i=>match i with  | _=>91) lb (fun i=>match i with  | _=>2) (fun i=>match i with  | _=>zAS W name) o _ _ _ _ lo hi W w2 (HE.out.zRX bA) (Hp.out.zRX bA) pC.out b1 b2 b3 b4 gC.out kC.out nC.out ?_ ?_ (enters_of Tryz.func34 (by kernel_rfl) rfl) ?_ ?_).mono ?_
  ·intro i hi;obtain rfl:i=0:=(by omega);decide
  ·intro i hi;obtain rfl:i=0:=(by omega);exact enters_of Tryz.func91 (by kernel_rfl) rfl
  ·intro i hi' w' jA hI vC;have hW:=(Hp.out.zRX bA).zRX jA;have h8:=hI.zRo.zRg.1;have aD:=hI.zRo.zRe.1;obtain rfl:i=0:=(by omega);obtain⟨B0,eC,nA⟩:=(lB.out 0 (by decide)).is1;replace nA:=(jA.cell (zD nA)).trans nA;rw[eC];exact zIo v0 v1 v2 v3 lo hi W B0 name w' hW h8 gA nA
  ·intro C w' z0 z1 z2 z3 hC jA mC hI hl iC hq dA mB;exact rC.out (w.heap.size+1) (w.heap.size+1+1) (w.heap.size+1+1+1) C w' z0 z1 z2 z3 ((jA.cell (zD hS.2.2.2.2.2.2.1)).trans hS.2.2.2.2.2.2.1) (by have:=hG.size;omega) ((jA.cell (zD hS.2.2.2.2.2.2.2.1)).trans hS.2.2.2.2.2.2.2.1) (by have:=hG.size;omega) ((jA.cell (zD hS.2.2.2.2.2.2.2.2.1)).trans hS.2.2.2.2.2.2.2.2.1) (by have:=hG.size;omega) hI hl iC hq mC (zA bA jA) dA mB
  rintro e w3 ⟨r,tA,z0,z1,z2,z3,rfl,dA,iB⟩;obtain⟨n0,gB,n1,dB,n2,jB,n3,eB,rfl,rfl,rfl,rfl⟩:=dA.form;have kA:=zA hG iB;have pB:=zd (HR.out.zRX kA);have oA:=zd dA;have nB:=zd tA;clear dA tA;generalize bC:zNA r o=oo at oA ⊢;have fC:=zd bC;clear bC
  (try go_wp2_with fail)
  refine hK.out _ _ (aA.out _ (kA.mono lA)) ?_;clear hK K hHeld;intro hHeld
  try simp only[Act.put,s1,s2,s3]
  refine rd [10] (rc (fun K hK=>?_) .nil);obtain⟨⟨r0,g0⟩,⟨r1,g1⟩,⟨r2,g2⟩,⟨r3,g3⟩,⟨r4,g4⟩,⟨r5,g5⟩,⟨r6,g6⟩,⟨r7,g7⟩,⟨r8,g8⟩⟩:=pB.out;go_simp
  (try go_wp2_with fail)
  have hT:=zF.put9 w3 (w.heap.size+1+1+1+1) (.slice n0 oo.world.zRd.n gB) (.slice n1 oo.world.zRd.hn dB) (.int .i64 oo.world.time) (.int .i64 oo.world.next) (.slice n2 oo.world.sn jB) (.slice n3 oo.world.pn eB) (.int .i64 oo.id) (.int .i64 oo.zRp) (.int .i64 oo.code);have jC:Below (w.heap.size+1+1+1+1) W1 (((((((((w3.setCell ⟨w.heap.size+1+1+1+1,0,none⟩ (.slice n0 oo.world.zRd.n gB)).setCell ⟨w.heap.size+1+1+1+1,1,none⟩ (.slice n1 oo.world.zRd.hn dB)).setCell ⟨w.heap.size+1+1+1+1,2,none⟩ (.int .i64 oo.world.time)).setCell ⟨w.heap.size+1+1+1+1,3,none⟩ (.int .i64 oo.world.next)).setCell ⟨w.heap.size+1+1+1+1,4,none⟩ (.slice n2 oo.world.sn jB)).setCell ⟨w.heap.size+1+1+1+1,5,none⟩ (.slice n3 oo.world.pn eB)).setCell ⟨w.heap.size+1+1+1+1,6,none⟩ (.int .i64 oo.id)).setCell ⟨w.heap.size+1+1+1+1,7,none⟩ (.int .i64 oo.zRp)).setCell ⟨w.heap.size+1+1+1+1,8,none⟩ (.int .i64 oo.code)):=(kA.mono lA).trans (hT.zRX (B:=w.heap.size+1+1+1+1) (by have:=kA.size;omega) (fun k e=>by omega));refine hK.out _ _ (aA.out _ jC) ?_;clear hK K hHeld r0 r1 r2 r3 r4 r5 r6 r7 r8 g0 g1 g2 g3 g4 g5 g6 g7 g8;intro hHeld
  try simp only[Act.put,s1,s2,s3]
  refine wpAnyH_done (by kernel_rfl) ?_ _;go_wp2_with fail;have fA:=pB.out.put (.slice n0 oo.world.zRd.n gB) (.slice n1 oo.world.zRd.hn dB) (.int .i64 oo.world.time) (.int .i64 oo.world.next) (.slice n2 oo.world.sn jB) (.slice n3 oo.world.pn eB) (.int .i64 oo.id) (.int .i64 oo.zRp) (.int .i64 oo.code);have oB:=zA hb kA;have lC:=hT.size;have tC:=kA.size;refine bodyPost_ret (v:=.agg #[.slice n0 oo.world.zRd.n gB,.slice n1 oo.world.zRd.hn dB,.int .i64 oo.world.time,.int .i64 oo.world.next,.slice n2 oo.world.sn jB,.slice n3 oo.world.pn eB,.int .i64 oo.id,.int .i64 oo.zRp,.int .i64 oo.code]) (by simp[results,Tryz.results10,go_sem,fA.1.1,fA.2.1.1,fA.2.2.1.1,fA.2.2.2.1.1,fA.2.2.2.2.1.1,fA.2.2.2.2.2.1.1,fA.2.2.2.2.2.2.1.1,fA.2.2.2.2.2.2.2.1.1,fA.2.2.2.2.2.2.2.2.1]) rfl ⟨r,nB.out,?_⟩;rw[fC.out];refine⟨_,_,_,_,rfl,?_,?_⟩
  ·exact(oA.out.zRf hT (fun k e=>by have:=hG.size;omega)).zRc (by have:=hG.size;omega) lC
  ·exact oB.trans (hT.zRX (B:=w.heap.size) oB.size (fun k e=>by omega))
def zAN(p:zI)(xs:Int):zI:={n:=p.n,s:=p.s,hn:=p.hn+1,h:=fun i=>if i=p.hn then xs else p.h i}
open Classical in
noncomputable def zH1(p:zI)(xs xb:Int):zDr:=if zx p then(if zr p xs xb/\¬Has p.hn p.h xs then⟨zAN p xs,0,0,0⟩else⟨zEH 0,0,0,4⟩)else⟨zEH 0,0,0,1⟩
theorem zOW{p:zI}{xs xb:Int}(h:¬zx p):zH1 p xs xb=⟨zEH 0,0,0,1⟩:=if_neg h
theorem zJf{p:zI}{xs xb:Int}(h:zx p)(h':¬(zr p xs xb/\¬Has p.hn p.h xs)):zH1 p xs xb=⟨zEH 0,0,0,4⟩:=(if_pos h).trans (if_neg h')
theorem zNb{p:zI}{xs xb:Int}(h:zx p)(h':zr p xs xb)(aA:¬Has p.hn p.h xs):zH1 p xs xb=⟨zAN p xs,0,0,0⟩:=(if_pos h).trans (if_pos ⟨h',aA⟩)
theorem zPx{f g:Nat->Int}{n:Nat}(h:∀i,i<n->f i=g i):ic f n=ic g n:=by
 induction n with
 | zero=>rfl
 | succ n ih=>
  unfold ic;rw[ih (fun i hi=>h i (by omega)),h n (by omega)]
theorem zNQ(p:zI)(xs:Int):ic (zAN p xs).h (p.hn+1)=ic p.h p.hn ++ [.int .i64 xs]:=by
 show ic (zAN p xs).h p.hn ++ [.int .i64 ((zAN p xs).h p.hn)]=_;rw[zPx (f:=(zAN p xs).h) (g:=p.h) (fun i hi=>if_neg (by omega)),show(zAN p xs).h p.hn=xs from if_pos rfl]
theorem zQ7(w:World)(a0 a1 x0 x1:Value)(t1 t2 t3:TypeId) :
  zc (((w.alloc (.cells #[a0,a1] t1)).alloc (.cells #[x0,x1] t2)).alloc (.cells #[.slice none 0 0,.slice none 0 0,.int .i64 0,.int .i64 0,.int .i64 0] t3)) w.heap.size a0 a1/\
  zc (((w.alloc (.cells #[a0,a1] t1)).alloc (.cells #[x0,x1] t2)).alloc (.cells #[.slice none 0 0,.slice none 0 0,.int .i64 0,.int .i64 0,.int .i64 0] t3)) (w.heap.size+1) x0 x1/\
  zDk (((w.alloc (.cells #[a0,a1] t1)).alloc (.cells #[x0,x1] t2)).alloc (.cells #[.slice none 0 0,.slice none 0 0,.int .i64 0,.int .i64 0,.int .i64 0] t3)) (w.heap.size+1+1) (.slice none 0 0) (.slice none 0 0) (.int .i64 0) (.int .i64 0) (.int .i64 0)/\
  Below w.heap.size w (((w.alloc (.cells #[a0,a1] t1)).alloc (.cells #[x0,x1] t2)).alloc (.cells #[.slice none 0 0,.slice none 0 0,.int .i64 0,.int .i64 0,.int .i64 0] t3))/\
  (((w.alloc (.cells #[a0,a1] t1)).alloc (.cells #[x0,x1] t2)).alloc (.cells #[.slice none 0 0,.slice none 0 0,.int .i64 0,.int .i64 0,.int .i64 0] t3)).heap.size=w.heap.size+3:=by
 refine⟨((zc.zRZ w a0 a1 t1).zRX (zC _ _)).zRX (zC _ _),?_,?_,zA (zA (zC _ _) (zC _ _)) (zC _ _),by simp⟩
 ·have:=(zc.zRZ (w.alloc (.cells #[a0,a1] t1)) x0 x1 t2).zRX (zC _ (.cells #[.slice none 0 0,.slice none 0 0,.int .i64 0,.int .i64 0,.int .i64 0] t3));rw[World.size_alloc]at this;exact this
 ·have:=zDk.zRZ ((w.alloc (.cells #[a0,a1] t1)).alloc (.cells #[x0,x1] t2)) (.slice none 0 0) (.slice none 0 0) (.int .i64 0) (.int .i64 0) (.int .i64 0) t3;rw[World.size_alloc,World.size_alloc]at this;exact this
theorem zHV{w wr:World}{lo hi R:Nat}{s0 s1 u2 u3 u4:Value}{p:zI}(ho:zy wr lo hi s0 s1 p)(bA:R<lo)(cA:w.heap.size<=R)(aA:hi<=wr.heap.size)(hb:Below w.heap.size w wr) :
  zy (put5 wr R s0 s1 u2 u3 u4) w.heap.size (put5 wr R s0 s1 u2 u3 u4).heap.size s0 s1 p/\Below w.heap.size w (put5 wr R s0 s1 u2 u3 u4):=by
 have t:=zF.put5 wr R s0 s1 u2 u3 u4;have hz:=t.size;exact⟨(ho.zRf t (fun k hk=>by omega)).zRc (by omega) (by omega),hb.trans (t.zRX (by have:=hb.size;omega) (fun k hk=>by omega))⟩
theorem zCh{w wr:World}{R:Nat}{u2 u3 u4:Value}(aA:w.heap.size<=R)(hb:Below w.heap.size w wr) :
  zy (put5 wr R (.slice none 0 0) (.slice none 0 0) u2 u3 u4) w.heap.size (put5 wr R (.slice none 0 0) (.slice none 0 0) u2 u3 u4).heap.size (.slice none 0 0) (.slice none 0 0) (zEH 0)/\Below w.heap.size w (put5 wr R (.slice none 0 0) (.slice none 0 0) u2 u3 u4):=by
 have t:=zF.put5 wr R (.slice none 0 0) (.slice none 0 0) u2 u3 u4;exact⟨zHl,hb.trans (t.zRX (by have:=hb.size;omega) (fun k hk=>by omega))⟩
theorem zCK{b:Nat}{w w':World}(t:zF (fun k=>k=b) w w'):w.grownBy w' (some b):=⟨t.os,t.tape,t.output,t.size,fun k hk aA=>t.block k hk (fun e=>aA (by rw[e]))⟩
theorem zRH(w:World)(x:Value)(t:TypeId):∀j u,[x][j]?=some u->(w.alloc (.cells #[x] t)).cell? ((⟨w.heap.size,0,none⟩:Addr).add j)=some u:=by
 intro j u hj
 match j,hj with
 | 0,hj=>simp at hj;subst hj;simp[Addr.add]
 | (j+1),hj=>simp at hj
theorem zQU(x:Int):∀u∈[Value.int .i64 x],u.oneCell'=true:=by
 intro u hu;simp only[List.mem_cons,List.not_mem_nil,or_false]at hu;rw[hu];rfl
theorem zNd{w:World}{lo hi:Nat}{f:Nat->Int}{n c:Nat}{a:Option Addr}(h:qV w lo hi (.slice a n c) n f){w':World}(hb:Below w.heap.size w w'):∀b,a=some b->∀j u,(ic f n)[j]?=some u->w'.cell? (b.add j)=some u:=by
 intro b aA j u hj;have bA:j<n:=by
  have:=(List.getElem?_eq_some_iff.1 hj).1;rw[zBk]at this;omega
 obtain⟨b0,off,ha,hc⟩:=zJ5 h rfl hb (by omega);rw[ha]at aA;simp only[Option.some.injEq]at aA;subst aA;rw[add_lit];exact hc j u hj
theorem zL1{w:World}{lo hi:Nat}{f:Nat->Int}{n c:Nat}{a:Option Addr}(h:qV w lo hi (.slice a n c) n f):a=none->n=0/\n=0:=fun e=>by
 obtain⟨_,a2,c2,hv,_,hx⟩:=h;simp only[Value.slice.injEq,true_and]at hv;obtain⟨rfl,rfl⟩:=hv;by_cases h0:0<n
 ·obtain⟨b,off,ha,_⟩:=hx h0;rw[ha]at e;cases e
 ·omega
theorem zCg{w w':World}(h:w.grownBy w' none):Below w.heap.size w w':=⟨h.os,h.tape,h.output,h.size,fun k hk=>h.block k hk (by simp)⟩
theorem zF6{w:World}{b:Nat}{x:Value}(h:w.cell? ⟨b,0,none⟩=some x):∀j u,[x][j]?=some u->w.cell? ((⟨b,0,none⟩:Addr).add j)=some u:=by
 intro j u hj
 match j,hj with
 | 0,hj=>simp at hj;subst hj;rw[add_lit];exact h
 | (j+1),hj=>simp at hj
theorem zLe{p:zI}{xs y:Int}{j:Nat}(hj:j<=p.hn):Has j (zAN p xs).h y↔Has j p.h y:=by
 constructor
 ·rintro⟨k,hk,e⟩;exact⟨k,hk,by rw[<-e];exact(if_neg (by omega:¬k=p.hn)).symm⟩
 ·rintro⟨k,hk,e⟩;exact⟨k,hk,by rw[<-e];exact if_neg (by omega:¬k=p.hn)⟩
theorem zMr{p:zI}{xs xb:Int}(hR:zx p)(hP:zr p xs xb)(hH:¬Has p.hn p.h xs):zx (zAN p xs):=by
 refine⟨hR.1,fun j hj=>hR.2.1 j hj,fun j hj=>?_⟩;by_cases e:j=p.hn
 ·subst e;have hx:(zAN p xs).h p.hn=xs:=if_pos rfl;refine⟨?_,?_,?_,?_⟩
  ·rw[hx];exact hP.2.1
  ·rw[hx];exact hP.2.2.1
  ·rw[hx];intro hf;have h4:=hP.2.2.2;have h5:(p.s xs.toNat).zRi=0:=hf.1;have:=hP.1;omega
  ·rw[hx,zLe (Nat.le_refl _)];exact hH
 ·have aA:j<p.hn:=(by have:j<p.hn+1:=hj;omega);have hx:(zAN p xs).h j=p.h j:=if_neg e;obtain⟨h1,h2,h3,h4⟩:=hR.2.2 j aA;refine⟨?_,?_,?_,?_⟩
  ·rw[hx];exact h1
  ·rw[hx];exact h2
  ·rw[hx];exact h3
  ·rw[hx,zLe (by omega)];exact h4
def zDM(t:Nat)(left:Int)(e:Ending):Prop:=∃r:Int,e = .returned (.int .i64 r)/\(0<=r->r+t=left)/\r<=left/\-1<=r
theorem zFZ(v:Value)(n lo hi:Nat)(f g:Nat->Int)(left:Int)(w:World)(h1:zU w lo hi v n f g)(aA:0<=left)(bA:left<=1048576) :
  Calls Tryz.prog 135 #[v,.int .i64 left] w fun e w'=>zDM n left e/\Below w.heap.size w w':=by
 obtain⟨m1,a,c,rfl,mc,g1⟩:=h1;unfold maxLen at m1;clear g1;by_cases h:left - (n:Int)<0
 ·go_enter Tryz.func135,Tryz.ntmps135;go_wp2;go_ret;exact⟨⟨-1,rfl,by omega,by omega,by omega⟩,Below.refl _ _⟩
 ·go_enter Tryz.func135,Tryz.ntmps135;go_wp2;go_ret;exact⟨⟨_,rfl,by omega,by omega,by omega⟩,Below.refl _ _⟩
theorem zKj(v:Value)(n lo hi:Nat)(f:Nat->Int)(left:Int)(w:World)(h1:qV w lo hi v n f)(aA:0<=left)(bA:left<=1048576) :
  Calls Tryz.prog 65 #[v,.int .i64 left] w fun e w'=>zDM n left e/\Below w.heap.size w w':=by
 obtain⟨m1,a,c,rfl,mc,g1⟩:=h1;unfold maxLen at m1;clear g1;by_cases h:left - (n:Int)<0
 ·go_enter Tryz.func65,Tryz.ntmps65;go_wp2;go_ret;exact⟨⟨-1,rfl,by omega,by omega,by omega⟩,Below.refl _ _⟩
 ·go_enter Tryz.func65,Tryz.ntmps65;go_wp2;go_ret;exact⟨⟨_,rfl,by omega,by omega,by omega⟩,Below.refl _ _⟩
theorem zMz(v0 v1 v2:Value)(lo hi:Nat)(s:zL)(left:Int)(w:World)(h1:qG w lo hi v0 v1 v2 s)(eA:0<=left)(fA:left<=1048576) :
  Calls Tryz.prog 134 #[.agg #[v0,v1,v2],.int .i64 left] w fun e w'=>zDM (zAO s) left e/\Below w.heap.size w w':=by
 obtain⟨rfl,p1,rfl,m1⟩:=h1;have q1:=p1;obtain⟨_,a,c,rfl,_⟩:=p1;unfold maxLen at m1;go_enter Tryz.func134,Tryz.ntmps134;go_wp2_with fail;have bA:=(Below.refl w.heap.size w).alloc (Nat.le_refl _) (.cells #[.int .i64 s.zRi,.slice a s.kn c,.string s.data] 183);refine(zFZ _ s.kn lo hi _ _ _ _ (q1.zRX bA) eA fA).mono ?_;rintro e w1 ⟨⟨r,rfl,dA,iA,gA⟩,cA⟩;have aA:=zA bA cA;have e1:=cA.cell (p:=⟨w.heap.size,2,none⟩) (by simp);simp at e1;have Hr:Hid (0<=r->r+s.kn=left):=dA;clear dA cA bA;by_cases h:r<0
 ·go_wp2;go_ret;exact⟨⟨-1,rfl,by omega,by omega,by omega⟩,aA⟩
 ·by_cases h2:r - (s.data.size:Int)<0
  ·go_wp2;go_ret;exact⟨⟨-1,rfl,by omega,by omega,by omega⟩,aA⟩
  ·go_wp2;go_ret;refine⟨⟨_,rfl,fun _=>?_,by omega,by omega⟩,aA⟩;have:=Hr.out (by omega);unfold zAO;omega
theorem zLM(v:Value)(n lo hi:Nat)(f:Nat->zL)(left:Int)(w:World)(h1:qA w lo hi v n f)(mA:0<=left)(pA:left<=1048576) :
  Calls Tryz.prog 64 #[v,.int .i64 left] w fun e w'=>zDM (n+yn f n) left e/\Below w.heap.size w w':=by
 obtain⟨m1,a,c,rfl,mc,g1⟩:=h1;unfold maxLen at m1;have G1:Hid (0<n->∃b off,a=some ⟨b,off,none⟩/\lo<=b/\b<hi/\∀i,i<n->∃v0 v1 v2,w.cell? ⟨b,off+i*3,none⟩=some v0/\w.cell? ⟨b,off+i*3+1,none⟩=some v1/\w.cell? ⟨b,off+i*3+2,none⟩=some v2/\qG w lo hi v0 v1 v2 (f i)):=g1;clear g1;by_cases h:left - (n:Int)<0
 ·go_enter Tryz.func64,Tryz.ntmps64;go_wp2;go_ret;exact⟨⟨-1,rfl,by omega,by omega,by omega⟩,Below.refl _ _⟩
 ·go_enter Tryz.func64,Tryz.ntmps64;go_wp2
  go_loopw [1,5] (fun m i wr=>∃(k:Nat) (r:Int),k<=n/\i = .int .i64 k/\m = .int .i64 r/\0<=r/\r+n+yn f k=left/\Below w.heap.size w wr) (fun _ i _=>n - (intOf i).toNat)
  case atStart=>exact⟨0,_,Nat.zero_le _,rfl,rfl,by omega,by simp[yn],Below.refl _ _⟩
  case round=>
   obtain⟨k,r,hk,rfl,rfl,iA,hr,hb⟩:=hrel;have lA:r<=left:=(by omega);have Hr:Hid (r+n+yn f k=left):=hr;clear hr;by_cases fA:k<n
   ·have kA:(k:Int)<(n:Int):=(by omega);obtain⟨b,off,rfl,_,_,k1⟩:=G1.out (by omega);obtain⟨x0,x1,x2,c0,c1,c2,hs⟩:=k1 k fA;have gA:=(hb.cell (zD c0)).trans c0;have eA:=(hb.cell (zD c1)).trans c1;have jA:=(hb.cell (zD c2)).trans c2;have dA:=hs.zRX hb;have Hs:Hid (qG wr lo hi x0 x1 x2 (f k)):=dA;clear k1 G1 c0 c1 c2 hs;obtain⟨rfl,⟨_,ka,kc,rfl,_⟩,rfl,_⟩:=dA;go_wp2_with fail;refine(zMz _ _ _ lo hi (f k) _ _ Hs.out iA (by omega)).mono ?_;rintro e w1 ⟨⟨r',rfl,cA,oA,nA⟩,bA⟩;have aA:=zA hb bA;have Hq:Hid (0<=r'->r'+zAO (f k)=r):=cA;clear cA bA gA eA jA;by_cases h3:r'<0
    ·go_wp2;go_ret;exact⟨⟨-1,rfl,by omega,by omega,by omega⟩,aA⟩
    ·go_wp2;go_roundw
     case rel=>
      refine⟨k+1,r',by omega,by go_num,rfl,by omega,?_,aA⟩;have e1:=Hq.out (by omega);have e2:=Hr.out;show r'+(n:Int)+((yn f k+zAO (f k):Nat):Int)=left;omega
     case measure=>simp[intOf];omega
   ·obtain rfl:k=n:=(by omega);go_wp2;go_ret;exact⟨⟨r,rfl,fun _=>by have:=Hr.out;omega,lA,by omega⟩,hb⟩
theorem zM7(v0 v1:Value)(lo hi:Nat)(p:zI)(left:Int)(w:World)(h1:zu w lo hi v0 v1 p)(iA:0<=left)(jA:left<=1048576) :
  Calls Tryz.prog 22 #[.agg #[v0,v1],.int .i64 left] w fun e w'=>zDM (qC p) left e/\Below w.heap.size w w':=by
 have q1:=h1;obtain⟨⟨_,a,c,rfl,_⟩,⟨_,a',c',rfl,_⟩⟩:=h1;go_enter Tryz.func22,Tryz.ntmps22;go_wp2_with fail;have bA:=(Below.refl w.heap.size w).alloc (Nat.le_refl _) (.cells #[.slice a p.n c,.slice a' p.hn c'] 25);refine(zLM _ p.n lo hi _ _ _ (q1.1.zRX bA) iA jA).mono ?_;rintro e w1 ⟨⟨r,rfl,fA,lA,kA⟩,cA⟩;have aA:=zA bA cA;have e1:=cA.cell (p:=⟨w.heap.size,1,none⟩) (by simp);simp at e1;have Hr:Hid (0<=r->r+(p.n+yn p.s p.n:Nat)=left):=fA;clear fA cA bA;by_cases h:r<0
 ·go_wp2;go_ret;exact⟨⟨-1,rfl,by omega,by omega,by omega⟩,aA⟩
 ·go_wp2_with fail;refine(zKj _ p.hn lo hi _ _ _ (q1.2.zRX aA) (by omega) (by omega)).mono ?_;rintro e w2 ⟨⟨r',rfl,gA,nA,mA⟩,dA⟩;have eA:=zA aA dA;have Hq:Hid (0<=r'->r'+p.hn=r):=gA;clear gA dA;by_cases h3:r'<0
  ·go_wp2;go_ret;exact⟨⟨-1,rfl,by omega,by omega,by omega⟩,eA⟩
  ·go_wp2;go_ret;refine⟨⟨r',rfl,fun _=>?_,by omega,by omega⟩,eA⟩;have e1:=Hq.out (by omega);have e2:=Hr.out (by omega);unfold qC;omega
theorem zHG{p:zI}(h:∀i,i<p.n->qE (p.s i)\/zAg p (p.s i)):∀k,k<=p.n->yn p.s k<=24*k
 | 0,_=>Nat.le_refl _
 | k+1,hk=>by
  have ih:=zHG h k (by omega);have hs:zAO (p.s k)<=24:=by
   unfold zAO;rcases h k (by omega)with hf | hf
   ·have h1:=hf.2.1;have h2:(p.s k).data.size=0:=by
     have:=hf.2.2;rw[Go.ByteArray.toList_eq]at this;have e:(p.s k).data.data=#[]:=(by simpa using this);show(p.s k).data.data.size=0;rw[e];rfl
    omega
   ·rcases hf.2 with h2 | h2
    ·omega
    ·have h3:(p.s k).data.size=0:=by
      have:=h2.2.1;rw[Go.ByteArray.toList_eq]at this;have e:(p.s k).data.data=#[]:=(by simpa using this);show(p.s k).data.data.size=0;rw[e];rfl
     omega
  show yn p.s k+zAO (p.s k)<=_;omega
theorem zEQ{p:zI}(h:zx p):qC p<=10000:=by
 have h1:=zHG h.2.1 p.n (Nat.le_refl _);have h2:=((zCX p).2 h).2.1;have h3:=h.1;unfold qC;omega
def zv(p:zI):List (Int×Int)->zI
 | []=>p
 | x :: l=>zv (zAN p x.1) l
def yX(p:zI)(l:List (Int×Int)):Prop:=zx p/\(∀x,x∈l->zr p x.1 x.2/\¬Has p.hn p.h x.1)/\(l.map Prod.fst).Nodup
theorem zOF{p:zI}{xs y:Int}(h:Has (p.hn+1) (zAN p xs).h y):Has p.hn p.h y\/y=xs:=by
 obtain⟨j,hj,e⟩:=h;by_cases ej:j=p.hn
 ·right;rw[<-e,ej];exact if_pos rfl
 ·left;exact⟨j,by omega,by rw[<-e];exact(if_neg ej).symm⟩
theorem yX.head{p:zI}{x:Int×Int}{l:List (Int×Int)}(h:yX p (x :: l)):zH1 p x.1 x.2=⟨zAN p x.1,0,0,0⟩/\yX (zAN p x.1) l:=by
 obtain⟨h1,h2,h3⟩:=h;obtain⟨g1,g2⟩:=h2 x List.mem_cons_self;rw[List.map_cons,List.nodup_cons]at h3;refine⟨zNb h1 g1 g2,zMr h1 g1 g2,fun y hy=>?_,h3.2⟩;obtain⟨k1,k2⟩:=h2 y (List.mem_cons_of_mem _ hy);refine⟨k1,fun hh=>?_⟩;rcases zOF hh with e | e
 ·exact k2 e
 ·exact h3.1 (e▸List.mem_map_of_mem hy)
theorem yX.cut{l':List (Int×Int)}:∀{l:List (Int×Int)} {p:zI},yX p (l ++ l')->yX (zv p l) l'
 | [],_,h=>h
 | x :: l,p,h=>yX.cut (l:=l) (p:=zAN p x.1) (yX.head (p:=p) (x:=x) (l:=l ++ l') h).2
theorem zDq(x:Int×Int):∀(l:List (Int×Int)) (p:zI),zv p (l ++ [x])=zAN (zv p l) x.1
 | [],_=>rfl
 | y :: l,p=>zDq x l (zAN p y.1)
theorem zJM:∀(l:List (Int×Int)) (p:zI),(zv p l).n=p.n/\(zv p l).s=p.s/\(zv p l).hn=p.hn+l.length
 | [],_=>⟨rfl,rfl,rfl⟩
 | y :: l,p=>by
  obtain⟨h1,h2,h3⟩:=zJM l (zAN p y.1);refine⟨h1,h2,?_⟩;show(zv (zAN p y.1) l).hn=_;rw[h3,List.length_cons];show p.hn+1+l.length=_;omega
theorem yX.next{p:zI}{l:List (Int×Int)}(h:yX p l){i:Nat}(hi:i<l.length):zH1 (zv p (l.take i)) l[i].1 l[i].2=⟨zv p (l.take (i+1)),0,0,0⟩/\zx (zv p (l.take i)):=by
 have e:l=l.take i ++ l[i] :: l.drop (i+1):=by
  rw[List.getElem_cons_drop,List.take_append_drop]
 have h1:yX (zv p (l.take i)) (l[i] :: l.drop (i+1)):=yX.cut (l:=l.take i) (by rw[<-e];exact h);refine⟨?_,h1.1⟩;rw[h1.head.1,List.take_succ_eq_append_getElem hi,zDq]
theorem zGU(f g:Nat->Int)(t:Int):∀k,(qZ f g t k).Sublist ((List.range k).map fun i=>(f i,g i))
 | 0=>List.Sublist.refl _
 | k+1=>by
  rw[List.range_succ,List.map_append,List.map_singleton];unfold qZ;split
  ·exact(zGU f g t k).append (List.Sublist.refl _)
  ·exact(zGU f g t k).trans (List.sublist_append_left _ _)
theorem yX.sub{p:zI}{l l':List (Int×Int)}(h:yX p l)(hs:l'.Sublist l):yX p l':=⟨h.1,fun x hx=>h.2.1 x (hs.subset hx),List.Nodup.sublist (hs.map _) h.2.2⟩
theorem yX.tree{p:zI}{rs rb:Int}(hR:zx p)(hT:qH p rs rb):yX p (zR p rs rb):=by
 refine⟨hR,fun x hx=>?_,?_⟩
 ·have:=zAX hR hT hx;exact⟨this.1,this.2.2⟩
 ·rcases hT with h | h
  ·rw[zR,if_pos h];exact List.nodup_nil
  ·exact h.2.2
theorem zRA{l:List (Int×Int)}{i:Nat}(hi:i<l.length):(zf l i,zh l i)=l[i]:=by
 unfold zf zh;rw[List.getD_eq_getElem?_getD,List.getElem?_eq_getElem hi];rfl
theorem yX.ptrs{p:zI}{l:List (Int×Int)}(h:yX p l)(hl:l.length<=200):qm l.length (zf l) (zh l):=by
 refine⟨by omega,fun i hi=>?_,fun i hi k hk e=>?_⟩
 ·have hm:(zf l i,zh l i)∈l:=(by rw[zRA hi];exact List.getElem_mem hi);have h1:=(h.2.1 _ hm).1;have hf:=qS h.1 h1;have hb:=hf.1;have h2:=h.1.1;unfold zr at h1;unfold qi at hb;unfold zFD;dsimp only at h1 hb ⊢;have h3:=h1.2.2.2;omega
 ·have hn:=h.2.2;have hi':i<(l.map Prod.fst).length:=(by rw[List.length_map];exact hi);have aA:k<(l.map Prod.fst).length:=(by rw[List.length_map];omega);have e1:∀j (hj:j<(l.map Prod.fst).length),(l.map Prod.fst)[j]=zf l j:=fun j hj=>by
   rw[List.length_map]at hj;rw[List.getElem_map];unfold zf;rw[List.getD_eq_getElem?_getD,List.getElem?_eq_getElem hj];rfl
  have:=(List.getElem_inj (h₀:=aA) (h₁:=hi') hn).1 (by rw[e1,e1];exact e);omega
theorem zOR(l:List (Int×Int)):((List.range l.length).map fun i=>(zf l i,zh l i))=l:=by
 refine List.ext_getElem (by simp) (fun i h1 h2=>?_);rw[List.getElem_map,List.getElem_range];exact zRA h2
def zBH(n:Nat)(f g:Nat->Int):List (Int×Int):=(List.range n).map fun i=>(f i,g i)
theorem zAq(n:Nat)(f g:Nat->Int):(zBH n f g).length=n:=by
 unfold zBH;rw[List.length_map,List.length_range]
theorem zIB{n:Nat}(f g:Nat->Int){i:Nat}(hi:i<n):zf (zBH n f g) i=f i/\zh (zBH n f g) i=g i:=by
 unfold zf zh zBH;rw[List.getD_eq_getElem?_getD,List.getElem?_map,List.getElem?_range hi];exact⟨rfl,rfl⟩
theorem zK7(f g:Nat->Int)(t:Int):∀n,(zBi f g t n).length<=n
 | 0=>Nat.le_refl _
 | n+1=>by
  have:=zK7 f g t n;unfold zBi;split
  ·omega
  ·rw[List.length_append,List.length_singleton];omega
theorem zJz{w w':World}{row:Option Nat}(h:w.grownBy w' row):zF (fun k=>row=some k) w w':=⟨h.os,h.tape,h.output,h.size,fun k hk hn=>h.block k hk (fun e=>hn e.symm)⟩
theorem zK9{w:World}(ty:TypeId)(a ao:Option Addr)(c:Nat):(Builtin.append_ #[62,62] ty #[.slice a 0 0,.slice ao 0 c]).run Tryz.prog w = .ok (.slice a 0 0) w:=by
 obtain⟨i0,aA,bA⟩:=Option.map_eq_some_iff.1 zCv;have ht:Tryz.prog.underlying 62=some (.slice 61):=by kernel_rfl
 cases a<;>cases ao<;>simp[Builtin.append_,run_underlying ht,sizeOf,typeInfo,aA,Builtin.lenOf,Builtin.firstCells,storeCells,loadCells,loadCellsFrom]
theorem zHE{w:World}{kb n lo hi:Nat}{kv vo:Value}{f g:Nat->Int}{l:List (Int×Int)}(ho:zm w kb kv n f g)(hB:yh w 61 2 kv n)(hv:zU w lo hi vo l.length (zf l) (zh l))(hn:n+l.length<=4000000)(ty:TypeId) :
  ∃a c w' nb,(Builtin.append_ #[62,62] ty #[kv,vo]).run Tryz.prog w = .ok (.slice a (n+l.length) c) w'/\zm w' nb (.slice a (n+l.length) c) (zBH n f g ++ l).length (zf (zBH n f g ++ l)) (zh (zBH n f g ++ l))/\zF (fun j=>0<n/\j=kb) w w'/\(0<n+l.length->(0<n/\nb=kb)\/(w.heap.size<=nb/\nb<w'.heap.size)):=by
 obtain⟨i0,lA,mA⟩:=Option.map_eq_some_iff.1 zCv;simp only[Prod.mk.injEq]at mA;obtain⟨sA,pA,aB⟩:=mA;have ht:Tryz.prog.underlying 62=some (.slice 61):=by kernel_rfl
 have eA:(zBH n f g ++ l).length=n+l.length:=by rw[List.length_append,zAq]
 have jA:0<n->kv.ownBlock=some kb:=fun h0=>by
  obtain⟨_,a,c,hv,_,hx⟩:=ho;obtain⟨off,ha,_⟩:=hx h0;rw[hv,ha];rfl
 have cA:0<n->∀q,kv.ownBlock=some q->∀j u,(pcl (zBH n f g))[j]?=some u->w.cell? ⟨q,j,none⟩=some u:=fun h0 q hq j u hj=>by
  have cB:j<n*2:=by
   have:=(List.getElem?_eq_some_iff.1 hj).1
   rwa [zA5,zAq]at this
  obtain⟨_,a,c,kA,_,hx⟩:=ho;obtain⟨off,iA,aA⟩:=hx h0;rcases hB with⟨e,_⟩ | ⟨_,g',vA,eB,gA,_⟩
  ·omega
  ·rw[kA,iA]at gA;simp only[Value.slice.injEq,Option.some.injEq,Addr.mk.injEq,and_true,true_and]at gA;obtain⟨⟨rfl,rfl⟩,rfl⟩:=gA;rw[kA,iA]at hq;obtain rfl:kb=q:=(by injection hq);obtain⟨i,hd,dA⟩:∃i,i<n/\(j=i*2\/j=i*2+1):=⟨j / 2,by omega,by omega⟩;have h8:=aA i hd;obtain⟨e1,e2⟩:=zBT (zBH n f g) i (by rw[zAq];exact hd);have e3:=zIB f g hd;unfold zf zh at e3;rw[e3.1]at e1;rw[e3.2]at e2;rcases dA with rfl | rfl
   ·rw[e1]at hj;replace hj:=Option.some.inj hj;have h9:=h8.1.1;rw[Nat.zero_add]at h9;rw[h9,hj]
   ·rw[e2]at hj;replace hj:=Option.some.inj hj;have h9:=h8.2.1;rw[Nat.zero_add]at h9;rw[h9,hj]
 by_cases nA:l.length=0
 ·obtain rfl:l = []:=List.eq_nil_of_length_eq_zero nA;obtain⟨_,ao,co,rfl,_,_⟩:=hv;have bA:∀a c,kv = .slice a n c->zm w kb (.slice a n c) (zBH n f g ++ []).length (zf (zBH n f g ++ [])) (zh (zBH n f g ++ [])):=fun a c e=>by
   rw[List.append_nil,zAq];obtain⟨h1,a',c',h2,h3,hx⟩:=ho;rw[e]at h2;cases h2;refine⟨h1,a,c,rfl,h3,fun h0=>?_⟩;obtain⟨off,ha,aA⟩:=hx h0;exact⟨off,ha,fun i hi=>by rw[(zIB f g hi).1,(zIB f g hi).2];exact aA i hi⟩
  rcases Nat.eq_zero_or_pos n with h0 | h0
  ·rcases hB with⟨_,a,rfl⟩ | ⟨hp,_⟩
   ·subst h0;exact⟨a,0,w,kb,zK9 ty a ao co,bA a 0 rfl,zF.refl _ _,fun h=>by simp at h⟩
   ·omega
  ·obtain⟨a,c,hv⟩:∃a c,kv = .slice a n c:=(by obtain⟨_,a,c,h,_⟩:=ho;exact⟨a,c,h⟩);have fA:=hB.owns (base:=0) (xs:=pcl (zBH n f g)) h0 (by rw[zA5,zAq]) (fun _ _=>Nat.zero_le _) (cA h0);exact⟨a,c,w,kb,by rw[show(Value.slice a (n+([]:List (Int×Int)).length) c)=kv from hv.symm];exact zA6 0 62 ty 61 i0 2 co ao ht lA kv n _ fA,bA a c hv,zF.refl _ _,fun _=>Or.inl ⟨h0,rfl⟩⟩
 ·obtain⟨-,ao,co,rfl,-,hx⟩:=hv;obtain⟨b,off,rfl,-,-,aA⟩:=hx (by omega);obtain⟨q,bB,w',row,hr,bA,hg,tA,oA,dB⟩:=yh.append (P:=Tryz.prog) 62 ty 61 i0 _ 2 16 0 ht lA sA pA aB rfl (by decide) hB (xs:=pcl (zBH n f g)) (by rw[zA5,zAq]) (fun _ _ _=>Nat.zero_le _) cA
   ⟨b,off,none⟩ l.length co (pcl l) (zA5 l) (fun j u hj=>by
    have cB:j<l.length*2:=by
     have:=(List.getElem?_eq_some_iff.1 hj).1
     rwa [zA5]at this
    obtain⟨i,hd,dA⟩:∃i,i<l.length/\(j=i*2\/j=i*2+1):=⟨j / 2,by omega,by omega⟩;have h8:=aA i hd;obtain⟨e1,e2⟩:=zBT l i hd;rcases dA with rfl | rfl
    ·rw[e1]at hj;replace hj:=Option.some.inj hj;rw[<-hj,show(⟨b,off,none⟩:Addr).add (i*2)=⟨b,off+i*2,none⟩from by simp[Addr.add]];exact h8.1
    ·rw[e2]at hj;replace hj:=Option.some.inj hj;rw[<-hj,show(⟨b,off,none⟩:Addr).add (i*2+1)=⟨b,off+i*2+1,none⟩from by simp[Addr.add,Nat.add_assoc]];exact h8.2) (zFo l) (by omega) (by unfold maxLen;omega) (by omega) (Nat.zero_le _)
  have hR:zw w' 0 (.slice (some ⟨q,0,none⟩) (n+l.length) bB) (zBH n f g ++ l):=by
   unfold zw;rw[eA,zBD];exact bA
  obtain⟨nb,h1,h2⟩:=hR.own (by rw[eA];unfold maxLen;omega);have rA:q=nb:=by
   have:=(h2 (by rw[eA];exact Nat.add_pos_right n (Nat.pos_of_ne_zero nA))).1;simp only[Value.ownBlock]at this;injection this
  subst rA;refine⟨_,_,w',q,hr,h1,(zJz hg).mono ?_,fun _=>?_⟩
  ·intro j hj;rcases tA with h | ⟨h0,h⟩
   ·rw[h]at hj;cases hj
   ·rw[h,jA h0]at hj;injection hj with hj;exact⟨h0,hj.symm⟩
  ·rcases oA with⟨h0,h⟩ | h
   ·rw[jA h0]at h;injection h with h;exact Or.inl ⟨h0,h.symm⟩
   ·exact Or.inr ⟨by omega,dB⟩
theorem zHx{w w':World}{Q:Nat->Prop}{bs off n c:Nat}{kb:Nat->Nat}{kv:Nat->Value}{f:Nat->qD}(hS:yJ w bs kb kv (.slice (some ⟨bs,off,none⟩) n c) n f)(aA:zBO kb n f)(dA:∀j,zCN bs kb n f j->Q j){k:Nat}(hk:k<n){s':qD}{nb:Nat}{nv:Value}
  (ht:zF (fun j=>j=bs\/(0<(f k).dn/\j=kb k)) w w') (hx:∀j,j<n->j≠k->∀r,r<6->∀u,zW w bs (off+j*6+r) u->zW w' bs (off+j*6+r) u) (hs:zAH w' bs (off+k*6) nb nv s') (cA:0<s'.dn->((0<(f k).dn/\nb=kb k)\/∀j,zCN bs kb n f j->j≠nb)/\Q nb) :
  zBY w' Q (.slice (some ⟨bs,off,none⟩) n c) n (fun j=>if j=k then s' else f j):=by
 have eA:∀i,i<n->i≠k->0<(f i).dn->0<s'.dn->kb i≠nb:=fun i hi gA h1 h2 e=>by
  rcases(cA h2).1 with⟨h3,h4⟩ | h3
  ·exact aA i k hi hk gA h1 h3 (by rw[e,h4])
  ·exact h3 (kb i) (Or.inr ⟨i,hi,h1,rfl⟩) e
 refine⟨bs,(fun j=>if j=k then nb else kb j),(fun j=>if j=k then nv else kv j),?_,?_,?_⟩
 ·obtain⟨hm,a,kA,hv,hc,jA⟩:=hS;simp only[Value.slice.injEq,true_and]at hv;obtain⟨rfl,rfl⟩:=hv;refine⟨hm,_,_,rfl,hc,fun h0=>?_⟩;obtain⟨iA,e,bA⟩:=jA h0;simp only[Option.some.injEq,Addr.mk.injEq,true_and,and_true]at e;subst e;refine⟨off,rfl,fun j hj=>?_⟩;by_cases e:j=k
  ·subst e;simp only[if_true];exact hs
  ·simp only[if_neg e];have h:=bA j hj;exact⟨hx j hj e 0 (by omega) _ h.c0,hx j hj e 1 (by omega) _ h.c1,hx j hj e 2 (by omega) _ h.c2,hx j hj e 3 (by omega) _ h.c3,hx j hj e 4 (by omega) _ h.c4,hx j hj e 5 (by omega) _ h.c5,h.zRl.zRf ht (fun h0 hh=>by
    rcases hh with hh | ⟨h1,hh⟩
    ·exact h.zRk h0 hh
    ·exact aA j k hj hk e h0 h1 hh),h.zRn,h.zRk⟩
 ·intro i j hi hj fA h1 h2;show(if i=k then nb else kb i)≠(if j=k then nb else kb j);by_cases e1:i=k
  ·by_cases e2:j=k
   ·exact absurd (e1.trans e2.symm) fA
   ·simp only[if_pos e1]at h1;simp only[if_neg e2]at h2;rw[if_pos e1,if_neg e2];exact fun e=>eA j hj e2 h2 h1 e.symm
  ·simp only[if_neg e1]at h1;by_cases e2:j=k
   ·simp only[if_pos e2]at h2;rw[if_neg e1,if_pos e2];exact eA i hi e1 h1 h2
   ·simp only[if_neg e2]at h2;rw[if_neg e1,if_neg e2];exact aA i j hi hj fA h1 h2
 ·rintro j (⟨h0,rfl⟩ | ⟨i,hi,h0,rfl⟩)
  ·exact dA _ (Or.inl ⟨h0,rfl⟩)
  ·by_cases e:i=k
   ·simp only[if_pos e]at h0 ⊢;exact(cA h0).2
   ·simp only[if_neg e]at h0 ⊢;exact dA _ (Or.inr ⟨i,hi,h0,rfl⟩)
theorem yh.turnedL{S:Nat->Prop}{w w1 w':World}{e:TypeId}{s:Nat}{v:Value}{n:Nat}(h:yh w e s v n)(hb:Below w.heap.size w w1)(t:zF S w1 w')(cA:0<n->∃q,v.ownBlock=some q/\¬S q):yh w' e s v n:=by
 rcases h with h | ⟨h0,g,eA,dA,hv,hg,h1,h2,h3⟩
 ·exact Or.inl h
 ·obtain⟨q,hq,hS⟩:=cA h0;rw[hv]at hq;have bA:g=q:=(by simpa[Value.ownBlock]using hq);subst bA;have aA:=(Array.getElem?_eq_some_iff.1 hg).1;exact Or.inr ⟨h0,g,eA,dA,hv,((t.block g (Nat.lt_of_lt_of_le aA hb.size) hS).trans (hb.block g aA)).trans hg,h1,h2,h3⟩
theorem zIl(W:zH)(q:zI)(x:Int):zN {W with zRd:=q} x=zN W x:=rfl
def yG(p:zI)(i:Nat)(s:zL):zI:={n:=p.n,s:=fun j=>if j=i then s else p.s j,hn:=p.hn,h:=p.h}
theorem zOs{w wr:World}{lo hi R:Nat}{s0 s1:Value}{p:zI}(ho:zy wr lo hi s0 s1 p)(cA:R<lo)(aA:w.heap.size<=R)(bA:hi<=wr.heap.size)(hb:Below w.heap.size w wr) :
  zy ((wr.setCell ⟨R,0,none⟩ s0).setCell ⟨R,1,none⟩ s1) w.heap.size ((wr.setCell ⟨R,0,none⟩ s0).setCell ⟨R,1,none⟩ s1).heap.size s0 s1 p/\Below w.heap.size w ((wr.setCell ⟨R,0,none⟩ s0).setCell ⟨R,1,none⟩ s1):=by
 have t:=(zF.put wr R 0 s0).trans (zF.put _ R 1 s1);have hz:=t.size;exact⟨(ho.zRf t (fun k hk=>by omega)).zRc (by omega) (by omega),(hb.setCell aA _).setCell aA _⟩
end Go.Proofs.YtmgeglgboadfiaaGreatDoor
