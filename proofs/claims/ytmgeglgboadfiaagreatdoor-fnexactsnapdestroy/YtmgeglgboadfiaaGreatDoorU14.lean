/- A part of the proof. -/
import Derived.Test.YtmgeglgboadfiaaGreatDoorU11
set_option linter.unusedVariables false
set_option maxRecDepth 20000
set_option maxHeartbeats 4000000
namespace Go.Proofs.YtmgeglgboadfiaaGreatDoor
open Go.RowKit
theorem zDM{j i:Nat}(h:j≠i):(j == i)=false:=by simpa using h
def yO(d:Nat->Nat)(x:Nat->Value):List Nat->Act->Act
 | [],a=>a
 | i :: r,a=>yO d x r (a.put (some (d i)) (x i))
theorem zNf(a:Act)(k:Nat)(u v:Value):(a.put (some k) u).put (some k) v=a.put (some k) v:=by
 unfold Act.put;simp[Array.setIfInBounds_setIfInBounds]
theorem zMf(a:Act){k j:Nat}(u v:Value)(h:k≠j):(a.put (some k) u).put (some j) v=(a.put (some j) v).put (some k) u:=
 Act.put_comm a u v (fun d e e'=>h (by injection e with e;injection e' with e';omega))
theorem zII(d:Nat->Nat)(x:Nat->Value)(k:Nat)(v:Value):∀(M:List Nat) (a:Act),(∀i∈M,d i≠k)->(yO d x M a).put (some k) v=yO d x M (a.put (some k) v)
 | [],_,_=>rfl
 | i :: r,a,h=>by
  show(yO d x r (a.put (some (d i)) (x i))).put (some k) v=yO d x r ((a.put (some k) v).put (some (d i)) (x i));rw[zII d x k v r _ (fun j hj=>h j (List.mem_cons_of_mem _ hj)),zMf a _ _ (h i List.mem_cons_self)]
theorem zFt{d:Nat->Nat}{x y:Nat->Value}:∀{M:List Nat} {a:Act},(∀i∈M,x i=y i)->yO d x M a=yO d y M a
 | [],_,_=>rfl
 | i :: r,a,h=>by
  show yO d x r (a.put (some (d i)) (x i))=yO d y r (a.put (some (d i)) (y i));rw[h i List.mem_cons_self];exact zFt (fun j hj=>h j (List.mem_cons_of_mem _ hj))
def zHo(x:Nat->Value)(i:Nat)(v:Value)(j:Nat):Value:=if j=i then v else x j
theorem zIJ(d:Nat->Nat)(x:Nat->Value)(i:Nat)(v:Value):∀(M:List Nat) (a:Act),i∈M->M.Pairwise (fun p q=>d p≠d q)->(yO d x M a).put (some (d i)) v=yO d (zHo x i v) M a
 | [],_,h,_=>by cases h
 | j :: r,a,h,hp=>by
  obtain⟨h1,h2⟩:=List.pairwise_cons.1 hp;show(yO d x r (a.put (some (d j)) (x j))).put (some (d i)) v=yO d (zHo x i v) r (a.put (some (d j)) (zHo x i v j));by_cases e:j=i
  ·subst e;have aA:∀p∈r,d p≠d j:=fun p hp e=>h1 p hp e.symm
   rw[zII d x (d j) v r _ aA,zNf];have e1:zHo x j v j=v:=(by unfold zHo;rw[if_pos rfl]);rw[e1];refine zFt (fun p hp=>?_);unfold zHo;rw[if_neg (fun e=>aA p hp (by rw[e]))]
  ·have e1:zHo x i v j=x j:=(by unfold zHo;rw[if_neg e]);rw[e1];rcases List.mem_cons.1 h with h | h
   ·exact absurd h.symm e
   ·exact zIJ d x i v r _ h h2
def zAb(b:Nat->Bool):List Nat->Array Bool->Array Bool
 | [],l=>l
 | i :: r,l=>zAb b r (if b i then l.setIfInBounds i true else l)
def zBJ(b:Nat->Bool)(i:Nat)(j:Nat):Bool:=j == i || b j
theorem zFW(b:Nat->Bool)(k:Nat):∀(M:List Nat) (l:Array Bool),(zAb b M l).setIfInBounds k true=zAb b M (l.setIfInBounds k true)
 | [],_=>rfl
 | i :: r,l=>by
  show(zAb b r (if b i then l.setIfInBounds i true else l)).setIfInBounds k true=zAb b r (if b i then(l.setIfInBounds k true).setIfInBounds i true else l.setIfInBounds k true);rw[zFW b k r];by_cases h:b i
  ·rw[if_pos h,if_pos h];by_cases e:i=k
   ·subst e;rfl
   ·rw[Array.setIfInBounds_comm _ _ e]
  ·rw[if_neg h,if_neg h]
theorem zBU{b c:Nat->Bool}:∀{M:List Nat} {l:Array Bool},(∀i∈M,b i=c i)->zAb b M l=zAb c M l
 | [],_,_=>rfl
 | i :: r,l,h=>by
  show zAb b r (if b i then _ else _)=zAb c r (if c i then _ else _);rw[h i List.mem_cons_self];exact zBU (fun j hj=>h j (List.mem_cons_of_mem _ hj))
theorem zET(b:Nat->Bool)(k:Nat):∀(M:List Nat) (l:Array Bool),k∈M->(zAb b M l).setIfInBounds k true=zAb (zBJ b k) M l
 | [],_,h=>by cases h
 | i :: r,l,h=>by
  show(zAb b r (if b i then l.setIfInBounds i true else l)).setIfInBounds k true=zAb (zBJ b k) r (if zBJ b k i then l.setIfInBounds i true else l);by_cases e:i=k
  ·subst e;have e1:zBJ b i i=true:=(by unfold zBJ;simp);rw[if_pos e1,zFW];have e2:(if b i then l.setIfInBounds i true else l).setIfInBounds i true=l.setIfInBounds i true:=by
    by_cases h':b i
    ·rw[if_pos h',Array.setIfInBounds_setIfInBounds]
    ·rw[if_neg h']
   rw[e2];by_cases hr:i∈r
   ·rw[<-zET b i r _ hr,zFW,Array.setIfInBounds_setIfInBounds]
   ·refine zBU (fun j hj=>?_);unfold zBJ;have:(j == i)=false:=zDM fun e=>hr (e▸hj)
    rw[this,Bool.false_or]
  ·have e1:zBJ b k i=b i:=by
    unfold zBJ;have:(i == k)=false:=zDM e;rw[this,Bool.false_or]
   rw[e1];rcases List.mem_cons.1 h with h | h
   ·exact absurd h.symm e
   ·exact zET b k r _ h
def zLJ:List Nat->List (Nat->Bool)
 | []=>[fun _=>false]
 | i :: r=>(zLJ r).flatMap fun b=>[b,zBJ b i]
theorem zGq(c:Nat->Bool):∀M:List Nat,M.Nodup->∃b∈zLJ M,(∀i∈M,b i=c i)/\∀i,i∉M->b i=false
 | [],_=>⟨_,List.mem_singleton.2 rfl,fun i h=>(by cases h),fun _ _=>rfl⟩
 | i :: r,hn=>by
  obtain⟨h1,h2⟩:=List.nodup_cons.1 hn;obtain⟨b,hb,hc,ho⟩:=zGq c r h2;by_cases e:c i
  ·refine⟨zBJ b i,List.mem_flatMap.2 ⟨b,hb,by simp⟩,fun j hj=>?_,fun j hj=>?_⟩
   ·unfold zBJ;rcases List.mem_cons.1 hj with rfl | hj
    ·simp[e]
    ·have:(j == i)=false:=zDM fun e=>h1 (e▸hj)
     rw[this,Bool.false_or];exact hc j hj
   ·unfold zBJ;have h3:(j == i)=false:=zDM fun e=>hj (e▸List.mem_cons_self)
    rw[h3,Bool.false_or];exact ho j (fun h=>hj (List.mem_cons_of_mem _ h))
  ·refine⟨b,List.mem_flatMap.2 ⟨b,hb,by simp⟩,fun j hj=>?_,fun j hj=>?_⟩
   ·rcases List.mem_cons.1 hj with rfl | hj
    ·rw[ho j h1];simpa using e
    ·exact hc j hj
   ·exact ho j (fun h=>hj (List.mem_cons_of_mem _ h))
theorem zH0(b:Nat->Bool)(i:Nat):∀M:List Nat,M.Nodup->i∈M->b i=false->(M.countP fun j=>!b j)=(M.countP fun j=>!zBJ b i j)+1
 | [],_,h,_=>by cases h
 | j :: r,hn,h,hbi=>by
  obtain⟨g1,g2⟩:=List.nodup_cons.1 hn;rw[List.countP_cons,List.countP_cons];rcases List.mem_cons.1 h with e | aA
  ·subst e;have e1:(r.countP fun j=>!b j)=r.countP fun j=>!zBJ b i j:=by
    refine List.countP_congr fun p hp=>?_
    unfold zBJ;have:(p == i)=false:=zDM fun e=>g1 (e▸hp)
    rw[this,Bool.false_or]
   have e2:zBJ b i i=true:=(by unfold zBJ;simp);rw[e1,hbi,e2];simp
  ·have bA:(j == i)=false:=zDM fun e=>g1 (e▸aA)
   have e2:zBJ b i j=b j:=(by unfold zBJ;rw[bA,Bool.false_or]);have h3:=zH0 b i r g2 aA hbi;rw[e2];omega
def zI7(md:Region.Mode)(ops:Array Oper)(M:List Nat)(D:Nat->List Nat)(l0:Array Bool):Bool:=
 (zLJ M).all fun b=>!(M.all fun i=>!b i || (D i).all b) || (M.all b || (!(Region.ready md ops (zAb b M l0)).isEmpty && (Region.ready md ops (zAb b M l0)).all fun i=>M.contains i && !b i && (D i).all b))
section
variable {P : Program} {md : Region.Mode} {ops : Array Oper} {Q : Exit -> Act -> World -> Prop} {S G : World -> Prop}
theorem zMW{M:List Nat}{D:Nat->List Nat}{d:Nat->Nat}{F:Nat->Value->World->Prop}{l0:Array Bool}{a0:Act}{dA:Nat}
  (jA:zI7 md ops M D l0=true) (hn:M.Nodup) (hd:M.Pairwise (fun p q=>d p≠d q)) (gA:∀i∈M,∀j∈D i,j∈M)
  (hF:∀i v w w',F i v w->Below w.heap.size w w'->F i v w') (hG:∀w w',G w->Below w.heap.size w w'->G w')
  (fA:∀i∈M,∀x w,S w->G w->(∀j∈D i,F j (x j) w)->∀K:Act->World->Prop,Shut (∀a' v w',a'=(yO d x M a0).put (some (d i)) v->S w'->F i v w'->Below w.heap.size w w'->K a' w')->wpOp P ops Q i K (yO d x M a0) w)
  (kA:∀x w,S w->G w->(∀i∈M,F i (x i) w)->wpAnyH P md ops Q S dA (zAb (fun _=>true) M l0) (yO d x M a0) w) :
  ∀(n:Nat) (b:Nat->Bool),(M.countP fun i=>!b i)=n->(∀i∈M,b i=true->∀j∈D i,b j=true)->∀x w,S w->G w->(∀i∈M,b i=true->F i (x i) w)->wpAnyH P md ops Q S (dA+n) (zAb b M l0) (yO d x M a0) w:=by
 intro n
 induction n with
 | zero=>
  intro b hc hb x w hS hg hf;have eA:∀i∈M,b i=true:=fun i hi=>by
   have:=(List.countP_eq_zero.1 hc) i hi;simpa using this
  rw[zBU (c:=fun _=>true) eA];exact kA x w hS hg (fun i hi=>hf i hi (eA i hi))
 | succ n ih=>
  intro b hc hb x w hS hg hf;obtain⟨c,tA,bA,aB⟩:=zGq b M hn;have hk:=List.all_eq_true.1 jA c tA;have sA:(M.all fun i=>!c i || (D i).all c)=true:=List.all_eq_true.2 fun i hi=>by
   rw[bA i hi];by_cases e:b i=true
   ·have:(D i).all c=true:=List.all_eq_true.2 fun j hj=>by rw[bA j (gA i hi j hj)];exact hb i hi e j hj
    rw[this];simp
   ·have:b i=false:=(by simpa using e);rw[this];rfl
  have vA:(M.all c)=false:=by
   cases h:M.all c with
   | false=>rfl
   | true=>
    have h0:(M.countP fun i=>!b i)=0:=List.countP_eq_zero.2 fun i hi=>by rw[<-bA i hi,List.all_eq_true.1 h i hi];simp
    omega
  rw[sA,vA]at hk;simp only[Bool.not_true,Bool.false_or,Bool.and_eq_true]at hk;rw[zBU (c:=c) (fun i hi=>(bA i hi).symm)];refine⟨fun h0=>?_,fun i hi=>?_⟩
  ·rw[h0]at hk;simp at hk
  ·have hq:=List.all_eq_true.1 hk.2 i hi;simp only[Bool.and_eq_true,Bool.not_eq_true']at hq;have cA:i∈M:=(by simpa using hq.1.1);have rA:b i=false:=(by rw[<-bA i cA];exact hq.1.2);have mA:∀j∈D i,b j=true:=fun j hj=>by rw[<-bA j (gA i cA j hj)];exact List.all_eq_true.1 hq.2 j hj
   refine fA i cA x w hS hg (fun j hj=>hf j (gA i cA j hj) (mA j hj)) _ ?_;intro a' v w' ha nA pA oA;refine⟨nA,?_⟩;rw[ha,zIJ d x i v M a0 cA hd,zET c i M l0 cA];have iA:∀j∈M,zBJ c i j=zBJ b i j:=fun j hj=>by unfold zBJ;rw[bA j hj]
   rw[zBU (c:=zBJ b i) iA];refine ih (zBJ b i) ?_ ?_ (zHo x i v) w' nA (hG w w' hg oA) ?_
   ·have h1:(M.countP fun j=>!b j)=(M.countP fun j=>!zBJ b i j)+1:=zH0 b i M hn cA rA;omega
   ·intro p hp aA j hj;unfold zBJ at aA ⊢;by_cases e:p=i
    ·subst e;rw[mA j hj];simp
    ·have lA:(p == i)=false:=zDM e;rw[lA,Bool.false_or]at aA;rw[hb p hp aA j hj];simp
   ·intro p hp aA;unfold zHo;by_cases e:p=i
    ·subst e;rw[if_pos rfl];exact pA
    ·rw[if_neg e];unfold zBJ at aA;have lA:(p == i)=false:=zDM e;rw[lA,Bool.false_or]at aA;exact hF p _ w w' (hf p hp aA) oA
theorem zNV{M:List Nat}{D:Nat->List Nat}{d:Nat->Nat}{F:Nat->Value->World->Prop}{l0:Array Bool}{a0:Act}{bA:Nat}(x0:Nat->Value)
  (cA:zI7 md ops M D l0=true) (hn:M.Nodup) (hd:M.Pairwise (fun p q=>d p≠d q)) (eA:∀i∈M,∀j∈D i,j∈M)
  (hF:∀i v w w',F i v w->Below w.heap.size w w'->F i v w') (hG:∀w w',G w->Below w.heap.size w w'->G w')
  (aA:∀i∈M,∀x w,S w->G w->(∀j∈D i,F j (x j) w)->∀K:Act->World->Prop,Shut (∀a' v w',a'=(yO d x M a0).put (some (d i)) v->S w'->F i v w'->Below w.heap.size w w'->K a' w')->wpOp P ops Q i K (yO d x M a0) w)
  (dA:∀x w,S w->G w->(∀i∈M,F i (x i) w)->wpAnyH P md ops Q S bA (zAb (fun _=>true) M l0) (yO d x M a0) w)
  {a:Act} {w:World} {f:Nat} (ha:a=yO d x0 M a0) (hf:f=bA+M.length) (hS:S w) (hg:G w):wpAnyH P md ops Q S f l0 a w:=by
 subst ha hf;have e0:zAb (fun _=>false) M l0=l0:=by
  clear cA hn hd eA aA dA
  induction M with
  | nil=>rfl
  | cons i r ih=>exact ih
 have:=zMW (P:=P) (Q:=Q) cA hn hd eA hF hG aA dA M.length (fun _=>false) (by simp[List.countP_true]) (fun i hi h=>by cases h) x0 w hS hg (fun i hi h=>by cases h)
 rwa [e0]at this
theorem zNg(a:Act)(k:Nat):a.put (some k) (a.tmps.getD k undef)=a:=by
 unfold Act.put;have:a.tmps.setIfInBounds k (a.tmps.getD k undef)=a.tmps:=by
  refine Array.ext_getElem? fun j=>?_
  rw[Array.getElem?_setIfInBounds];by_cases e:k=j
  ·subst e;by_cases h:k<a.tmps.size
   ·simp[h,Array.getD]
   ·simp[h]
  ·simp[e]
 cases a;simp only[this]
theorem zGt(d:Nat->Nat)(a:Act):∀M:List Nat,yO d (fun i=>a.tmps.getD (d i) undef) M a=a
 | []=>rfl
 | i :: r=>by
  show yO d _ r (a.put (some (d i)) (a.tmps.getD (d i) undef))=a;rw[zNg];exact zGt d a r
theorem zMX(M:List Nat)(D:Nat->List Nat)(d:Nat->Nat)(F:Nat->Value->World->Prop)(aA:Nat){l0:Array Bool}{a:Act}{w:World}
  (cA:zI7 md ops M D l0=true) (hn:M.Nodup) (hd:M.Pairwise (fun p q=>d p≠d q)) (eA:∀i∈M,∀j∈D i,j∈M)
  (hF:∀i v w w',F i v w->Below w.heap.size w w'->F i v w') (hG:∀w w',G w->Below w.heap.size w w'->G w') (hS:S w) (hg:G w)
  (bA:∀i∈M,∀x w,S w->G w->(∀j∈D i,F j (x j) w)->∀K:Act->World->Prop,Shut (∀a' v w',a'=(yO d x M a).put (some (d i)) v->S w'->F i v w'->Below w.heap.size w w'->K a' w')->wpOp P ops Q i K (yO d x M a) w)
  (dA:∀x w,S w->G w->(∀i∈M,F i (x i) w)->wpAnyH P md ops Q S aA (zAb (fun _=>true) M l0) (yO d x M a) w):wpAnyH P md ops Q S (aA+M.length) l0 a w:=
 zNV (fun i=>a.tmps.getD (d i) undef) cA hn hd eA hF hG bA dA (zGt d a M).symm rfl hS hg
end
def zA5(w:World)(lb:Array Value)(caps:List Value):Prop:=lb.size=caps.length/\∀(k:Nat) (u:Value),caps[k]?=some u->∃B,lb[k]?=some (.pointer (some ⟨B,0,none⟩))/\w.cell? ⟨B,0,none⟩=some u
theorem zA5.zO9{w w':World}{lb:Array Value}{caps:List Value}(h:zA5 w lb caps)(t:Below w.heap.size w w'):zA5 w' lb caps:=
 ⟨h.1,fun k u hk=>by
  obtain⟨B,h1,h2⟩:=h.2 k u hk;exact⟨B,h1,(t.cell (zD h2)).trans h2⟩⟩
theorem zA5.one{w:World}{B:Nat}{u:Value}(h:w.cell? ⟨B,0,none⟩=some u):zA5 w #[.pointer (some ⟨B,0,none⟩)] [u]:=
 ⟨rfl,fun k x hk=>by
  match k,hk with
  | 0,hk=>simp at hk;subst hk;exact⟨B,rfl,h⟩
  | k+1,hk=>simp at hk⟩
theorem zA5.is1{w:World}{lb:Array Value}{u:Value}(h:zA5 w lb [u]):∃B,lb=#[.pointer (some ⟨B,0,none⟩)]/\w.cell? ⟨B,0,none⟩=some u:=by
 obtain⟨B,h1,h2⟩:=h.2 0 u rfl;refine⟨B,?_,h2⟩;have hs:=h.1;obtain⟨l⟩:=lb
 match l,hs,h1 with
 | [x],_,h1=>simp at h1;rw[h1]
def QAt(w:World)(p:Nat->Addr)(g i:Nat)(caps:List Value)(v:Value):Prop:=∃lb,v = .agg #[.func (.func g) #[] lb,qC (p i)]/\zA5 w lb caps
theorem QAt.zO9{w w':World}{p:Nat->Addr}{g i:Nat}{caps:List Value}{v:Value}(h:QAt w p g i caps v)(t:Below w.heap.size w w'):QAt w' p g i caps v:=by
 obtain⟨lb,hv,hc⟩:=h;exact⟨lb,hv,hc.zO9 t⟩
def zFK(w:World)(p:Nat->Addr)(m:Nat)(g ei:Nat->Nat)(caps:Nat->List Value)(v:Value):Prop:=∃lb:Nat->Array Value,zB9 w p v m g lb ei/\∀k,k<m->zA5 w (lb k) (caps k)
theorem zFK.zO9{w w':World}{p:Nat->Addr}{m:Nat}{g ei:Nat->Nat}{caps:Nat->List Value}{v:Value}(h:zFK w p m g ei caps v)(t:Below w.heap.size w w'):zFK w' p m g ei caps v:=by
 obtain⟨lb,h1,h2⟩:=h;exact⟨lb,h1.zO9 t,fun k hk=>(h2 k hk).zO9 t⟩
theorem zOZ{w:World}{p:Nat->Addr}{g ei:Nat->Nat}{caps:Nat->List Value}{aA bA:Array Value}{t:TypeId}(h0:zA5 w aA (caps 0))(h1:zA5 w bA (caps 1)):zFK (w.alloc (.cells #[.func (.func (g 0)) #[] aA,qC (p (ei 0)),.func (.func (g 1)) #[] bA,qC (p (ei 1))] t)) p 2 g ei caps (.slice (some ⟨w.heap.size,0,none⟩) 2 2):=by
 have cA:=zC w (.cells #[.func (.func (g 0)) #[] aA,qC (p (ei 0)),.func (.func (g 1)) #[] bA,qC (p (ei 1))] t);refine⟨(fun i=>match i with | 0=>aA | _=>bA),⟨by omega,_,_,rfl,fun _=>⟨_,_,rfl,fun i hi=>?_⟩⟩,fun i hi=>?_⟩
 ·rcases(by omega:i=0\/i=1)with rfl | rfl
  all_goals exact⟨World.cell?_alloc_at _ _ _ _ rfl,World.cell?_alloc_at _ _ _ _ rfl⟩
 ·rcases(by omega:i=0\/i=1)with rfl | rfl
  ·exact h0.zO9 cA
  ·exact h1.zO9 cA
open Go.Maps
theorem zMl{W:zE}{vd:Nat->Value}(x:Int):Maps.has (putD (fun i=>zEQ (W.zPD i).id) (fun i=>qX (vd i) (W.zPD i)) W.pn) (zEQ x)=true↔qD W x:=by
 rw[zCj (fun i=>zGg _)];constructor
 ·rintro⟨i,hi,e⟩;exact⟨i,hi,zEy e⟩
 ·rintro⟨i,hi,e⟩;exact⟨i,hi,by rw[e]⟩
theorem zMH(v0 v1 v2 v3:Value)(lo hi:Nat)(W:zE)(x:Int)(w:World)(h:zd w lo hi v0 v1 v2 v3 W)(hn:W.pn<=20)(jA:zD3 W.pn W.zPD)(hD:yy W)(hx:(Lit.int .i64 x).wf=true) :
  Calls Tryz.prog 122 #[zt v0 v1 v2 v3 W,.int .i64 x] w fun e w'=>zG (qD W x) e/\Below w.heap.size w w':=by
 have Hp:=zB h;have HD:=zB hD;have cA:=zB (zEz hx);clear h hD hx;have ha:=zC w (.cells #[v0,v1,.int .i64 W.time,.int .i64 W.next,v2,v3] 37);obtain⟨⟨x0,-⟩,⟨x2,-⟩,⟨x4,-⟩,⟨x6,-⟩,⟨x8,-⟩,⟨kA,-⟩⟩:=zg.new w v0 v1 (.int .i64 W.time) (.int .i64 W.next) v2 v3 37;go_enter Tryz.func122,Tryz.ntmps122;go_wp2_with fail;clear x0 x2 x4 x6 x8 kA;generalize w.alloc (.cells #[v0,v1,.int .i64 W.time,.int .i64 W.next,v2,v3] 37)=W0 at ha ⊢;refine(zED v0 v1 v2 v3 lo hi W W0 (Hp.out.zO9 ha) hn jA).mono ?_;rintro e w1 ⟨vd,rfl,hm,hd,fA⟩;obtain⟨a,c,eA,-⟩:=zHD HD.out hd x;have HM:=zB hm;have dA:=zB eA;have gA:=zA ha fA;have aA:=zB (@zMl W vd x);clear hm hd eA ha fA;unfold qX at dA;generalize zK W x=S at *;have bA:=zC w1 (.cells #[.int .i64 S.id,.string S.name,.string S.set,.int .i64 S.zPH,.int .i64 S.time,.int .i64 S.rs,.int .i64 S.rb,.slice a S.dn c] 99);have iA:=zA gA bA;clear bA;obtain⟨t,ht⟩:∃t,Maps.has (putD (fun i=>zEQ (W.zPD i).id) (fun i=>qX (vd i) (W.zPD i)) W.pn) (zEQ x)=t:=⟨_,rfl⟩;have Ht:=zB ht;have HB:=zB (show t=true↔qD W x by rw[<-ht];exact aA.out);clear ht aA;go_wp2_with (first
  | (at_lookup;refine zAR _ rfl _ _ 218 rfl 2 99 zNP zHC (zFi _) (W0.heap.size+1) W.pn _ rfl HM.out _ _ rfl cA.out _ dA.out t Ht.out ?_)
  | go_in)
 go_ret;exact⟨⟨t,rfl,HB.out⟩,iA⟩
theorem zHA(v0 v1 v2 v3:Value)(lo hi:Nat)(W:zE)(B:Nat)(id:Int)(w:World)(h:zd w lo hi v0 v1 v2 v3 W)(hn:W.pn<=20)(aA:zD3 W.pn W.zPD)(hD:yy W)(hx:(Lit.int .i64 id).wf=true)(hc:w.cell? ⟨B,0,none⟩=some (.int .i64 id)) :
  Calls Tryz.prog 121 #[zt v0 v1 v2 v3 W,.pointer (some ⟨B,0,none⟩)] w fun e w'=>zG (qD W id) e/\Below w.heap.size w w':=by
 have Hp:=zB h;have HD:=zB hD;have bA:=zB aA;have Hx:=zB hx;clear h hD aA hx;have ha:=zC w (.cells #[v0,v1,.int .i64 W.time,.int .i64 W.next,v2,v3] 37);have dA:=(ha.cell (zD hc)).trans hc;obtain⟨⟨x0,-⟩,⟨x1,-⟩,⟨x2,-⟩,⟨x3,-⟩,⟨x4,-⟩,⟨x5,-⟩⟩:=zg.new w (v0) (v1) (.int .i64 W.time) (.int .i64 W.next) (v2) (v3) 37;go_enter Tryz.func121,Tryz.ntmps121;go_wp2_with fail;clear x0 x1 x2 x3 x4 x5 hc dA;generalize w.alloc (.cells #[v0,v1,.int .i64 W.time,.int .i64 W.next,v2,v3] 37)=W0 at ha ⊢;refine(zMH v0 v1 v2 v3 lo hi W id W0 (Hp.out.zO9 ha) hn bA.out HD.out Hx.out).mono ?_;rintro e w1 ⟨⟨t,rfl,ht⟩,cA⟩;have Ht:=zB ht;clear ht;go_wp2;go_ret;exact⟨⟨t,rfl,Ht.out⟩,zA ha cA⟩
theorem zHr(p:Nat->Addr)(s0:Int)(w:World)(hE:zEd w p) :
  Calls Tryz.prog 55 #[.int .i64 s0] w fun e w'=>∃B0:Nat,e = .returned (.agg #[.func (.func 121) #[] #[.pointer (some ⟨B0,0,none⟩)],qC (p 2)])/\w'.cell? ⟨B0,0,none⟩=some (.int .i64 s0)/\Below w.heap.size w w':=by
 have bA:=zC w (.cells #[.int .i64 s0] 2);have fA:=zC (w.alloc (.cells #[.int .i64 s0] 2)) (.cells #[.nilFunc,.nilIface] 75);have hb:=zA (bA) fA;have c0:(w.alloc (.cells #[.int .i64 s0] 2)).cell? ⟨w.heap.size,0,none⟩=some (.int .i64 s0):=World.cell?_alloc_at _ _ _ _ rfl;have hg:((w.alloc (.cells #[.int .i64 s0] 2)).alloc (.cells #[.nilFunc,.nilIface] 75)).cell? ⟨0,0,none⟩=some (qC (p 2)):=(hE.zO9 hb).cell 2 (by omega);have cA:=zC (w.alloc (.cells #[.int .i64 s0] 2)) (.cells #[.func (.func 121) #[] #[.pointer (some ⟨w.heap.size,0,none⟩)],qC (p 2)] 75);have eA:=zA (bA) cA;have dA:=zB ((cA.cell (zD c0)).trans c0);clear c0;go_enter Tryz.func55,Tryz.ntmps55;have gA:=fun (ww:World) (a:Addr)=>run_store Tryz.prog ww a (.func (.func 121) #[] #[.pointer (some ⟨w.heap.size,0,none⟩)]) .plain rfl
 go_wp2_with fail;have aA:=zp.new (w.alloc (.cells #[.int .i64 s0] 2)) (.func (.func 121) #[] #[.pointer (some ⟨w.heap.size,0,none⟩)]) (qC (p 2)) 75;rw[World.size_alloc]at aA;refine bodyPost_ret (v:=.agg #[.func (.func 121) #[] #[.pointer (some ⟨w.heap.size,0,none⟩)],qC (p 2)]) (by simp[results,Tryz.results55,go_sem,aA.1.1,aA.2.1]) rfl ⟨_,rfl,dA.out,eA⟩
def yt(f:Nat->Int)(x:Int):Nat->Nat
 | 0=>0
 | k+1=>yt f x k+(if f k=x then 1 else 0)
theorem zCZ{f:Nat->Int}{x:Int}{k:Nat}(h:f k=x):yt f x (k+1)=yt f x k+1:=by simp[yt,h]
theorem zDo{f:Nat->Int}{x:Int}{k:Nat}(h:¬f k=x):yt f x (k+1)=yt f x k:=by simp[yt,h]
theorem zF9(f:Nat->Int)(x:Int):∀k,yt f x k<=k
 | 0=>Nat.le_refl _
 | k+1=>by
  have:=zF9 f x k;by_cases h:f k=x
  ·rw[zCZ h];omega
  ·rw[zDo h];omega
theorem zEK{f g:Nat->Int}{x:Int}:∀{k:Nat},(∀i,i<k->f i=g i)->yt f x k=yt g x k
 | 0,_=>rfl
 | k+1,h=>by
  show yt f x k+_=yt g x k+_;rw[zEK (fun i hi=>h i (by omega)),h k (by omega)]
theorem zJf(f:Nat->Int)(x:Int)(n:Nat):∀m,yt f x (n+m)=yt f x n+yt (fun i=>f (n+i)) x m
 | 0=>rfl
 | m+1=>by
  show yt f x (n+m)+(if f (n+m)=x then 1 else 0)=yt f x n+(yt (fun i=>f (n+i)) x m+(if f (n+m)=x then 1 else 0));rw[zJf f x n m];omega
def yw(W:zE)(x:Int):Nat:=yt (fun i=>(W.zPG i).zPH) x W.sn+yt (fun i=>(W.zPD i).zPH) x W.pn
theorem zMY(W:zE)(x:Int):yt (fun i=>(zJ W i).zPH) x (zm W)=yw W x:=by
 unfold zm yw;rw[zJf,zEK (g:=fun i=>(W.zPD i).zPH) (fun i hi=>by show(zJ W i).zPH=_;rw[qA hi];rfl),zEK (f:=fun i=>(zJ W (W.pn+i)).zPH) (g:=fun i=>(W.zPG i).zPH) (fun i hi=>by show(zJ W (W.pn+i)).zPH=_;rw[qz];rfl)];omega
theorem zI0(v0 v1 v2 v3:Value)(lo hi:Nat)(W:zE)(x:Int)(w:World)(h:zd w lo hi v0 v1 v2 v3 W)(hs:W.sn<=8)(hp:W.pn<=20) :
  Calls Tryz.prog 50 #[zt v0 v1 v2 v3 W,.int .i64 x] w fun e w'=>e = .returned (.int .i64 (yw W x))/\Below w.heap.size w w':=by
 have Hp:=zB h;obtain⟨m1,a,c,rfl,mc,-⟩:=id h.zPD;obtain⟨m2,a',c',rfl,jA,-⟩:=id h.zPG;clear h m1 m2;have ha:=zC w (.cells #[v0,v1,.int .i64 W.time,.int .i64 W.next,.slice a' W.sn c',.slice a W.pn c] 37);have HB:=zB (zg.new w v0 v1 (.int .i64 W.time) (.int .i64 W.next) (.slice a' W.sn c') (.slice a W.pn c) 37);go_enter Tryz.func50,Tryz.ntmps50;go_wp2
 go_loopw [5,6] (fun m i wr=>∃k:Nat,k<=W.sn/\i = .int .i64 k/\m = .int .i64 (yt (fun i=>(W.zPG i).zPH) x k)/\zg wr w.heap.size v0 v1 (.int .i64 W.time) (.int .i64 W.next) (.slice a' W.sn c') (.slice a W.pn c)/\Below w.heap.size w wr) (fun _ i _=>W.sn - (intOf i).toNat)
 case atStart=>exact⟨0,Nat.zero_le _,rfl,rfl,HB.out,ha⟩
 case round=>
  obtain⟨k,hk,rfl,rfl,hX,hb⟩:=hrel;have HX:=zB hX;have gA:=zF9 (fun i=>(W.zPG i).zPH) x k;have eA:(yt (fun i=>(W.zPG i).zPH) x k:Int)<=8:=(by omega);clear hX;obtain⟨⟨x0,x1⟩,⟨x2,x3⟩,⟨x4,x5⟩,⟨x6,x7⟩,⟨x8,x9⟩,⟨cA,dA⟩⟩:=HX.out;by_cases aA:k<W.sn
  ·have bA:(k:Int)<(W.sn:Int):=(by omega);obtain⟨b,off,vd,rfl,hs⟩:=(Hp.out.zPG.zO9 hb).cells aA;have q0:=hs.c2;clear hs;by_cases he:(W.zPG k).zPH=x
   ·have H:=zB he;rw[he]at q0;clear he;go_wp2;go_roundw
    case rel=>exact⟨k+1,by omega,by go_num,by rw[zCZ H.out];go_num,HX.out,hb⟩
    case measure=>simp[intOf];omega
   ·have H:=zB he;have e0:((W.zPG k).zPH == x)=false:=(by simp[he]);clear he;go_wp2;go_roundw
    case rel=>exact⟨k+1,by omega,by go_num,by rw[zDo H.out],HX.out,hb⟩
    case measure=>simp[intOf];omega
  ·obtain rfl:k=W.sn:=(by omega);go_wp2
   go_loopw [5,7] (fun m i wr=>∃k:Nat,k<=W.pn/\i = .int .i64 k/\m = .int .i64 ((yt (fun i=>(W.zPG i).zPH) x W.sn:Int)+(yt (fun i=>(W.zPD i).zPH) x k:Int))/\zg wr w.heap.size v0 v1 (.int .i64 W.time) (.int .i64 W.next) (.slice a' W.sn c') (.slice a W.pn c)/\Below w.heap.size w wr) (fun _ i _=>W.pn - (intOf i).toNat)
   case atStart=>exact⟨0,Nat.zero_le _,rfl,by simp[yt],HX.out,hb⟩
   case round=>
    clear x0 x1 x2 x3 x4 x5 x6 x7 x8 x9 cA dA HX hb;obtain⟨k,hk,rfl,rfl,hX,hb⟩:=hrel;have HX:=zB hX;have iA:=zF9 (fun i=>(W.zPD i).zPH) x k;have fA:(yt (fun i=>(W.zPD i).zPH) x k:Int)<=20:=(by omega);clear hX;obtain⟨⟨x0,x1⟩,⟨x2,x3⟩,⟨x4,x5⟩,⟨x6,x7⟩,⟨x8,x9⟩,⟨cA,dA⟩⟩:=HX.out;by_cases aA:k<W.pn
    ·have bA:(k:Int)<(W.pn:Int):=(by omega);obtain⟨b,off,vd,rfl,hs⟩:=(Hp.out.zPD.zO9 hb).cells aA;have q0:=hs.c3;clear hs;by_cases he:(W.zPD k).zPH=x
     ·have H:=zB he;rw[he]at q0;clear he;go_wp2;go_roundw
      case rel=>exact⟨k+1,by omega,by go_num,by rw[zCZ H.out];go_num,HX.out,hb⟩
      case measure=>simp[intOf];omega
     ·have H:=zB he;have e0:((W.zPD k).zPH == x)=false:=(by simp[he]);clear he;go_wp2;go_roundw
      case rel=>exact⟨k+1,by omega,by go_num,by rw[zDo H.out],HX.out,hb⟩
      case measure=>simp[intOf];omega
    ·obtain rfl:k=W.pn:=(by omega);go_wp2;go_ret;exact⟨by unfold yw;rw[Int.natCast_add];rfl,hb⟩
def zFP(w:World)(base:Nat)(v:Value)(n:Nat):Prop:=∃xs,w.ownsRow base 224 5 v n xs
theorem zFP.zO9{w w1:World}{base:Nat}{v:Value}{n:Nat}(h:zFP w base v n)(hb:Below w.heap.size w w1):zFP w1 base v n:=by
 obtain⟨xs,h⟩:=h;exact⟨xs,h.kept (yW hb none) (by cases v.ownBlock<;>simp)⟩
theorem zFP.lt{w:World}{base:Nat}{v:Value}{n:Nat}(h:zFP w base v n){q:Nat}(hq:v.ownBlock=some q):base<=q/\q<w.heap.size:=by
 obtain⟨xs,h⟩:=h;rcases h.2 with⟨rfl,_⟩ | ⟨g,cap,aA,rfl,hb,hg,_⟩
 ·simp[Value.ownBlock]at hq
 ·simp only[Value.ownBlock,Option.some.injEq]at hq;subst hq;exact⟨hb,(Array.getElem?_eq_some_iff.1 hg).1⟩
theorem zFP.zPF{w w1:World}{base:Nat}{v:Value}{n:Nat}{row:Option Nat}(h:zFP w base v n)(hg:w.grownBy w1 row)(aA:∀q,v.ownBlock=some q->row≠some q):zFP w1 base v n:=by
 obtain⟨xs,h⟩:=h;refine⟨xs,h.kept hg ?_⟩;cases hv:v.ownBlock with
 | none=>simp
 | some q=>exact Or.inr (fun e=>aA q hv e.symm)
def zO5(w w':World)(v v':Value)(n n':Nat):Prop:=zFP w' w.heap.size v n/\zFP w' w.heap.size v' n'/\(∀q,v.ownBlock=some q->v'.ownBlock≠some q)/\Below w.heap.size w w'
theorem zIU{w1 w2:World}{base g cap n n':Nat}{v v':Value}{xs:List Value}(h':zFP w1 base v' n')(ha:∀q,v.ownBlock=some q->v'.ownBlock≠some q)
  (aA:w2.ownsRow base 224 5 (.slice (some ⟨g,0,none⟩) (n+1) cap) (n+1) xs) (hg:w1.grownBy w2 v.ownBlock) (bA:v.ownBlock=some g\/g=w1.heap.size) :
  zFP w2 base (.slice (some ⟨g,0,none⟩) (n+1) cap) (n+1)/\zFP w2 base v' n'/\(∀q,(Value.slice (some ⟨g,0,none⟩) (n+1) cap).ownBlock=some q->v'.ownBlock≠some q):=by
 refine⟨⟨xs,aA⟩,h'.zPF hg (fun q hq e=>ha q e hq),fun q hq e=>?_⟩;simp only[Value.ownBlock,Option.some.injEq]at hq;subst hq;rcases bA with h | h
 ·exact ha _ h e
 ·have:=(h'.lt e).2;omega
theorem zLF(a:Option Addr)(c:Nat)(m:zDH)(x:Int)(T:Nat)(w:World)(hT:w.cell? ⟨T,0,none⟩=some (.int .i64 x)) :
  Calls Tryz.prog 182 #[.agg #[.int .i64 m.zPH,.int .i64 m.time,.int .i64 m.rs,.int .i64 m.rb,.slice a m.dn c],.pointer (some ⟨T,0,none⟩)] w fun e w'=>zG (m.zPH=x) e/\Below w.heap.size w w':=by
 have bA:=zC w (.cells #[.int .i64 m.zPH,.int .i64 m.time,.int .i64 m.rs,.int .i64 m.rb,.slice a m.dn c] 224);have cA:=(bA.cell (p:=⟨T,0,none⟩) (zD hT)).trans hT;obtain⟨⟨y0,-⟩,-⟩:=zCU.new w (.int .i64 m.zPH) (.int .i64 m.time) (.int .i64 m.rs) (.int .i64 m.rb) (.slice a m.dn c) 224;clear hT;have aA:=zB (show(m.zPH == x)=true↔m.zPH=x by simp);go_enter Tryz.func182,Tryz.ntmps182;go_wp2;go_ret;exact⟨⟨_,rfl,aA.out⟩,bA⟩
theorem zJG(v:Value)(lo hi:Nat)(W:zE)(vd:Nat->Value)(x:Int)(T:Nat)(w:World)(h:zDI w lo hi v W vd)(hs:W.sn<=8)(hp:W.pn<=20)(hT:w.cell? ⟨T,0,none⟩=some (.int .i64 x)) :
  Calls Tryz.prog 180 #[v,.func (.func 182) #[] #[.pointer (some ⟨T,0,none⟩)]] w fun e w'=>∃a c vo,e = .returned (.tuple #[.slice a (yt (fun i=>(zJ W i).zPH) x (zm W)) c,vo])/\Below w.heap.size w w':=by
 have Hp:=zB h;have HT:=zB hT;have hM:zm W<=28:=by unfold zm;omega
 obtain⟨a,c,rfl,mc⟩:=h.zPO;clear h hT;obtain⟨i0,bB,pA⟩:=Option.map_eq_some_iff.1 zLo;simp only[Prod.mk.injEq]at pA;have HI:=zB (And.intro bB pA);clear bB pA;have jB:∀(fn:Fn) (first cap:Array Value) (w:World),(Instr.makeFunc fn first cap).run Tryz.prog w = .ok (.func fn first cap) w:=fun _ _ _ _=>rfl
 go_enter Tryz.func180,Tryz.ntmps180;go_wp2
 go_loopw [6,7,12] (fun vy vo i wr=>∃k:Nat,k<=zm W/\i = .int .i64 k/\zO5 w wr vy vo (yt (fun i=>(zJ W i).zPH) x k) (k - yt (fun i=>(zJ W i).zPH) x k)) (fun _ _ i _=>zm W - (intOf i).toNat)
 case atStart=>exact⟨0,Nat.zero_le _,rfl,⟨[],World.ownsRow_nil _ _ _ _⟩,⟨[],World.ownsRow_nil _ _ _ _⟩,fun q hq=>by simp[Value.ownBlock]at hq,Below.refl _ _⟩
 case round=>
  obtain⟨k,hk,rfl,hy,ho,aB,hb⟩:=hrel;have Hy:=zB hy;have Ho:=zB ho;have sA:=zB aB;have gB:=zF9 (fun i=>(zJ W i).zPH) x k;clear hy ho aB;by_cases cB:k<zm W
  ·have iB:(k:Int)<(zm W:Int):=(by omega);obtain⟨g,c',hv,q0,q1,q2,q3,q4⟩:=(Hp.out.zO9 hb).cells k cB;simp only[Value.slice.injEq,true_and]at hv;obtain⟨rfl,rfl⟩:=hv;obtain⟨-,ad,cd,tA,-,-⟩:=Hp.out.zPK k cB;rw[tA]at q4;clear tA;have iA:=zC wr (.cells #[.int .i64 (zJ W k).zPH,.int .i64 (zJ W k).time,.int .i64 (zJ W k).rs,.int .i64 (zJ W k).rb,.slice ad (zJ W k).dn cd] 224);have HV:=zB (zCU.new wr (.int .i64 (zJ W k).zPH) (.int .i64 (zJ W k).time) (.int .i64 (zJ W k).rs) (.int .i64 (zJ W k).rb) (.slice ad (zJ W k).dn cd) 224);have nA:=zA hb iA;have rA:=zB ((nA.cell (p:=⟨T,0,none⟩) (zD HT.out)).trans HT.out);obtain⟨⟨y0,-⟩,⟨y1,-⟩,⟨y2,-⟩,⟨y3,-⟩,⟨y4,-⟩⟩:=HV.out;go_wp2_with fail;clear q0 q1 q2 q3 q4 y0 y1 y2 y3 y4;refine(zLF ad cd (zJ W k) x T _ rA.out).mono ?_;rintro e w1 ⟨⟨s,rfl,hs⟩,eA⟩;have fB:=zB ((Hy.out.zO9 iA).zO9 eA);have eB:=zB ((Ho.out.zO9 iA).zO9 eA);have dB:=zB (HV.out.zO9 eA);have vA:=zA nA eA;clear eA nA iA Hy Ho HV rA;have kB:=vA.size;obtain⟨⟨y0,-⟩,⟨y1,-⟩,⟨y2,-⟩,⟨y3,-⟩,⟨y4,-⟩⟩:=dB.out;have fA:=zC w1 (.cells #[.int .i64 (zJ W k).zPH,.int .i64 (zJ W k).time,.int .i64 (zJ W k).rs,.int .i64 (zJ W k).rb,.slice ad (zJ W k).dn cd] 224);have lA:=zB (fB.out.zO9 fA);have jA:=zB (eB.out.zO9 fA);have gA:=zA vA fA;have lB:=fA.size;have HN:=zB (World.news_of_block (heap_alloc_last w1 (.cells #[.int .i64 (zJ W k).zPH,.int .i64 (zJ W k).time,.int .i64 (zJ W k).rs,.int .i64 (zJ W k).rb,.slice ad (zJ W k).dn cd] 224)));clear fA;by_cases hq:(zJ W k).zPH=x
   ·obtain rfl:s=true:=hs.2 hq;have ey:=zB (zCZ (f:=fun i=>(zJ W i).zPH) hq);clear hs hq;obtain⟨xs,cA⟩:=lA.out;have kA:=zB cA;clear cA;go_wp2_with (first
     | (at_builtin;refine wpList_append_lies _ rfl _ _ 220 rfl w.heap.size 224 i0 (.agg #[.int .i64 0,.int .i64 0,.int .i64 0,.int .i64 0,.slice none 0 0]) 5 56 (by kernel_rfl) HI.out.1 HI.out.2.1 HI.out.2.2.1 HI.out.2.2.2 rfl (by decide) _ _ _ rfl kA.out ⟨w1.heap.size,0,none⟩ 1 1 [.int .i64 (zJ W k).zPH,.int .i64 (zJ W k).time,.int .i64 (zJ W k).rs,.int .i64 (zJ W k).rb,.slice ad (zJ W k).dn cd] rfl rfl HN.out (by simp[Value.oneCell']) (by decide) (by unfold maxLen;omega) (by omega) (by omega) _ rfl ?_;intro g' mA w4 bA aA dA oA)
     | go_in)
    go_roundw
    case rel=>
     obtain⟨r1,r2,r3⟩:=zIU jA.out sA.out bA aA dA;refine⟨k+1,by omega,by go_num,by rw[ey.out];exact r1,?_,r3,gA.grown aA gA.size (fun q hq=>(lA.out.lt hq).1)⟩;rw[ey.out,show k+1 - (yt (fun i=>(zJ W i).zPH) x k+1)=k - yt (fun i=>(zJ W i).zPH) x k by omega];exact r2
    case measure=>simp[intOf];omega
   ·obtain rfl:s=false:=zW hs hq;have ey:=zB (zDo (f:=fun i=>(zJ W i).zPH) hq);clear hs hq;obtain⟨xs,cA⟩:=jA.out;have kA:=zB cA;clear cA;go_wp2_with (first
     | (at_builtin;refine wpList_append_lies _ rfl _ _ 220 rfl w.heap.size 224 i0 (.agg #[.int .i64 0,.int .i64 0,.int .i64 0,.int .i64 0,.slice none 0 0]) 5 56 (by kernel_rfl) HI.out.1 HI.out.2.1 HI.out.2.2.1 HI.out.2.2.2 rfl (by decide) _ _ _ rfl kA.out ⟨w1.heap.size,0,none⟩ 1 1 [.int .i64 (zJ W k).zPH,.int .i64 (zJ W k).time,.int .i64 (zJ W k).rs,.int .i64 (zJ W k).rb,.slice ad (zJ W k).dn cd] rfl rfl HN.out (by simp[Value.oneCell']) (by decide) (by unfold maxLen;omega) (by omega) (by omega) _ rfl ?_;intro g' mA w4 bA aA dA oA)
     | go_in)
    go_roundw
    case rel=>
     obtain⟨r1,r2,r3⟩:=zIU lA.out (fun q h h'=>sA.out q h' h) bA aA dA;refine⟨k+1,by omega,by go_num,by rw[ey.out];exact r2,?_,fun q h h'=>r3 q h' h,gA.grown aA gA.size (fun q hq=>(jA.out.lt hq).1)⟩;rw[ey.out,show k+1 - yt (fun i=>(zJ W i).zPH) x k=k - yt (fun i=>(zJ W i).zPH) x k+1 by omega];exact r1
    case measure=>simp[intOf];omega
  ·obtain rfl:k=zm W:=(by omega);obtain⟨xs,cA⟩:=Hy.out;obtain⟨ay,cy,rfl,-⟩:=za cA;clear cA;go_wp2
   go_ret2
   exact⟨ay,cy,_,rfl,hb⟩
end Go.Proofs.YtmgeglgboadfiaaGreatDoor
