/- A part of the proof. -/
import Derived.Test.YtibhefllijahkaaGreatDoorF20
import Derived.Stop.IfaceNil
set_option linter.unusedVariables false
set_option maxRecDepth 20000
set_option maxHeartbeats 4000000
namespace Go.Proofs.YtibhefllijahkaaGreatDoor
open Go.RowKit Go.Maps
theorem IC{V:A5}(h:Cm V):∀{k i:Nat},i<k->k<V.sn->BF (V.A3 i).name (V.A3 k).name
 | k+1,i,hi,hk=>by
  have g:=(h.2.2.2.2.1 (k+1) hk).2.1 (by omega);rw[Nat.add_sub_cancel]at g;by_cases e:i=k
  ·rw[e];exact g
  ·exact K8 (IC h (by omega) (by omega)) g
theorem NS{V:A5}(h:Cm V):∀{k i:Nat},i<k->k<V.pn->(V.A1 i).id<(V.A1 k).id
 | k+1,i,hi,hk=>by
  have g:=((h.2.2.2.2.2 (k+1) hk).2.1.1 (by omega)).1;rw[Nat.add_sub_cancel]at g;by_cases e:i=k
  ·rw[e];exact g
  ·exact Int.lt_trans (NS h (by omega) (by omega)) g
def KT(p q:A8)(rs rb:Int):Prop:=q.n=p.n/\∀z,z∈AF p rs rb->q.s z.1.toNat=p.s z.1.toNat/\¬Has q.hn q.h z.1
section
variable {p q : A8} {rs rb : Int}
theorem zFz(h:¬Nil rs rb):(rs,rb)∈AF p rs rb:=by
 unfold AF;rw[if_neg h];exact List.mem_cons_self ..
variable{i:Nat}
theorem U1(h:¬Nil rs rb){x:Int×Int}(hi:i<8)(a:x∈DV p (AK (p.s rs.toNat) i) (AW (p.s rs.toNat) i)):x∈AF p rs rb:=by
 unfold AF;rw[if_neg h];exact List.mem_cons_of_mem _ (L4.2 ⟨i,hi,a⟩)
theorem zHg(h:¬Nil rs rb)(hi:i<8)(a:¬Nil (AK (p.s rs.toNat) i) (AW (p.s rs.toNat) i)):(AK (p.s rs.toNat) i,AW (p.s rs.toNat) i)∈AF p rs rb:=U1 h hi (Kr.2 ⟨a,.inl rfl⟩)
theorem zHh(h:¬Nil rs rb){j:Nat}(hi:i<8)(a:j<8)(b:¬Nil (AK (p.s rs.toNat) i) (AW (p.s rs.toNat) i))(c:¬Nil (AK (p.s (AK (p.s rs.toNat) i).toNat) j) (AW (p.s (AK (p.s rs.toNat) i).toNat) j)):(AK (p.s (AK (p.s rs.toNat) i).toNat) j,AW (p.s (AK (p.s rs.toNat) i).toNat) j)∈AF p rs rb:=U1 h hi (Kr.2 ⟨b,.inr (Md.2 ⟨j,a,rfl,c⟩)⟩)
theorem KT.page(h:KT p q rs rb){k:Nat}(n:k<64):lwD q rs rb k=lwD p rs rb k:=by
 by_cases a:Nil rs rb
 ·rw[QH a,QH a]
 have e:=(h.2 _ (zFz a)).1;have d:Ca q rs rb k=Ca p rs rb k/\D9 q rs rb k=D9 p rs rb k:=by
  unfold Ca D9 Ds Dr;rw[if_neg a,if_neg a,if_neg a,if_neg a,e];exact⟨rfl,rfl⟩
 by_cases hn:Nil (Ca p rs rb k) (D9 p rs rb k)
 ·rw[QG hn,QG (by rw[d.1,d.2];exact hn)]
 have c1:Ca p rs rb k=AK (p.s rs.toNat) (k / 8):=if_neg a;have j:D9 p rs rb k=AW (p.s rs.toNat) (k / 8):=if_neg a;have c:¬Nil (AK (p.s rs.toNat) (k / 8)) (AW (p.s rs.toNat) (k / 8)):=by rw[<-c1,<-j];exact hn
 have m:q.s (Ca p rs rb k).toNat=p.s (Ca p rs rb k).toNat:=by rw[c1];exact(h.2 _ (zHg a (by omega) c)).1
 have g:CT q rs rb k=CT p rs rb k/\Cb q rs rb k=Cb p rs rb k:=by
  unfold CT Cb;rw[d.1,d.2];unfold Ds Dr;rw[if_neg hn,if_neg hn,if_neg hn,if_neg hn,m];exact⟨rfl,rfl⟩
 unfold lwD;rw[g.1,g.2];by_cases b:Nil (CT p rs rb k) (Cb p rs rb k)
 ·rw[if_pos b,if_pos b]
 ·rw[if_neg b,if_neg b];have i:CT p rs rb k=AK (p.s (AK (p.s rs.toNat) (k / 8)).toNat) (k % 8):=(by rw[<-c1];exact if_neg hn);have l:Cb p rs rb k=AW (p.s (AK (p.s rs.toNat) (k / 8)).toNat) (k % 8):=(by rw[<-c1];exact if_neg hn);rw[i,l]at b;rw[i,(h.2 _ (zHh a (by omega) (by omega) c b)).1]
end
structure JS (W:A5):Prop where
 right:Ag W.pool
 AX:Cm W
 lines:∀i,i<W.sn->Fd W (W.A3 i).name (W.A3 i).A6 (W.A3 i).origin
 A1:∀i,i<W.pn->As W.pool (W.A1 i).rs (W.A1 i).rb
 A3:∀i,i<W.sn->As W.pool (W.A3 i).rs (W.A3 i).rb/\EP W (W.pn+i)
 dead:∀i,i<W.pn->EP W i
 born:∀i,i<memN W->Fb W i
 Bi:Im W
variable{W:A5}
theorem Ak.toU(h:Ak W):JS W:=⟨h.right,h.AX,h.lines,h.A1,h.A3,h.dead,h.born,h.Bi⟩
variable{i:Nat}
theorem JS.mem(h:JS W)(hi:i<memN W):As W.pool (AB W i).rs (AB W i).rb:=(Nu h.right h.AX h.A1 fun j a=>(h.A3 j a).1).tree i hi
theorem qM(h:Ak W)(hi:i<memN W):As W.pool (AB W i).rs (AB W i).rb:=h.toU.mem hi
variable{V:A5}{nm:ByteArray}
theorem Steps.same(a:V.pn=W.pn)(hs:V.A1=W.A1){st:Int}{n:Nat}{x:Int}(g:Steps W nm st n x):Steps V nm st n x:=by
 induction g with
 | zero=>exact .zero
 | next _ hk hn ih=>
  have:=Steps.next ih (show B5 V _ _ by unfold B5 at hk ⊢;rw[a,hs];exact hk) (by rw[hs];exact hn)
  rwa [hs]at this
theorem Fd.same(b:V.pn=W.pn)(hs:V.A1=W.A1){st o:Int}(h:Fd W nm st o):Fd V nm st o:=by
 obtain⟨n,e,c,d,g,i⟩:=h;have a:∀k,ownN V nm k=ownN W nm k:=fun k=>by
  induction k with
  | zero=>rfl
  | succ k ih=>unfold ownN;rw[ih,hs]
 exact⟨n,e,c.same b hs,fun ⟨k,hk,hn⟩=>d ⟨k,by unfold B5 at hk ⊢;rw[<-b,<-hs];exact hk,by rw[<-hs];exact hn⟩,by rw[a,b];exact g,i⟩
section
variable {W V : A5}
end
section
variable {W : A5}
variable{x:Int×Int}
theorem qN{m:Cs}(h:x∈oldM W m):∃j,B5 W m.A6 j/\x∈treeM W (AB W j):=by
 by_cases a:∃j,B5 W m.A6 j
 ·obtain⟨j,b⟩:=a;unfold oldM at h;rw[CM b]at h;exact⟨j,b,by rw[CU b.1];exact h⟩
 ·have:AC W m.A6=Ap:=(by unfold AC;rw[dif_neg a]);unfold oldM at h;rw[this,AF,if_pos ⟨rfl,rfl⟩]at h;cases h
theorem Pr{m:Cs}:x∈D5 W m↔x∈treeM W m/\x∉oldM W m:=by
 unfold D5 BU;rw[List.mem_filter,decide_eq_true_iff]
theorem JS.apart'(b:JS W){j:Nat}(hi:i<memN W)(g:j<memN W)(a:i≠j){y:Int×Int}(c:x∈D5 W (AB W i))(d:y∈D5 W (AB W j)):x.1≠y.1:=by
 rcases Nat.lt_or_gt_of_ne a with h | h
 ·exact fun e=>b.Bi j g i h y d x c e.symm
 ·exact b.Bi i hi j h x c y d
end
variable{j:Nat}
theorem Iq(h:j≠i):(j == i)=false:=by simpa using h
def BJ(d:Nat->Nat)(x:Nat->Value):List Nat->Act->Act
 | [],a=>a
 | i :: r,a=>BJ d x r (a.put (some (d i)) (x i))
theorem zGT(a:Act)(k:Nat)(u v:Value):(a.put (some k) u).put (some k) v=a.put (some k) v:=by
 unfold Act.put;simp[Array.setIfInBounds_setIfInBounds]
theorem zDZ(a:Act){k:Nat}(u v:Value)(h:k≠j):(a.put (some k) u).put (some j) v=(a.put (some j) v).put (some k) u:=
 Act.put_comm a u v (fun d e b=>h (by injection e with e;injection b with b;omega))
theorem XM(d:Nat->Nat)(x:Nat->Value)(k:Nat)(v:Value):∀(M:List Nat) (a:Act),(∀i∈M,d i≠k)->(BJ d x M a).put (some k) v=BJ d x M (a.put (some k) v)
 | [],_,_=>rfl
 | i :: r,a,h=>by
  show(BJ d x r (a.put (some (d i)) (x i))).put (some k) v=BJ d x r ((a.put (some k) v).put (some (d i)) (x i));rw[XM d x k v r _ (fun j b=>h j (List.mem_cons_of_mem _ b)),zDZ a _ _ (h i List.mem_cons_self)]
theorem Ym{d:Nat->Nat}{x y:Nat->Value}:∀{M:List Nat} {a:Act},(∀i∈M,x i=y i)->BJ d x M a=BJ d y M a
 | [],_,_=>rfl
 | i :: r,a,h=>by
  show BJ d x r (a.put (some (d i)) (x i))=BJ d y r (a.put (some (d i)) (y i));rw[h i List.mem_cons_self];exact Ym (fun j b=>h j (List.mem_cons_of_mem _ b))
def GK(x:Nat->Value)(i:Nat)(v:Value)(j:Nat):Value:=if j=i then v else x j
theorem XN(d:Nat->Nat)(x:Nat->Value)(i:Nat)(v:Value):∀(M:List Nat) (a:Act),i∈M->M.Pairwise (fun p q=>d p≠d q)->(BJ d x M a).put (some (d i)) v=BJ d (GK x i v) M a
 | [],_,h,_=>by cases h
 | j :: r,a,h,c=>by
  obtain⟨k,l⟩:=List.pairwise_cons.1 c;show(BJ d x r (a.put (some (d j)) (x j))).put (some (d i)) v=BJ d (GK x i v) r (a.put (some (d j)) (GK x i v j));by_cases e:j=i
  ·subst e;have b:∀p∈r,d p≠d j:=fun p c e=>k p c e.symm
   rw[XM d x (d j) v r _ b,zGT];have g:GK x j v j=v:=(by unfold GK;rw[if_pos rfl]);rw[g];refine Ym (fun p c=>?_);unfold GK;rw[if_neg (fun e=>b p c (by rw[e]))]
  ·have g:GK x i v j=x j:=(by unfold GK;rw[if_neg e]);rw[g];rcases List.mem_cons.1 h with h | h
   ·exact absurd h.symm e
   ·exact XN d x i v r _ h l
def D8(b:Nat->Bool):List Nat->Array Bool->Array Bool
 | [],l=>l
 | i :: r,l=>D8 b r (if b i then l.setIfInBounds i true else l)
def CP(b:Nat->Bool)(i:Nat)(j:Nat):Bool:=j == i || b j
theorem Qm(b:Nat->Bool)(k:Nat):∀(M:List Nat) (l:Array Bool),(D8 b M l).setIfInBounds k true=D8 b M (l.setIfInBounds k true)
 | [],_=>rfl
 | i :: r,l=>by
  show(D8 b r (if b i then l.setIfInBounds i true else l)).setIfInBounds k true=D8 b r (if b i then(l.setIfInBounds k true).setIfInBounds i true else l.setIfInBounds k true);rw[Qm b k r];by_cases h:b i
  ·rw[if_pos h,if_pos h];by_cases e:i=k
   ·subst e;rfl
   ·rw[Array.setIfInBounds_comm _ _ e]
  ·rw[if_neg h,if_neg h]
theorem Mm{b c:Nat->Bool}:∀{M:List Nat} {l:Array Bool},(∀i∈M,b i=c i)->D8 b M l=D8 c M l
 | [],_,_=>rfl
 | i :: r,l,h=>by
  show D8 b r (if b i then _ else _)=D8 c r (if c i then _ else _);rw[h i List.mem_cons_self];exact Mm (fun j a=>h j (List.mem_cons_of_mem _ a))
theorem RV(b:Nat->Bool)(k:Nat):∀(M:List Nat) (l:Array Bool),k∈M->(D8 b M l).setIfInBounds k true=D8 (CP b k) M l
 | [],_,h=>by cases h
 | i :: r,l,h=>by
  show(D8 b r (if b i then l.setIfInBounds i true else l)).setIfInBounds k true=D8 (CP b k) r (if CP b k i then l.setIfInBounds i true else l);by_cases e:i=k
  ·subst e;have a:CP b i i=true:=(by unfold CP;simp);rw[if_pos a,Qm];have g:(if b i then l.setIfInBounds i true else l).setIfInBounds i true=l.setIfInBounds i true:=by
    by_cases c:b i
    ·rw[if_pos c,Array.setIfInBounds_setIfInBounds]
    ·rw[if_neg c]
   rw[g];by_cases d:i∈r
   ·rw[<-RV b i r _ d,Qm,Array.setIfInBounds_setIfInBounds]
   ·refine Mm (fun j m=>?_);unfold CP;have:(j == i)=false:=Iq fun e=>d (e▸m)
    rw[this,Bool.false_or]
  ·have a:CP b k i=b i:=by
    unfold CP;have:(i == k)=false:=Iq e;rw[this,Bool.false_or]
   rw[a];rcases List.mem_cons.1 h with h | h
   ·exact absurd h.symm e
   ·exact RV b k r _ h
def PO:List Nat->List (Nat->Bool)
 | []=>[fun _=>false]
 | i :: r=>(PO r).flatMap fun b=>[b,CP b i]
theorem Xz(c:Nat->Bool):∀M:List Nat,M.Nodup->∃b∈PO M,(∀i∈M,b i=c i)/\∀i,i∉M->b i=false
 | [],_=>⟨_,List.mem_singleton.2 rfl,fun i h=>(by cases h),fun _ _=>rfl⟩
 | i :: r,hn=>by
  obtain⟨g,m⟩:=List.nodup_cons.1 hn;obtain⟨b,k,l,d⟩:=Xz c r m;by_cases e:c i
  ·refine⟨CP b i,List.mem_flatMap.2 ⟨b,k,by simp⟩,fun j a=>?_,fun j a=>?_⟩
   ·unfold CP;rcases List.mem_cons.1 a with rfl | a
    ·simp[e]
    ·have:(j == i)=false:=Iq fun e=>g (e▸a)
     rw[this,Bool.false_or];exact l j a
   ·unfold CP;have n:(j == i)=false:=Iq fun e=>a (e▸List.mem_cons_self)
    rw[n,Bool.false_or];exact d j (fun h=>a (List.mem_cons_of_mem _ h))
  ·refine⟨b,List.mem_flatMap.2 ⟨b,k,by simp⟩,fun j a=>?_,fun j a=>?_⟩
   ·rcases List.mem_cons.1 a with rfl | a
    ·rw[d j g];simpa using e
    ·exact l j a
   ·exact d j (fun h=>a (List.mem_cons_of_mem _ h))
theorem XV(b:Nat->Bool)(i:Nat):∀M:List Nat,M.Nodup->i∈M->b i=false->(M.countP fun j=>!b j)=(M.countP fun j=>!CP b i j)+1
 | [],_,h,_=>by cases h
 | j :: r,hn,h,hbi=>by
  obtain⟨g,l⟩:=List.nodup_cons.1 hn;rw[List.countP_cons,List.countP_cons];rcases List.mem_cons.1 h with e | a
  ·subst e;have k:(r.countP fun j=>!b j)=r.countP fun j=>!CP b i j:=by
    refine List.countP_congr fun p m=>?_
    unfold CP;have:(p == i)=false:=Iq fun e=>g (e▸m)
    rw[this,Bool.false_or]
   have c:CP b i i=true:=(by unfold CP;simp);rw[k,hbi,c];simp
  ·have d:(j == i)=false:=Iq fun e=>g (e▸a)
   have c:CP b i j=b j:=(by unfold CP;rw[d,Bool.false_or]);have n:=XV b i r l a hbi;rw[c];omega
def Pt(md:Region.Mode)(ops:Array Oper)(M:List Nat)(D:Nat->List Nat)(l0:Array Bool):Bool:=
 (PO M).all fun b=>!(M.all fun i=>!b i || (D i).all b) || (M.all b || (!(Region.ready md ops (D8 b M l0)).isEmpty && (Region.ready md ops (D8 b M l0)).all fun i=>M.contains i && !b i && (D i).all b))
section
variable {P : Program} {md : Region.Mode} {ops : Array Oper} {Q : Exit -> Act -> World -> Prop} {S G : World -> Prop}
variable{M:List Nat}{D:Nat->List Nat}{d:Nat->Nat}{F:Nat->Value->World->Prop}{l0:Array Bool}
theorem zEG{a0:Act}{m:Nat}
 (B:Pt md ops M D l0=true) (hn:M.Nodup) (hd:M.Pairwise (fun p q=>d p≠d q)) (r:∀i∈M,∀j∈D i,j∈M)
 (hF:∀i v w w',F i v w->Below w.heap.size w w'->F i v w') (hG:∀w w',G w->Below w.heap.size w w'->G w')
 (t:∀i∈M,∀x w,S w->G w->(∀j∈D i,F j (x j) w)->∀K:Act->World->Prop,Shut (∀L v w',L=(BJ d x M a0).put (some (d i)) v->S w'->F i v w'->Below w.heap.size w w'->K L w')->wpOp P ops Q i K (BJ d x M a0) w)
 (C:∀x w,S w->G w->(∀i∈M,F i (x i) w)->wpAnyH P md ops Q S m (D8 (fun _=>true) M l0) (BJ d x M a0) w) :
 ∀(n:Nat) (b:Nat->Bool),(M.countP fun i=>!b i)=n->(∀i∈M,b i=true->∀j∈D i,b j=true)->∀x w,S w->G w->(∀i∈M,b i=true->F i (x i) w)->wpAnyH P md ops Q S (m+n) (D8 b M l0) (BJ d x M a0) w:=by
 intro n
 induction n with
 | zero=>
  intro b Z R x w O I H;have o:∀i∈M,b i=true:=fun i hi=>by
   have:=(List.countP_eq_zero.1 Z) i hi;simpa using this
  rw[Mm (c:=fun _=>true) o];exact C x w O I (fun i hi=>H i hi (o i hi))
 | succ n ih=>
  intro b Z R x w O I H;obtain⟨c,V,g,cA⟩:=Xz b M hn;have E:=List.all_eq_true.1 B c V;have U:(M.all fun i=>!c i || (D i).all c)=true:=List.all_eq_true.2 fun i hi=>by
   rw[g i hi];by_cases e:b i=true
   ·have:(D i).all c=true:=List.all_eq_true.2 fun j l=>by rw[g j (r i hi j l)];exact R i hi e j l
    rw[this];simp
   ·have:b i=false:=(by simpa using e);rw[this];rfl
  have W:(M.all c)=false:=by
   cases h:M.all c with
   | false=>rfl
   | true=>
    have Y:(M.countP fun i=>!b i)=0:=List.countP_eq_zero.2 fun i hi=>by rw[<-g i hi,List.all_eq_true.1 h i hi];simp
    omega
  rw[U,W]at E;simp only[Bool.not_true,Bool.false_or,Bool.and_eq_true]at E;rw[Mm (c:=c) (fun i hi=>(g i hi).symm)];refine⟨fun Y=>?_,fun i hi=>?_⟩
  ·rw[Y]at E;simp at E
  ·have J:=List.all_eq_true.1 E.2 i hi;simp only[Bool.and_eq_true,Bool.not_eq_true']at J;have k:i∈M:=(by simpa using J.1.1);have T:b i=false:=(by rw[<-g i k];exact J.1.2);have u:∀j∈D i,b j=true:=fun j l=>by rw[<-g j (r i k j l)];exact List.all_eq_true.1 J.2 j l
   refine t i k x w O I (fun j l=>H j (r i k j l) (u j l)) _ ?_;intro L v w' ha y N z;refine⟨y,?_⟩;rw[ha,XN d x i v M a0 k hd,RV c i M l0 k];have A:∀j∈M,CP c i j=CP b i j:=fun j l=>by unfold CP;rw[g j l]
   rw[Mm (c:=CP b i) A];refine ih (CP b i) ?_ ?_ (GK x i v) w' y (hG w w' I z) ?_
   ·have h1:(M.countP fun j=>!b j)=(M.countP fun j=>!CP b i j)+1:=XV b i M hn k T;omega
   ·intro p X a j l;unfold CP at a ⊢;by_cases e:p=i
    ·subst e;rw[u j l];simp
    ·have s:(p == i)=false:=Iq e;rw[s,Bool.false_or]at a;rw[R p X a j l];simp
   ·intro p X a;unfold GK;by_cases e:p=i
    ·subst e;rw[if_pos rfl];exact N
    ·rw[if_neg e];unfold CP at a;have s:(p == i)=false:=Iq e;rw[s,Bool.false_or]at a;exact hF p _ w w' (H p X a) z
variable{w:World}
theorem zG5{a0:Act}{c:Nat}(n:Nat->Value)
 (e:Pt md ops M D l0=true) (hn:M.Nodup) (m:M.Pairwise (fun p q=>d p≠d q)) (k:∀i∈M,∀j∈D i,j∈M)
 (hF:∀i v w w',F i v w->Below w.heap.size w w'->F i v w') (o:∀w w',G w->Below w.heap.size w w'->G w')
 (b:∀i∈M,∀x w,S w->G w->(∀j∈D i,F j (x j) w)->∀K:Act->World->Prop,Shut (∀l v w',l=(BJ d x M a0).put (some (d i)) v->S w'->F i v w'->Below w.heap.size w w'->K l w')->wpOp P ops Q i K (BJ d x M a0) w)
 (g:∀x w,S w->G w->(∀i∈M,F i (x i) w)->wpAnyH P md ops Q S c (D8 (fun _=>true) M l0) (BJ d x M a0) w)
 {a:Act} {f:Nat} (t:a=BJ d n M a0) (u:f=c+M.length) (s:S w) (y:G w):wpAnyH P md ops Q S f l0 a w:=by
 subst t u;have e0:D8 (fun _=>false) M l0=l0:=by
  clear e hn m k b g
  induction M with
  | nil=>rfl
  | cons i r ih=>exact ih
 have:=zEG (P:=P) (Q:=Q) e hn m k hF o b g M.length (fun _=>false) (by simp[List.countP_true]) (fun i hi h=>by cases h) n w s y (fun i hi h=>by cases h)
 rwa [e0]at this
theorem zGU(a:Act)(k:Nat):a.put (some k) (a.tmps.getD k undef)=a:=by
 unfold Act.put;have:a.tmps.setIfInBounds k (a.tmps.getD k undef)=a.tmps:=by
  refine Array.ext_getElem? fun j=>?_
  rw[Array.getElem?_setIfInBounds];by_cases e:k=j
  ·subst e;by_cases h:k<a.tmps.size
   ·simp[h,Array.getD]
   ·simp[h]
  ·simp[e]
 cases a;simp only[this]
theorem Y1(d:Nat->Nat)(a:Act):∀M:List Nat,BJ d (fun i=>a.tmps.getD (d i) undef) M a=a
 | []=>rfl
 | i :: r=>by
  show BJ d _ r (a.put (some (d i)) (a.tmps.getD (d i) undef))=a;rw[zGU];exact Y1 d a r
theorem XG(M:List Nat)(D:Nat->List Nat)(d:Nat->Nat)(F:Nat->Value->World->Prop)(b:Nat){a:Act}
 (e:Pt md ops M D l0=true) (hn:M.Nodup) (n:M.Pairwise (fun p q=>d p≠d q)) (h:∀i∈M,∀j∈D i,j∈M)
 (hF:∀i v w w',F i v w->Below w.heap.size w w'->F i v w') (l:∀w w',G w->Below w.heap.size w w'->G w') (m:S w) (o:G w)
 (c:∀i∈M,∀x w,S w->G w->(∀j∈D i,F j (x j) w)->∀K:Act->World->Prop,Shut (∀k v w',k=(BJ d x M a).put (some (d i)) v->S w'->F i v w'->Below w.heap.size w w'->K k w')->wpOp P ops Q i K (BJ d x M a) w)
 (g:∀x w,S w->G w->(∀i∈M,F i (x i) w)->wpAnyH P md ops Q S b (D8 (fun _=>true) M l0) (BJ d x M a) w):wpAnyH P md ops Q S (b+M.length) l0 a w:=
 zG5 (fun i=>a.tmps.getD (d i) undef) e hn n h hF l c g (Y1 d a M).symm rfl m o
end
theorem zDy(l:List (Int×Int)):BU l l = []:=List.filter_eq_nil_iff.2 fun x a=>by simp[a]
theorem zDW(f g h i:Nat->Int):Ew 0 f g 0 h i:=⟨⟨Nat.zero_le _,fun i hi=>absurd hi (Nat.not_lt_zero _),fun i hi=>absurd hi (Nat.not_lt_zero _)⟩,⟨Nat.zero_le _,fun i hi=>absurd hi (Nat.not_lt_zero _),fun i hi=>absurd hi (Nat.not_lt_zero _)⟩,rfl,fun i hi=>absurd hi (Nat.not_lt_zero _)⟩
theorem RK(c:V.pn=W.pn)(hs:V.A1=W.A1)(x:Int):AC V x=AC W x:=by
 have hn:∀k,B5 V x k↔B5 W x k:=fun k=>by unfold B5;rw[c,hs]
 by_cases b:∃k,B5 W x k
 ·obtain⟨k,a⟩:=b;rw[CM a,CM ((hn k).2 a),hs]
 ·unfold AC;rw[dif_neg b,dif_neg fun ⟨k,a⟩=>b ⟨k,(hn k).1 a⟩]
section
variable {W : A5}
theorem JS.deadOf(a:JS W)(hi:i<memN W):EP W i:=by
 by_cases b:i<W.pn
 ·exact a.dead i b
 ·obtain⟨j,rfl⟩:∃j,i=W.pn+j:=⟨i - W.pn,by omega⟩;exact(a.A3 j (by unfold memN at hi;omega)).2
end
section
variable {W V : A5} {k : Nat} {name : ByteArray}
def lone(W:A5)(k:Nat):Cs:=⟨W.next,W.time+1,(W.A3 k).rs,(W.A3 k).rb,0,(W.A3 k).ds,(W.A3 k).db⟩
end
section
variable {W V : A5} {k : Nat} {s : AM}
structure FG (W V:A5) (k:Nat) (s:AM):Prop where
 pool:V.pool=W.pool
 time:V.time=W.time
 next:V.next=W.next
 sn:V.sn=W.sn+1
 pn:V.pn=W.pn
 A1:V.A1=W.A1
 lo:∀j,j<k->V.A3 j=W.A3 j
 at':V.A3 k=s
 hi:∀j,k<=j->V.A3 (j+1)=W.A3 j
theorem FG.set(g:FG W V k s)(h:j≠k):V.A3 j=W.A3 (if j<k then j else j - 1):=by
 by_cases e:j<k
 ·rw[if_pos e,g.lo j e]
 ·obtain⟨i,rfl⟩:∃i,j=i+1:=⟨j - 1,by omega⟩;rw[if_neg e,g.hi i (by omega),Nat.add_sub_cancel]
theorem FG.memN(g:FG W V k s):memN V=Go.Proofs.YtibhefllijahkaaGreatDoor.memN W+1:=by unfold Go.Proofs.YtibhefllijahkaaGreatDoor.memN;rw[g.sn,g.pn];omega
theorem FG.mem(g:FG W V k s)(d:k<=W.sn)(hi:i<Go.Proofs.YtibhefllijahkaaGreatDoor.memN V):(i=W.pn+k/\AB V i=JE W.time s)\/(i≠W.pn+k/\(if i<W.pn+k then i else i - 1)<Go.Proofs.YtibhefllijahkaaGreatDoor.memN W/\AB V i=AB W (if i<W.pn+k then i else i - 1)):=by
 rw[g.memN]at hi;by_cases b:i<W.pn
 ·refine .inr ⟨by omega,by rw[if_pos (by omega)];unfold Go.Proofs.YtibhefllijahkaaGreatDoor.memN;omega,?_⟩;rw[if_pos (by omega),CU (by rw[g.pn];omega),CU b,g.A1]
 obtain⟨j,rfl⟩:∃j,i=V.pn+j:=⟨i - V.pn,by rw[g.pn];omega⟩;rw[DN,g.time];rw[g.pn]at hi b ⊢;by_cases e:j=k
 ·subst e;exact .inl ⟨rfl,by rw[g.at']⟩
 ·have c:W.pn+k<=Go.Proofs.YtibhefllijahkaaGreatDoor.memN W:=(by unfold Go.Proofs.YtibhefllijahkaaGreatDoor.memN;omega);refine .inr ⟨by omega,by split<;>omega,?_⟩;rw[g.set e];by_cases a:j<k
  ·rw[if_pos a,if_pos (by omega),DN]
  ·rw[if_neg a,if_neg (by omega),show W.pn+j - 1=W.pn+(j - 1)by omega,DN]
theorem FG.treeM(g:FG W V k s)(m:Cs):treeM V m=Go.Proofs.YtibhefllijahkaaGreatDoor.treeM W m:=by unfold Go.Proofs.YtibhefllijahkaaGreatDoor.treeM;rw[g.pool]
theorem FG.oldM(g:FG W V k s)(m:Cs):oldM V m=Go.Proofs.YtibhefllijahkaaGreatDoor.oldM W m:=by unfold Go.Proofs.YtibhefllijahkaaGreatDoor.oldM;rw[RK g.pn g.A1,g.pool]
theorem FG.spec(g:FG W V k s)(h:Ak W)(p:Dp W s.name k)(hn:BK s.name)(hf:W.sn<8)(hd:s.dn=0)(Q:s.origin=s.A6)(hi:s.A6≠0->Ba W s.A6)(D:s.rs=(AC W s.A6).rs/\s.rb=(AC W s.A6).rb):Ak V:=by
 have C:=h.toU;have H:=h.AX;have L:∀j,j<W.sn->(W.A3 j).name≠s.name:=fun j c=>by
  by_cases e:j<k
  ·exact Fr (p.2.1 j e)
  ·exact fun z=>Fr (p.2.2 j (by omega) c) z.symm
 have A:∀j,j<W.pn->(W.A1 j).set≠s.name:=fun j c e=>by
  obtain⟨i,a,z⟩:=(H.2.2.2.2.2 j c).1.2.2.2.2.2;exact L i a (z.trans e)
 have v:∀x,Ba V x↔Ba W x:=fun x=>by unfold Ba;rw[g.pn,g.A1]
 have B:∀x,B3 W x->B3 V x:=fun x ⟨j,c,e⟩=>by
  by_cases I:j<k
  ·exact⟨j,by rw[g.sn];omega,by rw[g.lo j I];exact e⟩
  ·exact⟨j+1,by rw[g.sn];omega,by rw[g.hi j (by omega)];exact e⟩
 have O:As W.pool s.rs s.rb:=by rw[D.1,D.2];exact Ld h.A1 _
 have l:Go.Proofs.YtibhefllijahkaaGreatDoor.oldM V (JE W.time s)=Go.Proofs.YtibhefllijahkaaGreatDoor.treeM W (JE W.time s):=by
  rw[g.oldM];show AF W.pool (AC W s.A6).rs (AC W s.A6).rb=AF W.pool s.rs s.rb;rw[D.1,D.2]
 have n:∀i,i<Go.Proofs.YtibhefllijahkaaGreatDoor.memN V->EP V i:=fun i hi=>by
  unfold EP;rcases g.mem p.1 hi with⟨-,e⟩ | ⟨-,c,e⟩
  ·rw[e,l,g.treeM,zDy];show FH s.dn _ _ _;rw[hd];exact zDW _ _ _ _
  ·rw[e,g.oldM,g.treeM];exact C.deadOf c
 have t:∀i,i<Go.Proofs.YtibhefllijahkaaGreatDoor.memN V->∀x,x∈D5 V (AB V i)->i≠W.pn+k/\(if i<W.pn+k then i else i - 1)<Go.Proofs.YtibhefllijahkaaGreatDoor.memN W/\x∈D5 W (AB W (if i<W.pn+k then i else i - 1)):=fun i hi x o=>by
  rcases g.mem p.1 hi with⟨-,e⟩ | ⟨K,c,e⟩
  ·rw[e]at o;have:=Pr.1 o;rw[l,g.treeM]at this;exact absurd this.1 this.2
  ·rw[e]at o;have:=Pr.1 o;rw[g.oldM,g.treeM]at this;exact⟨K,c,Pr.2 this⟩
 have N:∀i,i<V.sn->V.pn+i<Go.Proofs.YtibhefllijahkaaGreatDoor.memN V:=fun i hi=>by unfold Go.Proofs.YtibhefllijahkaaGreatDoor.memN;omega
 have M:∀i,i<V.pn->i<Go.Proofs.YtibhefllijahkaaGreatDoor.memN V:=fun i hi=>by unfold Go.Proofs.YtibhefllijahkaaGreatDoor.memN;omega
 have r:∀i,i<V.sn->i≠k->(if i<k then i else i - 1)<W.sn:=fun i hi e=>by rw[g.sn]at hi;have:=p.1;split<;>omega
 refine⟨by rw[g.pool];exact h.right,?_,fun i a=>?_,fun i a=>by rw[g.pool,g.A1];exact h.A1 i (by rw[<-g.pn];exact a),fun i a=>⟨?_,n _ (N i a)⟩,fun i a=>n i (M i a),fun i a=>?_,fun i a=>?_,?_⟩
 ·obtain⟨R,S,a5,T,U,X⟩:=H;refine⟨by rw[g.time];exact R,by rw[g.next];exact S,by rw[g.sn];omega,by rw[g.pn];exact T,fun i a=>?_,fun i a=>?_⟩
  ·unfold HU;rw[v,v];by_cases e:i=k
   ·subst e;rw[g.at'];refine⟨hn,fun h0=>?_,hi,by rw[Q];exact hi⟩;rw[g.lo (i - 1) (by omega)];exact p.2.1 _ (by omega)
   ·obtain⟨q1,q2,q3,q4⟩:=U _ (r i a e);rw[g.set e];refine⟨q1,fun h0=>?_,q3,q4⟩;by_cases z:i - 1=k
    ·rw[z,g.at',if_neg (by omega)];exact p.2.2 _ (by omega) (by rw[g.sn]at a;omega)
    ·rw[g.set z];exact IC h.AX (by split<;>split<;>omega) (r i a e)
  ·obtain⟨⟨Y,Z,b3,b4,b5,b6⟩,⟨c1,c2⟩,d⟩:=X i (by rw[<-g.pn];exact a);unfold Ll SF NE NF;rw[g.A1,g.next,g.time,v];exact⟨⟨Y,Z,b3,b4,b5,B _ b6⟩,⟨c1,c2⟩,d⟩
 ·by_cases e:i=k
  ·subst e;rw[g.at'];refine⟨0,s.A6,.zero,fun ⟨j,c,e⟩=>?_,?_,Q.symm⟩
   ·rw[g.A1]at e;exact A j (by have:=c.1;rw[g.pn]at this;exact this) e
   ·rw[g.pn];have:∀m,m<=W.pn->ownN V s.name m=0:=fun m=>by
     induction m with
     | zero=>exact fun _=>rfl
     | succ m ih=>intro J;rw[Lt (by rw[g.A1];exact A m (by omega)),ih (by omega)]
    rw[this _ (Nat.le_refl _)]
  ·rw[g.set e];exact(h.lines _ (r i a e)).same g.pn g.A1
 ·rw[g.pool];by_cases e:i=k
  ·subst e;rw[g.at'];exact O
  ·rw[g.set e];exact(h.A3 _ (r i a e)).1
 ·rw[g.pool]at a ⊢;rw[<-h.reach i a];constructor
  ·rintro⟨m,J,b,u⟩;rw[g.treeM]at u;rcases g.mem p.1 J with⟨-,e⟩ | ⟨-,c,e⟩
   ·rw[e,<-l,g.oldM]at u;obtain⟨j,c,P⟩:=qN u;exact⟨j,by unfold Go.Proofs.YtibhefllijahkaaGreatDoor.memN;have:=c.1;omega,b,P⟩
   ·rw[e]at u;exact⟨_,c,b,u⟩
  ·rintro⟨m,J,b,u⟩;have step:∀w,w<Go.Proofs.YtibhefllijahkaaGreatDoor.memN V->w≠W.pn+k->(if w<W.pn+k then w else w - 1)=m->∃m,m<Go.Proofs.YtibhefllijahkaaGreatDoor.memN V/\∃b,((i:Int),b)∈Go.Proofs.YtibhefllijahkaaGreatDoor.treeM V (AB V m):=fun w E F G=>by
    refine⟨w,E,b,?_⟩;rw[g.treeM,((g.mem p.1 E).resolve_left fun e=>F e.1).2.2,G];exact u
   by_cases I:m<W.pn+k
   ·exact step m (by rw[g.memN];omega) (by omega) (if_pos I)
   ·exact step (m+1) (by rw[g.memN];omega) (by omega) (if_neg (by omega))
 ·unfold Fb;rcases g.mem p.1 a with⟨-,e⟩ | ⟨-,c,e⟩
  ·rw[e,l,g.treeM,RK g.pn g.A1];show Gy _ _ (AC W s.A6).time W.time;intro x o;rw[<-l,g.oldM]at o;obtain⟨j,c,P⟩:=qN o;have q:=(C.born j (by unfold Go.Proofs.YtibhefllijahkaaGreatDoor.memN;have:=c.1;omega) x P).1;rw[CU c.1]at q;have q':x.2<=(W.A1 j).time:=q;have:=(H.2.2.2.2.2 j c.1).1.2.2.2.1;rw[CM (show B5 W s.A6 j from c)];rw[<-g.oldM,l]at o;exact⟨by omega,fun _=>q',fun _=>o⟩
  ·rw[e,g.oldM,g.treeM,RK g.pn g.A1];exact C.born _ c
 ·intro i a j c x o y hy;obtain⟨E,F,G⟩:=t i a x o;obtain⟨j1,j2,j3⟩:=t j (by omega) y hy;exact C.apart' F j2 (by split<;>split<;>omega) G j3
end
theorem zF1{k:Nat}{s:AM}(h:Ak W)(d:Dp W s.name k)(hn:BK s.name)(c:W.sn<8)(b:s.dn=0)(e:s.origin=s.A6)(hi:s.A6≠0->Ba W s.A6)(g:s.rs=(AC W s.A6).rs/\s.rb=(AC W s.A6).rb):Ak (DE W k s):=
 FG.spec (W:=W) (V:=DE W k s) (k:=k) (s:=s) ⟨rfl,rfl,rfl,rfl,rfl,rfl,fun j a=>ET a,ER,fun j a=>ES (Nat.lt_succ_of_le a)⟩ h d hn c b e hi g
def KX(name:ByteArray):AM:={name:=name,origin:=0,A6:=0,rs:=0,rb:=0,dn:=0,ds:=fun _=>0,db:=fun _=>0}
def zd(W:A5)(name:ByteArray)(w:World)(e:Ending)(w':World):Prop:=∃r o,Et W (∃i,i<1/\8000<((fun (_:Nat)=>name) i).size) (∃i,i<1/\¬BK ((fun i=>match i with  | _=>name) i)) 2 (fun i=>match i with | 0=>¬B3 W name | _=>W.sn<8) (fun i=>match i with | 0=>3 | _=>4) r/\(r=none->∃k,Dp W name k/\o=⟨DE W k (KX name),0,0,0⟩)/\Iw (F6 r o) w e w'
open Go.Extern.Stop Go.Stop Go.Extern
def JY(w:World)(b:Nat)(p:Nat->Addr):Prop:=∀k,k<7->w.cell? ⟨b,k*2,none⟩=some (AY (p k))/\w.cell? ⟨b,k*2+1,none⟩=some (.int .i64 (EB k))
variable{w w':World}{p:Nat->Addr}
theorem JY.A0{b:Nat}(h:JY w b p)(t:Below w.heap.size w w'):JY w' b p:=
 fun k a=>⟨(t.cell (AZ (h k a).1)).trans (h k a).1,(t.cell (AZ (h k a).2)).trans (h k a).2⟩
theorem JY.new(p:Nat->Addr)(w:World):JY (w.alloc (.cells (Mu p) 145)) w.heap.size p:=
 fun k a=>⟨(B2 (heap_alloc_new _ _) (Ss p a).1).1,(B2 (heap_alloc_new _ _) (Ss p a).2).1⟩
theorem YH(p:Nat->Addr)(i:Nat)(hi:i<7)(w:World)(h:Cr w p):Calls Tryz.prog 59 #[AY (p i)] w fun e w'=>e = .returned (.int .i64 (EB i))/\Below w.heap.size w w':=by
 have g:=AP h;clear h;have r:=A9 w (.cells (Mu p) 145);have n:=AP (JY.new p w);go_enter Tryz.func59,Tryz.ntmps59;go_wp2_with fail;refine(zBp p _ g.out).mono ?_;rintro e C ⟨rfl,rfl⟩;go_wp2
 go_loopw [7] (fun u wr=>∃k:Nat,k<=i/\u = .int .i64 k/\JY wr w.heap.size p/\Below w.heap.size w wr) (fun i _=>7 - (intOf i).toNat)
 case atStart=>exact⟨0,Nat.zero_le _,rfl,n.out,r⟩
 case round=>
  obtain⟨k,B,rfl,j,s⟩:=hrel;have t:(k:Int)<7:=(by omega);obtain⟨v,q1⟩:=j k (by omega);have l:=AP j;clear j;have hn:=A9 wr (.cells #[AY (p k),.int .i64 (EB k)] 145);have a:=A7 s hn;have b:=AP (l.out.A0 hn);have z:(wr.alloc (.cells #[AY (p k),.int .i64 (EB k)] 145)).cell? ⟨wr.heap.size,0,none⟩=some (AY (p k)):=(B2 (heap_alloc_new _ _) rfl).1;have A:(wr.alloc (.cells #[AY (p k),.int .i64 (EB k)] 145)).cell? ⟨wr.heap.size,1,none⟩=some (.int .i64 (EB k)):=(B2 (heap_alloc_new _ _) rfl).1;go_wp2_with fail;generalize wr.alloc (.cells #[AY (p k),.int .i64 (EB k)] 145)=W5 at z A hn a b ⊢;clear v q1;by_cases m:k=i
  ·subst m;refine(zHa (p k) _).mono ?_;rintro e y ⟨rfl,rfl⟩;go_wp2;go_ret;exact⟨rfl,a⟩
  ·obtain⟨o,x,c⟩:=(g.out.A0 a).row i hi;obtain⟨q,tb,d⟩:=(g.out.A0 a).row k (by omega);refine(zFb (p i) (p k) o q x tb _ (g.out.ne i k hi (by omega) (Ne.symm m)) c d).mono ?_;rintro e y ⟨rfl,rfl⟩;clear c d;go_wp2;go_roundw
   case rel=>exact⟨k+1,by omega,by go_num,b.out,a⟩
   case measure=>simp[intOf];omega
def JU(p:Nat->Addr)(o:BV)(C:Nat)(w:World)(e:Ending)(w':World):Prop:=
 (∃v,e = .returned v)/\Below C w w'/\C<w'.heap.size/\((o.code=0/\∃z0 z1 z2 z3,Bp w' C z0 z1 (.int .i64 o.world.time) (.int .i64 o.world.next) z2 z3 (.int .i64 o.id) (.int .i64 o.many) .nilIface/\EJ w' (C+1) w'.heap.size z0 z1 z2 z3 o.world)\/(∃i,i<7/\o=BG (EB i)/\∃z0 z1 z2 z3 z4 z5 z6 z7,Bp w' C z0 z1 z2 z3 z4 z5 z6 z7 (AY (p i))))
theorem qO(p:Nat->Addr)(tv nv qv:Value)(F:Nat)(q:Array Value)(I H m:Nat)(tx nx:Nat->ByteArray)(g:Nat->Nat)(lb:Nat->Array Value)(ei:Nat->Nat)(Q:Nat->Prop)(o:BV)(v0 v1 v2 v3:Value)(lo hi:Nat)(W:A5)(w:World)(hE:Cr w p)(h:BR w lo hi v0 v1 v2 v3 W)(jE:E7 W)(b1:Az W.pool<=1048576)(b2:W.sn<=1048576)(b3:W.pn<=1048576)(b4:Je W)
 (ht:E8 w tv I tx) (hn:E8 w nv H nx) (hq:It w p qv m g lb ei) (sC:∀i,i<m->ei i<7) (eg:∀i,i<m->Enters Tryz.prog (g i)) (ed:Enters Tryz.prog F)
 (hQ:∀i,i<m->∀w',Below w.heap.size w w'->CF W->(∀j,j<i->Q j)->Calls Tryz.prog (g i) (#[BS v0 v1 v2 v3 W] ++ lb i) w' fun e oE=>AG (Q i) e/\Below w'.heap.size w' oE)
 (hD:∀C w' z0 z1 z2 z3,w.heap.size<=C->Below w.heap.size w w'->C<w'.heap.size->CF W->(¬∃i,i<I/\8000<(tx i).size)->(¬∃i,i<H/\¬BK (nx i))->(∀j,j<m->Q j)->DC w' (C+1) w'.heap.size z0 z1 z2 z3 W->Bp w' C z0 z1 (.int .i64 W.time) (.int .i64 W.next) z2 z3 (.int .i64 0) (.int .i64 0) .nilIface->Calls Tryz.prog F (#[.pointer (some ⟨C,0,none⟩)] ++ q) w' (JU p o C w')) :
 Calls Tryz.prog 24 #[.agg #[tv,nv,qv,.func (.func F) #[] q],BS v0 v1 v2 v3 W] w fun e w'=>∃r,Et W (∃i,i<I/\8000<(tx i).size) (∃i,i<H/\¬BK (nx i)) m Q ei r/\Iw (F6 r o) w e w':=by
 have Hp:=AP h;have HE:=AP hE;have Ht:=AP ht;have Hn:=AP hn;have Hq:=AP hq;have HQ:=AP hQ;have mD:=AP hD;have Hg:=AP eg;have pD:=AP ed;have rD:=AP sC;obtain⟨t1,ta,tc,rfl,-⟩:=ht;obtain⟨n1,na,nc,rfl,-⟩:=hn;obtain⟨m1,qa,qc,rfl,-⟩:=hq;clear h hE hQ eg hD ed sC;have rC:=A9 w (.cells #[.slice ta I tc,.slice na H nc,.slice qa m qc,.func (.func F) #[] q] 64);have cB:=A9 (w.alloc (.cells #[.slice ta I tc,.slice na H nc,.slice qa m qc,.func (.func F) #[] q] 64)) (.cells #[v0,v1,.int .i64 W.time,.int .i64 W.next,v2,v3] 30);have l:=A9 ((w.alloc (.cells #[.slice ta I tc,.slice na H nc,.slice qa m qc,.func (.func F) #[] q] 64)).alloc (.cells #[v0,v1,.int .i64 W.time,.int .i64 W.next,v2,v3] 30)) (.cells #[.slice none 0 0,.slice none 0 0,.int .i64 0,.int .i64 0,.slice none 0 0,.slice none 0 0,.int .i64 0,.int .i64 0,.int .i64 0] 34);have V:=A7 (A7 rC cB) l;have hd:=((JI.new w (.slice ta I tc) (.slice na H nc) (.slice qa m qc) (.func (.func F) #[] q) 64).A0 cB).A0 l;have hx:=(Aj.new (w.alloc (.cells #[.slice ta I tc,.slice na H nc,.slice qa m qc,.func (.func F) #[] q] 64)) (v0) (v1) (.int .i64 W.time) (.int .i64 W.next) (v2) (v3) 30).A0 l;have hr:=Bp.new ((w.alloc (.cells #[.slice ta I tc,.slice na H nc,.slice qa m qc,.func (.func F) #[] q] 64)).alloc (.cells #[v0,v1,.int .i64 W.time,.int .i64 W.next,v2,v3] 30)) (.slice none 0 0) (.slice none 0 0) (.int .i64 0) (.int .i64 0) (.slice none 0 0) (.slice none 0 0) (.int .i64 0) (.int .i64 0) (.int .i64 0) 34;rw[World.size_alloc]at hx;rw[World.size_alloc,World.size_alloc]at hr;have hz:w.heap.size+3<=(((w.alloc (.cells #[.slice ta I tc,.slice na H nc,.slice qa m qc,.func (.func F) #[] q] 64)).alloc (.cells #[v0,v1,.int .i64 W.time,.int .i64 W.next,v2,v3] 30)).alloc (.cells #[.slice none 0 0,.slice none 0 0,.int .i64 0,.int .i64 0,.slice none 0 0,.slice none 0 0,.int .i64 0,.int .i64 0,.int .i64 0] 34)).heap.size:=by rw[World.size_alloc,World.size_alloc,World.size_alloc];omega
 have HD:=AP hd;have HX:=AP hx;have S:=AP hr;clear hd hx hr;have iE:=fun (w:World) (a:Addr)=>run_store Tryz.prog w a (.func (.func F) #[] q) .plain rfl
 obtain⟨⟨d0,-⟩,⟨d1,-⟩,⟨d2,-⟩,⟨d3,-⟩⟩:=HD.out;obtain⟨x0,x1,x2,x3,x4,x5⟩:=HX.out.c;go_enter Tryz.func24,Tryz.ntmps24;go_wp2_with fail;clear d0 d1 d2 d3 x0 x1 x2 x3 x4 x5 iE;generalize (((w.alloc (.cells #[.slice ta I tc,.slice na H nc,.slice qa m qc,.func (.func F) #[] q] 64)).alloc (.cells #[v0,v1,.int .i64 W.time,.int .i64 W.next,v2,v3] 30)).alloc (.cells #[.slice none 0 0,.slice none 0 0,.int .i64 0,.int .i64 0,.slice none 0 0,.slice none 0 0,.int .i64 0,.int .i64 0,.int .i64 0] 34))=W1 at V HD HX S hz ⊢;clear rC cB l;refine(zBG p _ _ _ _ I H m tx nx g lb ei Q _ _ _ _ lo hi W W1 (HE.out.A0 V) (Hp.out.A0 V) jE (Ht.out.A0 V) (Hn.out.A0 V) (Hq.out.A0 V) Hg.out (fun i hi w' eE=>HQ.out i hi w' (A7 V eE))).mono ?_;rintro e T ⟨r,rfl,eA,l⟩;have A:=AP eA;have nC:=A7 V l;have aH:=l.size;have lD:=AP (HD.out.A0 l);have oD:=AP (HX.out.A0 l);have aC:=AP (S.out.A0 l);clear eA l V HD HX S;cases r with
 | some i=>
  have fB:i<7:=by
   rcases A.out with⟨_,e⟩ | ⟨_,_,e⟩ | ⟨_,_,_,k,hk,_,_,e⟩ | ⟨_,_,_,_,e⟩
   ·simp at e;omega
   ·simp at e;omega
   ·have:=rD.out k hk;simp at e;omega
   ·simp at e
  unfold SU;have t:=A9 T (.cells #[.slice none 0 0,.slice none 0 0,.int .i64 0,.int .i64 0,.slice none 0 0,.slice none 0 0,.int .i64 0,.int .i64 0,AY (p i)] 95);have E:=AP (Bp.new T (.slice none 0 0) (.slice none 0 0) (.int .i64 0) (.int .i64 0) (.slice none 0 0) (.slice none 0 0) (.int .i64 0) (.int .i64 0) (AY (p i)) 95);have S:=AP (aC.out.A0 t);have D:=A7 nC t;obtain⟨-,-,-,-,-,-,-,-,⟨L,-⟩⟩:=E.out;go_wp2_with fail;clear L;generalize T.alloc (.cells #[.slice none 0 0,.slice none 0 0,.int .i64 0,.int .i64 0,.slice none 0 0,.slice none 0 0,.int .i64 0,.int .i64 0,AY (p i)] 95)=W3 at E S D ⊢;generalize T.heap.size=C at E ⊢;clear t;obtain⟨-,-,-,-,-,-,-,-,⟨L,-⟩⟩:=E.out;go_wp2_with fail;refine(YH p i fB _ (HE.out.A0 D)).mono ?_;rintro e wz ⟨rfl,O⟩;have N:=A7 D O;have K:=AP (S.out.A0 O);clear L;obtain⟨⟨r0,g0⟩,⟨r1,g1⟩,⟨r2,g2⟩,⟨r3,g3⟩,⟨r4,g4⟩,⟨r5,g5⟩,⟨r6,g6⟩,⟨r7,g7⟩,⟨r8,g8⟩⟩:=K.out;go_wp2_with fail;have b:=K.out.put (.slice none 0 0) (.slice none 0 0) (.int .i64 0) (.int .i64 0) (.slice none 0 0) (.slice none 0 0) (.int .i64 0) (.int .i64 0) (.int .i64 (EB i));have J:=AI.put9 wz (w.heap.size+1+1) (.slice none 0 0) (.slice none 0 0) (.int .i64 0) (.int .i64 0) (.slice none 0 0) (.slice none 0 0) (.int .i64 0) (.int .i64 0) (.int .i64 (EB i));clear r0 r1 r2 r3 r4 r5 r6 r7 r8 g0 g1 g2 g3 g4 g5 g6 g7 g8;refine bodyPost_ret (v:=.agg #[.slice none 0 0,.slice none 0 0,.int .i64 0,.int .i64 0,.slice none 0 0,.slice none 0 0,.int .i64 0,.int .i64 0,.int .i64 (EB i)]) (by simp[results,Tryz.results24,go_sem,b.1.1,b.2.1.1,b.2.2.1.1,b.2.2.2.1.1,b.2.2.2.2.1.1,b.2.2.2.2.2.1.1,b.2.2.2.2.2.2.1.1,b.2.2.2.2.2.2.2.1.1,b.2.2.2.2.2.2.2.2.1]) rfl ⟨some i,A.out,?_⟩;exact⟨_,_,_,_,rfl,TD,N.trans (J.A0 (B:=w.heap.size) N.size (fun k e=>by omega))⟩
 | none=>
  unfold SU;have t:=A9 T (.cells #[.slice none 0 0,.slice none 0 0,.int .i64 0,.int .i64 0,.slice none 0 0,.slice none 0 0,.int .i64 0,.int .i64 0,.nilIface] 95);have E:=AP (Bp.new T (.slice none 0 0) (.slice none 0 0) (.int .i64 0) (.int .i64 0) (.slice none 0 0) (.slice none 0 0) (.int .i64 0) (.int .i64 0) (.nilIface) 95);have oA:=AP (aC.out.A0 t);have pA:=AP (oD.out.A0 t);have nA:=AP (lD.out.A0 t);have D:=A7 nC t;have vC:T.heap.size<(T.alloc (.cells #[.slice none 0 0,.slice none 0 0,.int .i64 0,.int .i64 0,.slice none 0 0,.slice none 0 0,.int .i64 0,.int .i64 0,.nilIface] 95)).heap.size:=(by rw[World.size_alloc];omega);obtain⟨-,-,-,-,-,-,-,-,⟨L,-⟩⟩:=E.out;obtain⟨x0,x1,x2,x3,x4,x5⟩:=pA.out.c;go_wp2_with fail;clear L x0 x1 x2 x3 x4 x5;generalize T.alloc (.cells #[.slice none 0 0,.slice none 0 0,.int .i64 0,.int .i64 0,.slice none 0 0,.slice none 0 0,.int .i64 0,.int .i64 0,.nilIface] 95)=W3 at E oA pA nA D vC ⊢;generalize tG:T.heap.size=C at E vC ⊢;clear t;refine(zDB _ _ _ _ lo hi W W3 (Hp.out.A0 D) b1 b2 b3 b4).mono ?_;rintro e w4 ⟨z0,z1,z2,z3,rfl,ho,G⟩;obtain⟨X,u,Y,x,Z,y,l3,z,rfl,rfl,rfl,rfl⟩:=ho.C5;have oC:=A7 D G;have bH:=G.size;have mA:=AP (E.out.A0 G);have bC:=AP (oA.out.A0 G);have vB:=AP (nA.out.A0 G);have Ho:=AP ho;clear ho E oA pA nA G;obtain⟨⟨c0,f0⟩,⟨c1,f1⟩,⟨c2,f2⟩,⟨c3,f3⟩,⟨c4,f4⟩,⟨c5,f5⟩,⟨c6,f6⟩,⟨c7,f7⟩,⟨L,f8⟩⟩:=mA.out;obtain⟨⟨d0,-⟩,⟨d1,-⟩,⟨d2,-⟩,⟨d3,-⟩⟩:=vB.out;have mF:C≠w.heap.size:=(by omega);have nF:w.heap.size≠C:=(by omega);have e0:∀(args:Array Value) (w:World),(callFunc F args).run Tryz.prog w = .ok (.enter F args) w:=pD.out;go_wp2_with fail;clear c0 c1 c2 c3 c4 c5 c6 c7 L f0 f1 f2 f3 f4 f5 f6 f7 f8 d0 d1 d2 d3 e0;have J:AI (fun k=>k=C) w4 ((((((w4.setCell ⟨C,0,none⟩ (.slice X W.pool.n u)).setCell ⟨C,1,none⟩ (.slice Y W.pool.hn x)).setCell ⟨C,2,none⟩ (.int .i64 W.time)).setCell ⟨C,3,none⟩ (.int .i64 W.next)).setCell ⟨C,4,none⟩ (.slice Z W.sn y)).setCell ⟨C,5,none⟩ (.slice l3 W.pn z)):=AI.put6 w4 C (.slice X W.pool.n u) (.slice Y W.pool.hn x) (.int .i64 W.time) (.int .i64 W.next) (.slice Z W.sn y) (.slice l3 W.pn z);have tA:Bp ((((((w4.setCell ⟨C,0,none⟩ (.slice X W.pool.n u)).setCell ⟨C,1,none⟩ (.slice Y W.pool.hn x)).setCell ⟨C,2,none⟩ (.int .i64 W.time)).setCell ⟨C,3,none⟩ (.int .i64 W.next)).setCell ⟨C,4,none⟩ (.slice Z W.sn y)).setCell ⟨C,5,none⟩ (.slice l3 W.pn z)) C (.slice X W.pool.n u) (.slice Y W.pool.hn x) (.int .i64 W.time) (.int .i64 W.next) (.slice Z W.sn y) (.slice l3 W.pn z) (.int .i64 0) (.int .i64 0) (.nilIface):=Bp.six mA.out (.slice X W.pool.n u) (.slice Y W.pool.hn x) (.int .i64 W.time) (.int .i64 W.next) (.slice Z W.sn y) (.slice l3 W.pn z);have bB:=bC.out.AH J (by omega);have vA:DC ((((((w4.setCell ⟨C,0,none⟩ (.slice X W.pool.n u)).setCell ⟨C,1,none⟩ (.slice Y W.pool.hn x)).setCell ⟨C,2,none⟩ (.int .i64 W.time)).setCell ⟨C,3,none⟩ (.int .i64 W.next)).setCell ⟨C,4,none⟩ (.slice Z W.sn y)).setCell ⟨C,5,none⟩ (.slice l3 W.pn z)) W3.heap.size w4.heap.size (.slice X W.pool.n u) (.slice Y W.pool.hn x) (.slice Z W.sn y) (.slice l3 W.pn z) W:=Ho.out.put6 C (.slice X W.pool.n u) (.slice Y W.pool.hn x) (.int .i64 W.time) (.int .i64 W.next) (.slice Z W.sn y) (.slice l3 W.pn z) (Or.inl (by omega));have sA:=oC.trans (J.A0 (B:=w.heap.size) oC.size (fun k e=>by omega));have lE:=J.size;generalize ((((((w4.setCell ⟨C,0,none⟩ (.slice X W.pool.n u)).setCell ⟨C,1,none⟩ (.slice Y W.pool.hn x)).setCell ⟨C,2,none⟩ (.int .i64 W.time)).setCell ⟨C,3,none⟩ (.int .i64 W.next)).setCell ⟨C,4,none⟩ (.slice Z W.sn y)).setCell ⟨C,5,none⟩ (.slice l3 W.pn z))=W5 at tA bB vA sA lE ⊢;have cC:=AP bB;clear bB J Ho mA bC vB;have R:(¬∃i,i<I/\8000<(tx i).size)/\CF W/\(¬∃i,i<H/\¬BK (nx i))/\(∀j,j<m->Q j):=by
   rcases A.out with⟨_,e⟩ | ⟨_,_,e⟩ | ⟨_,_,_,k,hk,_,_,e⟩ | ⟨h1,h2,h3,h4,e⟩
   ·cases e
   ·cases e
   ·cases e
   ·exact⟨h1,h2,h3,h4⟩
  refine(mD.out C W5 _ _ _ _ (by omega) sA (by omega) R.2.1 R.1 R.2.2.1 R.2.2.2 (vA.wide (by omega) (by omega)) tA).mono ?_;rintro e w6 ⟨⟨ve,rfl⟩,s,cH,eB⟩;have pC:Bp w6 (w.heap.size+1+1) (.slice none 0 0) (.slice none 0 0) (.int .i64 0) (.int .i64 0) (.slice none 0 0) (.slice none 0 0) (.int .i64 0) (.int .i64 0) (.int .i64 0):=by
   obtain⟨r0,r1,r2,r3,r4,r5,r6,r7,r8⟩:=cC.out;have d:w.heap.size+1+1<C:=(by omega);exact⟨r0.under s d,r1.under s d,r2.under s d,r3.under s d,r4.under s d,r5.under s d,r6.under s d,r7.under s d,r8.under s d⟩
  have S:=AP pC;have U:Below w.heap.size w w6:=sA.trans (s.mono (by omega));clear R tA vA cC pC;rcases eB with⟨P,z0,z1,z2,z3,M,aB⟩ | ⟨i,fB,ho,z0,z1,z2,z3,z4,z5,z6,z7,M⟩;rotate_left
  ·have E:=AP M;clear M;obtain⟨-,-,-,-,-,-,-,-,⟨L,-⟩⟩:=E.out;go_wp2_with fail;refine(YH p i fB _ (HE.out.A0 U)).mono ?_;rintro e wz ⟨rfl,O⟩;have N:=A7 U O;have K:=AP (S.out.A0 O);clear L;obtain⟨⟨r0,g0⟩,⟨r1,g1⟩,⟨r2,g2⟩,⟨r3,g3⟩,⟨r4,g4⟩,⟨r5,g5⟩,⟨r6,g6⟩,⟨r7,g7⟩,⟨r8,g8⟩⟩:=K.out;go_wp2_with fail;have b:=K.out.put (.slice none 0 0) (.slice none 0 0) (.int .i64 0) (.int .i64 0) (.slice none 0 0) (.slice none 0 0) (.int .i64 0) (.int .i64 0) (.int .i64 (EB i));have J:=AI.put9 wz (w.heap.size+1+1) (.slice none 0 0) (.slice none 0 0) (.int .i64 0) (.int .i64 0) (.slice none 0 0) (.slice none 0 0) (.int .i64 0) (.int .i64 0) (.int .i64 (EB i));clear r0 r1 r2 r3 r4 r5 r6 r7 r8 g0 g1 g2 g3 g4 g5 g6 g7 g8;refine bodyPost_ret (v:=.agg #[.slice none 0 0,.slice none 0 0,.int .i64 0,.int .i64 0,.slice none 0 0,.slice none 0 0,.int .i64 0,.int .i64 0,.int .i64 (EB i)]) (by simp[results,Tryz.results24,go_sem,b.1.1,b.2.1.1,b.2.2.1.1,b.2.2.2.1.1,b.2.2.2.2.1.1,b.2.2.2.2.2.1.1,b.2.2.2.2.2.2.1.1,b.2.2.2.2.2.2.2.1.1,b.2.2.2.2.2.2.2.2.1]) rfl ⟨none,A.out,?_⟩;show Iw o w _ _;rw[ho];exact⟨_,_,_,_,rfl,TD,N.trans (J.A0 (B:=w.heap.size) N.size (fun k e=>by omega))⟩
  ·have Ho:=AP aB;obtain⟨n0,gB,n1,iB,n2,jB,n3,kB,rfl,rfl,rfl,rfl⟩:=aB.C5;have E:=AP M;have rA:=AP P;clear M aB P;obtain⟨c0,c1,c2,c3,c4,c5,c6,c7,L⟩:=E.out.c;obtain⟨⟨r0,g0⟩,⟨r1,g1⟩,⟨r2,g2⟩,⟨r3,g3⟩,⟨r4,g4⟩,⟨r5,g5⟩,⟨r6,g6⟩,⟨r7,g7⟩,⟨r8,g8⟩⟩:=S.out;have oF:C≠w.heap.size+1+1:=(by omega);have pF:w.heap.size+1+1≠C:=(by omega);go_wp2_with fail;have b:=S.out.put (.slice n0 o.world.pool.n gB) (.slice n1 o.world.pool.hn iB) (.int .i64 o.world.time) (.int .i64 o.world.next) (.slice n2 o.world.sn jB) (.slice n3 o.world.pn kB) (.int .i64 o.id) (.int .i64 o.many) (.int .i64 0);have J:=AI.put9 w6 (w.heap.size+1+1) (.slice n0 o.world.pool.n gB) (.slice n1 o.world.pool.hn iB) (.int .i64 o.world.time) (.int .i64 o.world.next) (.slice n2 o.world.sn jB) (.slice n3 o.world.pn kB) (.int .i64 o.id) (.int .i64 o.many) (.int .i64 0);clear r0 r1 r2 r3 r4 r5 r6 r7 r8 g0 g1 g2 g3 g4 g5 g6 g7 g8 c0 c1 c2 c3 c4 c5 c6 c7 L;refine bodyPost_ret (v:=.agg #[.slice n0 o.world.pool.n gB,.slice n1 o.world.pool.hn iB,.int .i64 o.world.time,.int .i64 o.world.next,.slice n2 o.world.sn jB,.slice n3 o.world.pn kB,.int .i64 o.id,.int .i64 o.many,.int .i64 0]) (by simp[results,Tryz.results24,go_sem,b.1.1,b.2.1.1,b.2.2.1.1,b.2.2.2.1.1,b.2.2.2.2.1.1,b.2.2.2.2.2.1.1,b.2.2.2.2.2.2.1.1,b.2.2.2.2.2.2.2.1.1,b.2.2.2.2.2.2.2.2.1]) rfl ⟨none,A.out,?_⟩;show Iw o w _ _;have gE:=J.size;exact⟨_,_,_,_,by rw[<-rA.out],(Ho.out.AH J (fun k e=>by omega)).wide (by omega) gE,U.trans (J.A0 (B:=w.heap.size) U.size (fun k e=>by omega))⟩
def Cw(w:World)(lb:Array Value)(caps:List Value):Prop:=lb.size=caps.length/\∀(k:Nat) (u:Value),caps[k]?=some u->∃B,lb[k]?=some (.pointer (some ⟨B,0,none⟩))/\w.cell? ⟨B,0,none⟩=some u
variable{lb:Array Value}{caps:List Value}
theorem Cw.A0(h:Cw w lb caps)(t:Below w.heap.size w w'):Cw w' lb caps:=
 ⟨h.1,fun k u c=>by
  obtain⟨B,b,a⟩:=h.2 k u c;exact⟨B,b,(t.cell (AZ a)).trans a⟩⟩
theorem Cw.zero:Cw w #[] []:=⟨rfl,fun k u h=>by simp at h⟩
theorem Cw.one{B:Nat}{u:Value}(h:w.cell? ⟨B,0,none⟩=some u):Cw w #[.pointer (some ⟨B,0,none⟩)] [u]:=
 ⟨rfl,fun k x a=>by
  match k,a with
  | 0,a=>simp at a;subst a;exact⟨B,rfl,h⟩
  | k+1,a=>simp at a⟩
theorem Cw.is0(h:Cw w lb []):lb=#[]:=Array.eq_empty_of_size_eq_zero h.1
theorem Cw.is1{u:Value}(h:Cw w lb [u]):∃B,lb=#[.pointer (some ⟨B,0,none⟩)]/\w.cell? ⟨B,0,none⟩=some u:=by
 obtain⟨B,a,b⟩:=h.2 0 u rfl;refine⟨B,?_,b⟩;have hs:=h.1;obtain⟨l⟩:=lb
 match l,hs,a with
 | [x],_,a=>simp at a;rw[a]
def QAt(w:World)(p:Nat->Addr)(g i:Nat)(caps:List Value)(v:Value):Prop:=∃lb,v = .agg #[.func (.func g) #[] lb,AY (p i)]/\Cw w lb caps
theorem QAt.A0{g:Nat}{v:Value}(h:QAt w p g i caps v)(t:Below w.heap.size w w'):QAt w' p g i caps v:=by
 obtain⟨lb,hv,a⟩:=h;exact⟨lb,hv,a.A0 t⟩
variable{t:TypeId}
theorem Qz{s:ByteArray}{f:Nat->ByteArray}(hs:s.size<=maxLen)(a:f 0=s):E8 (w.alloc (.cells #[.string s] t)) (.slice (some ⟨w.heap.size,0,none⟩) 1 1) 1 f:=by
 refine⟨by omega,_,_,rfl,fun i hi=>?_,fun _=>⟨_,_,rfl,fun i hi=>?_⟩⟩
 ·obtain rfl:i=0:=(by omega);rw[a];exact hs
 ·obtain rfl:i=0:=(by omega);rw[a];exact World.cell?_alloc_at _ _ _ _ rfl
def Hu(w:World)(p:Nat->Addr)(m:Nat)(g ei:Nat->Nat)(caps:Nat->List Value)(v:Value):Prop:=∃lb:Nat->Array Value,It w p v m g lb ei/\∀k,k<m->Cw w (lb k) (caps k)
variable{g ei:Nat->Nat}{caps:Nat->List Value}
theorem Hu.A0{m:Nat}{v:Value}(h:Hu w p m g ei caps v)(t:Below w.heap.size w w'):Hu w' p m g ei caps v:=by
 obtain⟨lb,a,b⟩:=h;exact⟨lb,a.A0 t,fun k c=>(b k c).A0 t⟩
variable{a b:Array Value}
theorem zIK(d:Cw w a (caps 0))(e:Cw w b (caps 1)):Hu (w.alloc (.cells #[.func (.func (g 0)) #[] a,AY (p (ei 0)),.func (.func (g 1)) #[] b,AY (p (ei 1))] t)) p 2 g ei caps (.slice (some ⟨w.heap.size,0,none⟩) 2 2):=by
 have c:=A9 w (.cells #[.func (.func (g 0)) #[] a,AY (p (ei 0)),.func (.func (g 1)) #[] b,AY (p (ei 1))] t);refine⟨(fun i=>match i with | 0=>a | _=>b),⟨by omega,_,_,rfl,fun _=>⟨_,_,rfl,fun i hi=>?_⟩⟩,fun i hi=>?_⟩
 ·rcases(by omega:i=0\/i=1)with rfl | rfl
  all_goals exact⟨World.cell?_alloc_at _ _ _ _ rfl,World.cell?_alloc_at _ _ _ _ rfl⟩
 ·rcases(by omega:i=0\/i=1)with rfl | rfl
  ·exact d.A0 c
  ·exact e.A0 c
theorem zIL{c:Array Value}(e:Cw w a (caps 0))(h:Cw w b (caps 1))(j:Cw w c (caps 2)):Hu (w.alloc (.cells #[.func (.func (g 0)) #[] a,AY (p (ei 0)),.func (.func (g 1)) #[] b,AY (p (ei 1)),.func (.func (g 2)) #[] c,AY (p (ei 2))] t)) p 3 g ei caps (.slice (some ⟨w.heap.size,0,none⟩) 3 3):=by
 have d:=A9 w (.cells #[.func (.func (g 0)) #[] a,AY (p (ei 0)),.func (.func (g 1)) #[] b,AY (p (ei 1)),.func (.func (g 2)) #[] c,AY (p (ei 2))] t);refine⟨(fun i=>match i with | 0=>a | 1=>b | _=>c),⟨by omega,_,_,rfl,fun _=>⟨_,_,rfl,fun i hi=>?_⟩⟩,fun i hi=>?_⟩
 ·rcases(by omega:i=0\/i=1\/i=2)with rfl | rfl | rfl
  all_goals exact⟨World.cell?_alloc_at _ _ _ _ rfl,World.cell?_alloc_at _ _ _ _ rfl⟩
 ·rcases(by omega:i=0\/i=1\/i=2)with rfl | rfl | rfl
  ·exact e.A0 d
  ·exact h.A0 d
  ·exact j.A0 d
end Go.Proofs.YtibhefllijahkaaGreatDoor
