/- A part of the proof. -/
import Derived.Test.YtjganmlaooofoaaGreatDoorF5
set_option linter.unusedVariables false
set_option maxRecDepth 20000
set_option maxHeartbeats 4000000
namespace Go.Proofs.YtjganmlaooofoaaGreatDoor
open Go.RowKit
set_option linter.unusedSimpArgs false
theorem zTk(x:Cv)(ob:List (Nat×Ob)):∃ds,(frz1 ob x).2=puts ob ds/\(∀q∈ds,q.1∈x.ids)/\∀ob2,Agr x.ids ob ob2->frz1 ob2 x=((frz1 ob x).1,puts ob2 ds):=by
 cases x with
 | h r=>
  simp only[frz1];cases hg:rowE ob r with
  | none=>exact⟨[],rfl,by simp,fun ob2 ha=>by rw[zCU (ha r (by simp[Cv.ids])),hg];rfl⟩
  | some o=>exact⟨[(r,.dead)],rfl,by simp[Cv.ids],fun ob2 ha=>by rw[zCU (ha r (by simp[Cv.ids])),hg];rfl⟩
 | _=>exact⟨[],rfl,by simp,fun ob2 ha=>rfl⟩
theorem zIB:∀(l:List Cv) (ob:List (Nat×Ob)),∃ds,(frz l ob).2=puts ob ds/\(∀q∈ds,q.1∈l.flatMap Cv.ids)/\∀ob2,Agr (l.flatMap Cv.ids) ob ob2->frz l ob2=((frz l ob).1,puts ob2 ds)
 | [],ob=>⟨[],rfl,by simp,fun ob2 _=>rfl⟩
 | x :: l,ob=>by
  obtain⟨d1,a1,a2,a3⟩:=zTk x ob;obtain⟨d2,b1,b2,b3⟩:=zIB l (frz1 ob x).2;refine⟨d1 ++ d2,?_,fun q hq=>?_,fun ob2 ha=>?_⟩
  ·simp only[frz,b1,qX];rw[a1]
  ·simp only[List.flatMap_cons,List.mem_append];rcases List.mem_append.1 hq with h | h
   ·exact .inl (a2 q h)
   ·exact .inr (b2 q h)
  ·have h1:=a3 ob2 (ha.sub fun j hj=>by simp[hj]);have h2:=b3 (puts ob2 d1) (a1▸(ha.sub fun j hj=>by simp only[List.flatMap_cons,List.mem_append];exact .inr hj).puts d1);simp only[frz,h1,h2,qX]
theorem zMo:∀(l:List (Nat×List Cv)) (ob:List (Nat×Ob)),∃ds,(zBj l ob).2=puts ob ds/\(∀q∈ds,q.1∈l.flatMap fun p=>p.2.flatMap Cv.ids)/\∀ob2,Agr (l.flatMap fun p=>p.2.flatMap Cv.ids) ob ob2->zBj l ob2=((zBj l ob).1,puts ob2 ds)
 | [],ob=>⟨[],rfl,by simp,fun ob2 _=>rfl⟩
 | x :: l,ob=>by
  obtain⟨d1,a1,a2,a3⟩:=zIB x.2 ob;obtain⟨d2,b1,b2,b3⟩:=zMo l (frz x.2 ob).2;refine⟨d1 ++ d2,?_,fun q hq=>?_,fun ob2 ha=>?_⟩
  ·simp only[zBj,b1,qX];rw[a1]
  ·rw[List.flatMap_cons,List.mem_append];rcases List.mem_append.1 hq with h | h
   ·exact .inl (a2 q h)
   ·exact .inr (b2 q h)
  ·have h1:=a3 ob2 (ha.sub fun j hj=>by rw[List.flatMap_cons,List.mem_append];exact .inl hj);have h2:=b3 (puts ob2 d1) (a1▸(ha.sub fun j hj=>by rw[List.flatMap_cons,List.mem_append];exact .inr hj).puts d1);simp only[zBj,h1,h2,qX]
theorem zLX:∀{ps:List (Nat×Operand)} {l:List Av} {q:List (Nat×List Cv)},partsOf ps l=some q->∀j∈q.flatMap (fun p=>p.2.flatMap Cv.ids),j∈l.flatMap Av.ids
 | [],l,q,h=>by
  cases l with
  | nil=>cases h;simp
  | cons x r=>first | (cases h;done) | (cases h;simp)
 | (i,o) :: ps,[],q,h=>by cases h
 | (i,o) :: ps,.t c :: s,q,h=>by cases h
 | (i,o) :: ps,.m g c :: s,q,h=>by
  simp only[partsOf]at h;split at h
  ·rename_i q' hq'
   cases h;intro j hj;rw[List.flatMap_cons,List.mem_append]at hj ⊢;rcases hj with hj | hj
   ·exact .inl hj
   ·exact .inr (zLX hq' j hj)
  ·cases h
def tkP(ob:List (Nat×Ob))(r:Nat):Cv->Option (Prop×List (Nat×Ob))
 | .e i k a j=>match get ob i,get ob r with
  | some (.row k' n F),none=>match oOf (F a j)with
   | some (kk,m,h)=>if k'=k/\j+1<=k then some (a<n,[(i,.row k n (yN F a j [.s .z kk m h])),(r,.tl kk m h)])else none
   | none=>none
  | _,_=>none
 | _=>none
def stP(d:TyD)(ob:List (Nat×Ob))(l:List Cv):Cv->Option (Prop×List (Nat×Ob))
 | .p i o=>match get ob i with
  | some (.var m)=>if o+d.k<=m.length/\l.length=d.k then some (True,[(i,.var (m.take o ++ l ++ m.drop (o+d.k)))])else none
  | _=>none
 | .e i k a j=>match get ob i,trs l with
  | some (.row k' n f),some ts=>if k'=k/\j+d.k<=k/\l.length=d.k then some (a<n,[(i,.row k n (yN f a j ts))])else none
  | _,_=>none
 | _=>none
def shP(d:TyD)(ob:List (Nat×Ob))(r:Nat):Cv->Option (Prop×List (Nat×Ob))
 | .e i k a j=>match get ob i,rowE ob r with
  | some (.row k' n f),some (kk,m,h)=>if k'=k/\j+1<=k/\d.k=1/\r≠i then some (a<n,[(r,.dead),(i,.row k n (yN f a j [.s .o kk m h]))])else none
  | _,_=>none
 | _=>none
def zR5:Option Nat->List (Nat×Ob)
 | some i=>[(i,.dead)]
 | none=>[]
def apP(de:TyD)(ob:List (Nat×Ob))(r:Nat)(x y:Cv):Option (Prop×List (Nat×Ob)):=
 match get ob r,dstOf de.k ob x,srcOf de.k ob y with
 | none,some (i,n,f),some (C,m,f')=>some (C/\n+m<=1000000000,zR5 i ++ [(r,.row de.k (n+m) (yX f n f'))])
 | _,_,_=>none
def atPE(de:TyD)(ob:List (Nat×Ob))(r:Nat)(x y:Cv):Option (Prop×List (Nat×Ob)):=
 match get ob r,tlOf de.k ob x,srcOf de.k ob y with
 | none,some (i,n,f),some (C,m,f')=>some (C/\n+m<=1000000000,[(i,.dead),(r,.tl de.k (n+m) (yX f n f'))])
 | _,_,_=>none
def amP(de:TyD)(ob:List (Nat×Ob))(r:Nat)(x y:Cv):Option (Prop×List (Nat×Ob)):=
 match get ob r,dstOf de.k ob x,mvOf de.k ob y with
 | none,some (id,n,f),some (C,i,lo,m,N,F)=>if id≠some i then some (C/\n+m<=1000000000,zR5 id ++ [(i,.row de.k N (ntR F lo m)),(r,.row de.k (n+m) (yX f n fun p q=>F (lo+p) q))])else none
 | _,_,_=>none
section
variable {ob ob2 : List (Nat × Ob)} {r : Nat} {x y : Cv} {d de : TyD} {l : List Cv}
theorem zHg:evTake ob r x=(tkP ob r x).map fun q=>(q.1,puts ob q.2):=by
 cases x<;>simp only[evTake,tkP]<;>first | rfl | skip
 rename_i i k a j
 cases get ob i with
 | none=>rfl
 | some o=>
  cases o with
  | row k' n F=>
   cases get ob r with
   | none=>
    dsimp only;cases oOf (F a j)with
    | none=>rfl
    | some q=>dsimp only;split<;>rfl
   | some _=>rfl
  | _=>rfl
theorem zE3:evStore d ob l x=(stP d ob l x).map fun q=>(q.1,puts ob q.2):=by
 cases x<;>simp only[evStore,stP]<;>first | rfl | skip
 ·rename_i i o
  cases get ob i with
  | none=>rfl
  | some q=>cases q<;>first | rfl | (dsimp only;split<;>rfl)
 ·rename_i i k a j
  cases get ob i with
  | none=>rfl
  | some q=>
   cases q with
   | row k' n f=>
    cases trs l with
    | none=>rfl
    | some ts=>dsimp only;split<;>rfl
   | _=>rfl
theorem zIi:evStoreH d ob r x=(shP d ob r x).map fun q=>(q.1,puts ob q.2):=by
 cases x<;>simp only[evStoreH,shP]<;>first | rfl | skip
 rename_i i k a j
 cases get ob i with
 | none=>rfl
 | some q=>
  cases q with
  | row k' n f=>
   cases rowE ob r with
   | none=>rfl
   | some ts=>dsimp only;split<;>rfl
  | _=>rfl
theorem zPO(i:Option Nat):zA7 ob i=puts ob (zR5 i):=by cases i<;>rfl
theorem zIg:evAppend de ob r x y=(apP de ob r x y).map fun q=>(q.1,puts ob q.2):=by
 unfold evAppend apP;cases get ob r with
 | some _=>rfl
 | none=>
  cases dstOf de.k ob x with
  | none=>rfl
  | some q=>
   cases srcOf de.k ob y with
   | none=>rfl
   | some p=>simp only[Option.map_some,qX,<-zPO];rfl
theorem zDw:evAppendT de ob r x y=(atPE de ob r x y).map fun q=>(q.1,puts ob q.2):=by
 unfold evAppendT atPE;cases get ob r with
 | some _=>rfl
 | none=>
  cases tlOf de.k ob x with
  | none=>rfl
  | some q=>
   cases srcOf de.k ob y with
   | none=>rfl
   | some p=>rfl
theorem zFU:evAppendM de ob r x y=(amP de ob r x y).map fun q=>(q.1,puts ob q.2):=by
 unfold evAppendM amP;cases get ob r with
 | some _=>rfl
 | none=>
  cases dstOf de.k ob x with
  | none=>rfl
  | some q=>
   cases mvOf de.k ob y with
   | none=>rfl
   | some p=>
    dsimp only;split
    ·simp only[Option.map_some,qX,<-zPO];rfl
    ·rfl
theorem zPr(h:Agr (x.ids ++ [r]) ob ob2):tkP ob2 r x=tkP ob r x:=by
 cases x<;>simp only[tkP]<;>first | rfl | skip
 rename_i i k a j
 rw[h i (by simp[Cv.ids]),h r (by simp)]
theorem zPp(h:Agr x.ids ob ob2):stP d ob2 l x=stP d ob l x:=by
 cases x<;>simp only[stP]<;>first | rfl | skip
 ·rename_i i o;rw[h i (by simp[Cv.ids])]
 ·rename_i i k a j;rw[h i (by simp[Cv.ids])]
theorem zXZ(h:Agr (x.ids ++ [r]) ob ob2):shP d ob2 r x=shP d ob r x:=by
 cases x<;>simp only[shP]<;>first | rfl | skip
 rename_i i k a j
 rw[h i (by simp[Cv.ids]),zCU (h r (by simp))]
theorem zWL(h:Agr (x.ids ++ y.ids ++ [r]) ob ob2):apP de ob2 r x y=apP de ob r x y:=by
 unfold apP;rw[h r (by simp),zLL (h.sub fun j hj=>by simp[hj]),zLd (h.sub fun j hj=>by simp[hj])]
theorem zOj(h:Agr (x.ids ++ y.ids ++ [r]) ob ob2):atPE de ob2 r x y=atPE de ob r x y:=by
 unfold atPE;rw[h r (by simp),zUe (h.sub fun j hj=>by simp[hj]),zLd (h.sub fun j hj=>by simp[hj])]
theorem zOi(h:Agr (x.ids ++ y.ids ++ [r]) ob ob2):amP de ob2 r x y=amP de ob r x y:=by
 unfold amP;rw[h r (by simp),zLL (h.sub fun j hj=>by simp[hj]),zUJ (h.sub fun j hj=>by simp[hj])]
end
def Sft(ob:List (Nat×Ob))(W S:List Nat)(us:List (Nat×Ob)):Prop:=∀q∈us,q.1∈W\/(q.1∈S/\shp (some q.2)=shp (get ob q.1))
theorem Sft.nil{ob:List (Nat×Ob)}{W S:List Nat}:Sft ob W S []:=fun q hq=>by cases hq
theorem Sft.w{ob:List (Nat×Ob)}{W S:List Nat}{us:List (Nat×Ob)}(h:∀q∈us,q.1∈W):Sft ob W S us:=fun q hq=>.inl (h q hq)
section
variable {ob : List (Nat × Ob)} {r : Nat} {x y : Cv} {d de : TyD} {l : List Cv} {c : Prop} {us : List (Nat × Ob)}
theorem zbk(h:tkP ob r x=some (c,us)):Sft ob [r] (zWV x) us:=by
 cases x<;>simp only[tkP]at h<;>try (cases h;done)
 rename_i i k a j
 split at h
 ·rename_i k' n F hi hr
  split at h
  ·split at h
   ·rename_i hk
    cases h;obtain⟨rfl,-⟩:=hk;intro q hq;rcases List.mem_cons.1 hq with rfl | hq
    ·exact .inr ⟨by simp[zWV],by rw[hi];rfl⟩
    ·rcases List.mem_cons.1 hq with rfl | hq
     ·exact .inl (by simp)
     ·cases hq
   ·cases h
  ·cases h
 ·cases h
theorem zV8(h:stP d ob l x=some (c,us)):∀q∈us,q.1∈x.ids:=by
 cases x<;>simp only[stP]at h<;>try (cases h;done)
 all_goals repeat' split at h
 all_goals first | (cases h;done) | (cases h;simp[Cv.ids])
theorem zbc(h:shP d ob r x=some (c,us)):∀q∈us,q.1∈x.ids ++ [r]:=by
 cases x<;>simp only[shP]at h<;>try (cases h;done)
 repeat' split at h
 all_goals first | (cases h;done) | (cases h;simp[Cv.ids])
theorem zUv{k:Nat}{id:Option Nat}{n:Nat}{f:Nat->Nat->Tr}(h:dstOf k ob x=some (id,n,f)):∀q∈zR5 id,q.1∈x.ids:=by
 unfold dstOf at h
 repeat' split at h
 all_goals first | (cases h;done) | (cases h;simp[zR5,Cv.ids])
theorem zal(h:apP de ob r x y=some (c,us)):∀q∈us,q.1∈x.ids ++ [r]:=by
 unfold apP at h;split at h
 ·rename_i i n f C m f' hr hd hs
  cases h;intro q hq;rcases List.mem_append.1 hq with hq | hq
  ·exact List.mem_append_left _ (zUv hd q hq)
  ·simp at hq;simp[hq]
 ·cases h
theorem zan(h:atPE de ob r x y=some (c,us)):∀q∈us,q.1∈x.ids ++ [r]:=by
 unfold atPE at h;split at h
 ·rename_i i n f C m f' hr hd hs
  cases h;have hi:i∈x.ids:=by
   unfold tlOf at hd
   repeat' split at hd
   all_goals first | (cases hd;done) | (cases hd;simp[Cv.ids])
  intro q hq;rcases List.mem_cons.1 hq with rfl | hq
  ·exact List.mem_append_left _ hi
  ·simp at hq;simp[hq]
 ·cases h
theorem zak(h:amP de ob r x y=some (c,us)):Sft ob (x.ids ++ [r]) y.ids us:=by
 unfold amP at h;split at h
 ·rename_i id n f C i lo m N F hr hd hs
  split at h
  ·cases h;have hi:i∈y.ids/\shp (get ob i)=some (de.k,N):=by
    unfold mvOf at hs;split at hs
    ·split at hs
     ·rename_i hg
      split at hs
      ·rename_i e
       subst e;cases hs;exact⟨by simp[Cv.ids],by rw[hg];rfl⟩
      ·cases hs
     ·cases hs
    ·split at hs
     ·rename_i hg
      split at hs
      ·rename_i e
       obtain⟨rfl,rfl⟩:=e;cases hs;exact⟨by simp[Cv.ids],by rw[hg];rfl⟩
      ·cases hs
     ·cases hs
    ·cases hs
   intro q hq;rcases List.mem_append.1 hq with hq | hq
   ·exact .inl (List.mem_append_left _ (zUv hd q hq))
   ·rcases List.mem_cons.1 hq with rfl | hq
    ·exact .inr ⟨hi.1,hi.2.symm⟩
    ·simp at hq;exact .inl (by simp[hq])
  ·cases h
 ·cases h
end
theorem zI7:∀(l:List Av) (ob:List (Nat×Ob)),∃ds,(zA6 l ob).2=puts ob ds/\(∀q∈ds,q.1∈l.flatMap Av.ids)/\∀ob2,Agr (l.flatMap Av.ids) ob ob2->zA6 l ob2=((zA6 l ob).1,puts ob2 ds)
 | [],ob=>⟨[],rfl,by simp,fun ob2 _=>rfl⟩
 | .t c :: l,ob=>by
  obtain⟨d2,b1,b2,b3⟩:=zI7 l ob;exact⟨d2,b1,fun q hq=>by simp only[List.flatMap_cons,List.mem_append];exact .inr (b2 q hq),fun ob2 ha=>by simp only[zA6,b3 ob2 (ha.sub fun j hj=>by simp only[List.flatMap_cons,List.mem_append];exact .inr hj)]⟩
 | .m g c :: l,ob=>by
  obtain⟨d1,a1,a2,a3⟩:=zIB c ob;obtain⟨d2,b1,b2,b3⟩:=zI7 l (frz c ob).2;refine⟨d1 ++ d2,?_,fun q hq=>?_,fun ob2 ha=>?_⟩
  ·simp only[zA6,b1,qX];rw[a1]
  ·simp only[List.flatMap_cons,List.mem_append];rcases List.mem_append.1 hq with h | h
   ·exact .inl (a2 q h)
   ·exact .inr (b2 q h)
  ·have h1:=a3 ob2 (ha.sub fun j hj=>by rw[List.flatMap_cons,List.mem_append];exact .inl hj);have h2:=b3 (puts ob2 d1) (a1▸(ha.sub fun j hj=>by rw[List.flatMap_cons,List.mem_append];exact .inr hj).puts d1);simp only[zA6,h1,h2,qX]
theorem zI8(keep:Bool)(l:List Av)(ob:List (Nat×Ob)):∃ds,(zAX keep l ob).2=puts ob ds/\(∀q∈ds,q.1∈l.flatMap Av.ids)/\(keep=false->ds = [])/\∀ob2,Agr (l.flatMap Av.ids) ob ob2->zAX keep l ob2=((zAX keep l ob).1,puts ob2 ds):=by
 cases keep with
 | true=>obtain⟨ds,h1,h2,h3⟩:=zI7 l ob;exact⟨ds,h1,h2,fun h=>(by cases h),h3⟩
 | false=>exact⟨[],rfl,by simp,fun _=>rfl,fun ob2 _=>rfl⟩
theorem zU1:∀(c:List Cv) (ob:List (Nat×Ob)),∀j∈(frz c ob).1.flatMap Cv.ids,j∈c.flatMap Cv.ids
 | [],ob,j,hj=>hj
 | x :: c,ob,j,hj=>by
  simp only[frz,List.flatMap_cons,List.mem_append]at hj ⊢;rcases hj with hj | hj
  ·refine .inl ?_;cases x<;>simp only[frz1]at hj<;>first | exact hj | skip
   split at hj
   ·cases hj
   ·exact hj
  ·exact .inr (zU1 c _ j hj)
theorem zMn:∀(l:List Av) (ob:List (Nat×Ob)),∀j∈(zA6 l ob).1.flatMap Av.ids,j∈l.flatMap Av.ids
 | [],ob,j,hj=>hj
 | .t c :: l,ob,j,hj=>by
  simp only[zA6,List.flatMap_cons,List.mem_append]at hj ⊢;exact hj.imp_right fun h=>zMn l _ j h
 | .m g c :: l,ob,j,hj=>by
  simp only[zA6,List.flatMap_cons,List.mem_append]at hj ⊢;rcases hj with hj | hj
  ·exact .inl (zU1 c ob j hj)
  ·exact .inr (zMn l _ j hj)
theorem zMp(keep:Bool)(l:List Av)(ob:List (Nat×Ob)):∀j∈(zAX keep l ob).1.flatMap Av.ids,j∈l.flatMap Av.ids:=by
 cases keep with
 | true=>exact zMn l ob
 | false=>exact fun j h=>h
theorem zEj{d n m:Nat}(h:n+m<=40){j:Nat}(hj:j∈(List.range' n m).map (rid d)):j∈zDg d:=by
 simp only[zDg,List.mem_cons,List.mem_map,List.mem_range'_1,List.mem_range]at *;obtain⟨q,hq,rfl⟩:=hj;exact .inr ⟨q,by omega,rfl⟩
theorem zJt{keep:Bool}{sp:zX}{i:Nat}{ob:List (Nat×Ob)}{r:List Av}{D:Dl}(h:evCall keep sp i ob r=some D) :
  ∃us,D.ob=puts ob us/\(∀q∈us,q.1∈zDg i\/(keep=true/\q.1∈r.flatMap Av.ids))/\∀ob2,Agr (r.flatMap Av.ids ++ zDg i) ob ob2->evCall keep sp i ob2 r=some ⟨D.c,D.av,puts ob2 us,D.nw⟩:=by
 obtain⟨ds,d1,d2,d3,d4⟩:=zI8 keep r ob;have d5:=zMp keep r ob;unfold evCall at h;split at h
 ·rename_i bA has
  split at h
  ·rename_i c rs hrs
   split at h
   ·rename_i ob' hob
    split at h
    ·rename_i ht
     cases h;obtain⟨us,e,hw,hl⟩:=zD1 i rs 0 _ ob' hob;refine⟨ds ++ us,by rw[qX,<-d1];exact e,fun q hq=>?_,fun ob2 ha=>?_⟩
     ·rcases List.mem_append.1 hq with hq | hq
      ·cases keep with
       | true=>exact .inr ⟨rfl,d2 q hq⟩
       | false=>rw[d3 rfl]at hq;cases hq
      ·exact .inl (zEj (by omega) (hw q hq))
     ·have h1:=d4 ob2 (ha.sub fun j hj=>List.mem_append_left _ hj);have aA:∀L,(∀j∈L,j∈r.flatMap Av.ids ++ zDg i)->Agr L (zAX keep r ob).2 (puts ob2 ds):=fun L hL=>by
       rw[d1];exact Agr.puts (ha.sub hL) ds
      have h2:=zFq (keep:=keep) (l:=(zAX keep r ob).1) (aA _ fun j hj=>List.mem_append_left _ (d5 j hj));have h3:=hl (puts ob2 ds) (aA _ fun j hj=>List.mem_append_right _ (zEj (by omega) hj));simp only at h3;unfold evCall;simp only[h1,h2,has,hrs,h3,if_pos ht,qX]
    ·cases h
   ·cases h
  ·cases h
 ·cases h
theorem zOL{sp:zX}{i:Nat}{ob:List (Nat×Ob)}{r:List Av}{D:Dl}(h:evCallN sp i ob r=some D) :
  ∃us,D.ob=puts ob us/\(∀q∈us,q.1∈r.flatMap Av.ids ++ zDg i)/\∀ob2,Agr (r.flatMap Av.ids ++ zDg i) ob ob2->evCallN sp i ob2 r=some ⟨D.c,D.av,puts ob2 us,D.nw⟩:=by
 obtain⟨ds,d1,d2,d3,d4⟩:=zI8 true r ob;have d5:=zMp true r ob;unfold evCallN at h;split at h
 ·rename_i dA has
  split at h
  ·rename_i c v0 hrs
   split at h
   ·rename_i ob' hob
    split at h
    ·rename_i cA
     split at h
     ·rename_i ht
      cases h;obtain⟨us,e,hw,hl⟩:=zD1 i [(true,v0)] 1 _ ob' hob;have bA:tot [(true,v0)]=v0.length:=(by simp[tot]);rw[bA]at hw hl;refine⟨ds ++ us ++ [(i,.var (qK i 1 v0))],by rw[qX,qX,<-d1,<-e];rfl,fun q hq=>?_,fun ob2 ha=>?_⟩
      ·rcases List.mem_append.1 hq with hq | hq
       ·rcases List.mem_append.1 hq with hq | hq
        ·exact List.mem_append_left _ (d2 q hq)
        ·exact List.mem_append_right _ (zEj (by omega) (hw q hq))
       ·simp at hq;simp[hq,zDg]
      ·have h1:=d4 ob2 (ha.sub fun j hj=>List.mem_append_left _ hj);have aA:∀L,(∀j∈L,j∈r.flatMap Av.ids ++ zDg i)->Agr L (zAX true r ob).2 (puts ob2 ds):=fun L hL=>by
        rw[d1];exact Agr.puts (ha.sub hL) ds
       have h2:=zFq (keep:=true) (l:=(zAX true r ob).1) (aA _ fun j hj=>List.mem_append_left _ (d5 j hj));have h3:=hl (puts ob2 ds) (aA _ fun j hj=>List.mem_append_right _ (zEj (by omega) hj));simp only at h3;have h4:get (puts (puts ob2 ds) us) i=none:=by
        rw[<-cA,e];exact Agr.puts (aA [i] fun j hj=>by simp at hj;simp[hj,zDg]) us i (by simp)
       unfold evCallN;simp only[h1,h2,has,hrs,h3,h4,if_pos ht,qX];rfl
     ·cases h
    ·cases h
   ·cases h
  ·cases h
 ·cases h
theorem zCX:∀{pm:List (Nat×Nat)} {ob:List (Nat×Ob)},qu ob pm=puts ob (pm.map fun p=>(p.1,.dead))
 | [],ob=>rfl
 | p :: l,ob=>by simp only[qu];rw[zCX];rfl
theorem zWa:∀(l:List Av) (ob:List (Nat×Ob)) (i:Nat) (cl:List Cv),get (zA6 l ob).2 i=some (.var cl)->get ob i=some (.var cl):=by
 have h1:∀(x:Cv) (ob:List (Nat×Ob)) (i:Nat) (cl:List Cv),get (frz1 ob x).2 i=some (.var cl)->get ob i=some (.var cl):=fun x ob i cl h=>by
  cases x<;>simp only[frz1]at h<;>first | exact h | skip
  split at h
  ·rw[ze]at h;split at h
   ·cases h
   ·exact h
  ·exact h
 have h2:∀(c:List Cv) (ob:List (Nat×Ob)) (i:Nat) (cl:List Cv),get (frz c ob).2 i=some (.var cl)->get ob i=some (.var cl):=by
  intro c
  induction c with
  | nil=>intro ob i cl h;exact h
  | cons x c ih=>intro ob i cl h;simp only[frz]at h;exact h1 x ob i cl (ih _ i cl h)
 intro l
 induction l with
 | nil=>intro ob i cl h;exact h
 | cons x l ih=>
  intro ob i cl h;cases x with
  | m g c=>simp only[zA6]at h;exact h2 c ob i cl (ih _ i cl h)
  | t c=>simp only[zA6]at h;exact ih _ i cl h
theorem zL6:∀{l:List Cv} {n:Nat},∀p∈pmC n l,p.1∈l.flatMap Cv.ids
 | [],n,p,hp=>by cases hp
 | x :: l,n,p,hp=>by
  rw[List.flatMap_cons,List.mem_append];cases x with
  | h r=>
   rcases List.mem_cons.1 hp with rfl | hp
   ·exact .inl (by simp[Cv.ids])
   ·exact .inr (zL6 p hp)
  | _=>exact .inr (zL6 p hp)
theorem zIh{keep:Bool}{sp:zX}{d i:Nat}{ob:List (Nat×Ob)}{r:List Av}{D:Dl}(h:evCallP keep sp d i ob r=some D)(L:List Nat)(hL:L=(.m false [.p i 0] :: r).flatMap Av.ids ++ deep ob (.m false [.p i 0] :: r) ++ zDg d) :
  ∃us,D.ob=puts ob us/\(∀q∈us,q.1∈L)/\∀ob2,Agr L ob ob2->evCallP keep sp d i ob2 r=some ⟨D.c,D.av,puts ob2 us,D.nw⟩:=by
 obtain⟨ds,d1,d2,d3,d4⟩:=zI8 keep r ob;have d5:=zMp keep r ob;have bA:i∈L:=by rw[hL];simp[Av.ids,Cv.ids]
 have cA:∀j∈r.flatMap Av.ids,j∈L:=fun j hj=>by
  rw[hL,List.mem_append,List.mem_append,List.flatMap_cons,List.mem_append];exact .inl (.inl (.inr hj))
 have fA:∀j∈zDg d,j∈L:=fun j hj=>by rw[hL];exact List.mem_append_right _ hj
 unfold evCallP at h;split at h
 ·rename_i cl hi
  have gA:get ob i=some (.var cl):=by
   cases keep with
   | true=>exact zWa r ob i cl hi
   | false=>exact hi
  have eA:∀j∈cl.flatMap Cv.ids,j∈L:=fun j hj=>by
   rw[hL];refine List.mem_append_left _ (List.mem_append_right _ ?_);simp only[deep,gA];exact hj
  split at h
  ·rename_i vs ags hvs has
   split at h
   ·rename_i iA
    split at h
    ·rename_i c v0 rs hsp
     split at h
     ·rename_i ob' hob
      split at h
      ·rename_i ht
       cases h;obtain⟨us,e,hw,hl⟩:=zD1 d ((true,v0) :: rs) 1 _ ob' hob;refine⟨ds ++ (((i,0) :: pmC 0 cl).map fun p=>(p.1,.dead)) ++ us ++ [(i,.var (qK d 1 v0))],?_,fun q hq=>?_,fun ob2 ha=>?_⟩
       ·rw[qX,qX,qX,<-d1,<-zCX,<-e];rfl
       ·rcases List.mem_append.1 hq with hq | hq
        ·rcases List.mem_append.1 hq with hq | hq
         ·rcases List.mem_append.1 hq with hq | hq
          ·exact cA _ (d2 q hq)
          ·obtain⟨p,hp,rfl⟩:=List.mem_map.1 hq;rcases List.mem_cons.1 hp with rfl | hp
           ·exact bA
           ·exact eA _ (zL6 p hp)
         ·exact fA _ (zEj (by omega) (hw q hq))
        ·simp at hq;rw[hq];exact bA
       ·have h1:=d4 ob2 (ha.sub cA);have dA:∀M,(∀j∈M,j∈L)->Agr M (zAX keep r ob).2 (puts ob2 ds):=fun M hM=>by
         rw[d1];exact Agr.puts (ha.sub hM) ds
        have aA:∀M,(∀j∈M,j∈L)->Agr M (qu (zAX keep r ob).2 ((i,0) :: pmC 0 cl)) (qu (puts ob2 ds) ((i,0) :: pmC 0 cl)):=fun M hM=>by
         rw[zCX,zCX];exact Agr.puts (dA M hM) _
        have h0:get (puts ob2 ds) i=some (.var cl):=(by rw[<-hi];exact dA [i] (fun j hj=>by simp at hj;rw[hj];exact bA) i (by simp));have h2:=zFq (keep:=keep) (l:=(zAX keep r ob).1) (aA _ fun j hj=>cA _ (d5 j hj));have h3:=hl _ (aA _ fun j hj=>fA _ (zEj (by omega) hj));have h4:=zJR (dA _ eA);simp only at h3;unfold evCallP;simp only[h1,h0,h4,hvs,h2,has,if_pos iA,hsp,h3,if_pos ht];simp only[qX,zCX];rfl
      ·cases h
     ·cases h
    ·cases h
   ·cases h
  ·cases h
 ·cases h
theorem zOM{sp:zX}{d:Nat}{ob:List (Nat×Ob)}{r:List Av}{D:Dl}(h:evCallO sp d ob r=some D) :
  ∃us,D.ob=puts ob us/\(∀q∈us,q.1∈r.flatMap Av.ids ++ zDg d)/\∀ob2,Agr (r.flatMap Av.ids ++ zDg d) ob ob2->evCallO sp d ob2 r=some ⟨D.c,D.av,puts ob2 us,D.nw⟩:=by
 unfold evCallO at h;split at h
 ·rename_i l cl hul
  have hr:=zLE hul;have dA:∀j∈l.flatMap Av.ids,j∈r.flatMap Av.ids ++ zDg d:=fun j hj=>by rw[hr];simp only[List.flatMap_append,List.mem_append];exact .inl (.inl hj)
  have bA:∀j∈cl.flatMap Cv.ids,j∈r.flatMap Av.ids ++ zDg d:=fun j hj=>by rw[hr];simp only[List.flatMap_append,List.mem_append,List.flatMap_cons,List.flatMap_nil,List.append_nil];exact .inl (.inr hj)
  have cA:∀j∈zDg d,j∈r.flatMap Av.ids ++ zDg d:=fun j hj=>List.mem_append_right _ hj
  generalize r.flatMap Av.ids ++ zDg d=L at *;split at h
  ·rename_i vs ags hvs has
   split at h
   ·rename_i eA
    split at h
    ·rename_i c rs hsp
     split at h
     ·rename_i ob' hob
      split at h
      ·rename_i ht
       cases h;obtain⟨us,e,hw,hl⟩:=zD1 d rs 0 _ ob' hob;refine⟨((pmC 0 cl).map fun p=>(p.1,.dead)) ++ us,?_,fun q hq=>?_,fun ob2 ha=>?_⟩
       ·rw[qX,<-zCX,<-e]
       ·rcases List.mem_append.1 hq with hq | hq
        ·obtain⟨p,hp,rfl⟩:=List.mem_map.1 hq;exact bA _ (zL6 p hp)
        ·exact cA _ (zEj (by omega) (hw q hq))
       ·have aA:∀M,(∀j∈M,j∈L)->Agr M (qu ob (pmC 0 cl)) (qu ob2 (pmC 0 cl)):=fun M hM=>by
         rw[zCX,zCX];exact Agr.puts (ha.sub hM) _
        have h2:=zFq (keep:=false) (l:=l) (aA _ dA);have h3:=hl _ (aA _ fun j hj=>cA _ (zEj (by omega) hj));have h4:=zJR (ha.sub bA);unfold evCallO;simp only[hul,h4,hvs,h2,has,if_pos eA,hsp,h3,if_pos ht];simp only[qX,zCX]
      ·cases h
     ·cases h
    ·cases h
   ·cases h
  ·cases h
 ·cases h
theorem zMb{T:Tb}{Γ : List (Nat×zX)}{dst:Option Nat}{ob:List (Nat×Ob)}{op:Op}{l:List Av}{D:Dl}(h:zA1 T Γ dst ob op l=some D) :
  ∃us,D.ob=puts ob us/\Sft ob (tks T Γ ob op dst l).wr (tks T Γ ob op dst l).sw us/\∀ob2,zaa (tks T Γ ob op dst l).tc (tks T Γ ob op dst l).sh ob ob2->zA1 T Γ dst ob2 op l=some ⟨D.c,D.av,puts ob2 us,D.nw⟩:=by
 cases op with
 | move x=>
  simp only[zA1,coreU]at h ⊢;split at h
  ·cases h;exact⟨[],rfl,Sft.nil,fun ob2 _=>rfl⟩
  ·cases h
 | assign x=>
  simp only[zA1,coreU]at h ⊢;split at h
  ·cases h;exact⟨[],rfl,Sft.nil,fun ob2 _=>rfl⟩
  ·cases h
 | nilCheck x=>
  simp only[zA1,coreU]at h ⊢;split at h
  ·cases h;exact⟨[],rfl,Sft.nil,fun ob2 _=>rfl⟩
  ·cases h
 | unOp u t x=>
  cases u<;>simp only[zA1,coreU]at h ⊢<;>try (cases h;done)
  split at h
  ·cases h;exact⟨[],rfl,Sft.nil,fun ob2 _=>rfl⟩
  ·cases h
 | binOp o t x y yt=>
  simp only[zA1,coreU]at h ⊢;split at h
  ·split at h
   ·rename_i hq;cases h;exact⟨[],rfl,Sft.nil,fun ob2 _=>by simp only[hq];rfl⟩
   ·cases h
  ·cases h
 | alloc t=>
  simp only[zA1,coreU]at h ⊢;split at h
  ·rename_i d i hd
   split at h
   ·rename_i ob' hob
    cases h;unfold evAlloc at hob;split at hob
    ·rename_i hi
     cases hob;refine⟨[(i,.var (d.z.map .v))],rfl,Sft.w (by simp[tks]),fun ob2 ha=>?_⟩;have:=ha.1 i (by simp[tks]);simp only[hd,evAlloc,this,hi];rfl
    ·cases hob
   ·cases h
  ·cases h
 | box t x=>
  simp only[zA1,coreU]at h ⊢;split at h
  ·rename_i g c i
   split at h
   ·rename_i ob' hob
    cases h;unfold zAn at hob;split at hob
    ·rename_i hi
     cases hob;refine⟨[(i,.var c)],rfl,Sft.w (by simp[tks]),fun ob2 ha=>?_⟩;have:=ha.1 i (by simp[tks]);simp only[zAn,this,hi];rfl
    ·cases hob
   ·cases h
  ·cases h
 | load t x=>
  simp only[zA1,coreU]at h ⊢;split at h
  ·rename_i x' d hd
   unfold evLd at h;split at h
   ·rename_i q hq
    cases h;rw[Option.bind_eq_some_iff]at hq;obtain⟨i,hi,hq⟩:=hq;split at hi
    ·rename_i ht
     subst hi;rw[zHg,Option.map_eq_some_iff]at hq;obtain⟨p,hp,rfl⟩:=hq;have e:tks T Γ ob (.load t x) (some i) [.m false [x']]=⟨x'.ids ++ [rid i 0],[],[rid i 0],zWV x'⟩:=(by simp[tks,ht.1,Av.ids,hdC]);rw[e];refine⟨p.2,rfl,zbk hp,fun ob2 ha=>?_⟩;simp only[hd];unfold evLd;rw[if_pos ht];simp only[Option.bind_some,zHg,zPr ha.1,hp,Option.map_some]
    ·cases hi
   ·rename_i hq
    split at h
    ·rename_i q dA
     cases h;refine⟨[],rfl,Sft.nil,fun ob2 ha=>?_⟩;simp only[hd];unfold evLd;have eA:Agr x'.ids ob ob2:=by
      refine ha.1.sub fun j hj=>?_
      cases dst with
      | none=>simp[tks,Av.ids,hj]
      | some i=>by_cases ht:t=T.tk<;>simp[tks,ht,Av.ids,hj]
     have hn:((if t=T.tk/\d.k=1/\d.g=false then dst else none).bind fun i=>evTake ob2 (rid i 0) x')=none:=by
      by_cases ht:t=T.tk/\d.k=1/\d.g=false
      ·rw[if_pos ht]at hq ⊢;cases dst with
       | none=>rfl
       | some i=>
        simp only[Option.bind_some,zHg,Option.map_eq_none_iff]at hq ⊢;rw[zPr (ob:=ob) (ob2:=ob2) (ha.1.sub fun j hj=>by simpa[tks,ht.1,Av.ids]using hj)];exact hq
      ·rw[if_neg ht];rfl
     rw[hn];simp only[zQM eA,dA];rfl
    ·cases h
  ·cases h
 | store t x y=>
  simp only[zA1,coreU]at h ⊢;split at h
  ·rename_i x' g c d hd
   split at h
   ·rename_i q hq
    cases h;have e:tks T Γ ob (.store t x y) none [.m false [x'],.m g c]=⟨x'.ids ++ c.flatMap Cv.ids,[],x'.ids ++ c.flatMap Cv.ids,[]⟩:=(by simp[tks,Av.ids]);rw[e];have pA:∃us,q.2=puts ob us/\(∀p∈us,p.1∈x'.ids ++ c.flatMap Cv.ids)/\∀ob2,Agr (x'.ids ++ c.flatMap Cv.ids) ob ob2->evSt d ob2 c x'=some (q.1,puts ob2 us):=by
     unfold evSt at hq ⊢;split at hq
     ·rename_i r i k a j
      rw[zIi,Option.map_eq_some_iff]at hq;obtain⟨p,hp,rfl⟩:=hq;exact⟨p.2,rfl,fun z hz=>by simpa[Cv.ids]using zbc hp z hz,fun ob2 ha=>by rw[zIi,zXZ (ha.sub fun j hj=>by simpa[Cv.ids]using hj),hp];rfl⟩
     ·rename_i i k a j oA
      obtain⟨ds,d1,d2,d3⟩:=zIB c ob;rw[zE3,Option.map_eq_some_iff]at hq;obtain⟨p,hp,rfl⟩:=hq;refine⟨ds ++ p.2,by rw[qX,<-d1],fun z hz=>(List.mem_append.1 hz).elim (fun h=>List.mem_append_right _ (d2 z h)) fun h=>List.mem_append_left _ (zV8 hp z h),fun ob2 ha=>?_⟩;rw[d3 ob2 (ha.sub fun j hj=>List.mem_append_right _ hj),zE3,zPp (ob:=(frz c ob).2) (by rw[d1];exact Agr.puts (ha.sub fun j hj=>List.mem_append_left _ hj) ds),hp,qX];rfl
     ·rename_i oA hne'
      rw[zE3,Option.map_eq_some_iff]at hq;obtain⟨p,hp,rfl⟩:=hq;refine⟨p.2,rfl,fun z hz=>List.mem_append_left _ (zV8 hp z hz),fun ob2 ha=>?_⟩;rw[zE3,zPp (ha.sub fun j hj=>List.mem_append_left _ hj),hp];rfl
    obtain⟨us,h1,h2,h3⟩:=pA;refine⟨us,h1,Sft.w h2,fun ob2 ha=>?_⟩;simp only[hd,h3 ob2 ha.1]
   ·cases h
  ·cases h
 | fieldAddr t x f=>
  simp only[zA1,coreU]at h ⊢;split at h
  ·rename_i x' d hd
   split at h
   ·rename_i q i o hq;cases h;exact⟨[],rfl,Sft.nil,fun ob2 _=>by simp only[hd,hq];rfl⟩
   ·rename_i q i k a j hq;cases h;exact⟨[],rfl,Sft.nil,fun ob2 _=>by simp only[hd,hq];rfl⟩
   ·rename_i q fl k n g a j hq;cases h;exact⟨[],rfl,Sft.nil,fun ob2 _=>by simp only[hd,hq];rfl⟩
   ·cases h
  ·cases h
 | indexAddr t x ix=>
  simp only[zA1,coreU]at h ⊢;split at h
  ·rename_i x' K ixx d hd
   split at h
   ·rename_i de fl k n g hde
    split at h
    ·rename_i hk;cases h;exact⟨[],rfl,Sft.nil,fun ob2 _=>by simp only[hd,hde,if_pos hk];rfl⟩
    ·cases h
   ·rename_i de i hde
    split at h
    ·rename_i k n g hi
     split at h
     ·rename_i hk
      cases h;refine⟨[],rfl,Sft.nil,fun ob2 ha=>?_⟩;have:=ha.1 i (by simp[tks,Av.ids,Cv.ids]);simp only[hd,hde,this,hi,if_pos hk];rfl
     ·cases h
    ·cases h
   ·cases h
  ·cases h
 | index t x ix=>
  simp only[zA1,coreU]at h ⊢;split at h
  ·split at h
   ·rename_i ht;cases h;exact⟨[],rfl,Sft.nil,fun ob2 _=>by simp only[if_pos ht];rfl⟩
   ·cases h
  ·cases h
 | extract x ix=>
  simp only[zA1,coreU]at h ⊢;split at h
  ·split at h
   ·rename_i hr;cases h;exact⟨[],rfl,Sft.nil,fun ob2 _=>by simp only[hr];rfl⟩
   ·cases h
  ·cases h
 | build t ps=>
  simp only[zA1,coreU]at h ⊢;split at h
  ·rename_i d q hd hq
   split at h
   ·rename_i c hcc
    split at h
    ·cases h
    ·rename_i oA;cases h;exact⟨[],rfl,Sft.nil,fun ob2 _=>by simp only[hd,hq,hcc,if_neg oA];rfl⟩
   ·cases h
  ·cases h
 | buildSlice t n ps=>
  simp only[zA1,coreU]at h ⊢;split at h
  ·rename_i d q i hd hq
   split at h
   ·rename_i de hde
    split at h
    ·rename_i ob' hob
     split at h
     ·cases h
     ·rename_i bA
      cases h;obtain⟨ds,e1,e2,e3⟩:=zMo q ob;have eA:=zLX hq;unfold zU evBuildSlice at hob;split at hob
      ·rename_i ts hi hb
       split at hob
       ·rename_i rA
        cases hob;refine⟨ds ++ [(rid i 0,.row de.k n (fun p q=>ts.getD (p*de.k+q) (.v (.bool false))))],by simp only[e1,qX];rfl,Sft.w fun x hx=>?_,fun ob2 ha=>?_⟩
        ·rcases List.mem_append.1 hx with h1 | h1
         ·exact List.mem_append_left _ (eA _ (e2 _ h1))
         ·simp at h1;simp[tks,h1]
        ·have e4:=e3 ob2 (ha.1.sub fun j hj=>List.mem_append_left _ (eA _ hj));have h5:get (puts ob2 ds) (rid i 0)=none:=by
          rw[<-hi,e1];exact(ha.1.puts ds) (rid i 0) (by simp[tks])
         simp only[hd,hq,hde,zU,evBuildSlice,e4,h5,hb,if_pos rA,if_neg bA,qX];rfl
       ·cases hob
      ·cases hob
    ·cases h
   ·cases h
  ·cases h
 | slice t x lo hi mx=>
  cases mx with
  | some _=>simp only[zA1,coreU]at h;cases h
  | none=>
   simp only[zA1,coreU]at h ⊢;split at h
   ·rename_i d hd
    split at h
    ·rename_i de hde
     split at h
     ·rename_i q hq
      split at h
      ·cases h
      ·rename_i bA
       cases h;refine⟨[],rfl,Sft.nil,fun ob2 ha=>?_⟩;have e:evSlice ob2 de.k lo hi l=evSlice ob de.k lo hi l:=by
        unfold evSlice;split
        ·rfl
        ·rename_i i K ix
         rw[ha.2 i (by simp[tks,Av.ids,Cv.ids])]
        ·rfl
       simp only[hd,hde,e,hq,if_neg bA];rfl
     ·cases h
    ·cases h
   ·cases h
 | makeSlice t x y=>
  simp only[zA1,coreU]at h ⊢;split at h
  ·rename_i K1 x' K2 y' d i hd
   split at h
   ·rename_i de hde
    split at h
    ·rename_i ob' hob
     split at h
     ·cases h
     ·rename_i bA
      cases h;unfold evMakeSlice at hob;split at hob
      ·rename_i hi
       cases hob;refine⟨[(rid i 0,.row de.k x'.toNat (fun _ q=>.v (de.z.getD q (.bool false))))],rfl,Sft.w (by simp[tks]),fun ob2 ha=>?_⟩;have:=ha.1 (rid i 0) (by simp[tks]);simp only[hd,hde,evMakeSlice,this,hi,if_neg bA];rfl
      ·cases hob
    ·cases h
   ·cases h
  ·cases h
 | call c=>
  obtain⟨callee,args,mA⟩:=c;cases callee with
  | invoke r m=>simp only[zA1,coreU]at h;cases h
  | value f=>
   cases f with
   | func f=>
    simp only[zA1,coreU]at h ⊢;split at h
    ·rename_i x r i
     unfold evC at h;split at h
     ·rename_i hf
      split at h
      ·rename_i sp fA
       have e:tks T Γ ob (.call ⟨.value (.func f),args,mA⟩) (some i) (x :: r)=⟨r.flatMap Av.ids ++ zDg i,[],zDg i,[]⟩:=(by simp[tks,zVC,fA]);rw[e];obtain⟨us,h1,h2,h3⟩:=zJt h;refine⟨us,h1,Sft.w fun q hq=>(h2 q hq).elim id (fun h=>by cases h.1),fun ob2 ha=>?_⟩;simp only[evC,if_pos hf,fA];exact h3 ob2 ha.1
      ·rename_i fA
       have e:tks T Γ ob (.call ⟨.value (.func f),args,mA⟩) (some i) (x :: r)=⟨r.flatMap Av.ids ++ deep ob r ++ zDg i,[],r.flatMap Av.ids ++ deep ob r ++ zDg i,[]⟩:=(by simp[tks,zVC,fA]);rw[e];have jA:∀ob2,Agr (r.flatMap Av.ids ++ deep ob r ++ zDg i) ob ob2->Agr (r.flatMap Av.ids ++ zDg i) ob ob2:=fun ob2 ha=>ha.sub fun j hj=>by
        rcases List.mem_append.1 hj with h | h
        ·exact List.mem_append_left _ (List.mem_append_left _ h)
        ·exact List.mem_append_right _ h
       have nA:∀j,j∈r.flatMap Av.ids ++ zDg i->j∈r.flatMap Av.ids ++ deep ob r ++ zDg i:=fun j hj=>by
        rcases List.mem_append.1 hj with h | h
        ·exact List.mem_append_left _ (List.mem_append_left _ h)
        ·exact List.mem_append_right _ h
       split at h
       ·rename_i sp aA
        obtain⟨us,h1,h2,h3⟩:=zJt h;refine⟨us,h1,Sft.w fun q hq=>nA _ ((h2 q hq).elim (fun h=>List.mem_append_right _ h) (fun h=>List.mem_append_left _ h.2)),fun ob2 ha=>?_⟩;simp only[evC,if_pos hf,fA,aA];exact h3 ob2 (jA ob2 ha.1)
       ·rename_i aA
        split at h
        ·rename_i sp cA
         obtain⟨us,h1,h2,h3⟩:=zOL h;refine⟨us,h1,Sft.w fun q hq=>nA _ (h2 q hq),fun ob2 ha=>?_⟩;simp only[evC,if_pos hf,fA,aA,cA];exact h3 ob2 (jA ob2 ha.1)
        ·rename_i cA
         split at h
         ·rename_i sp gA
          obtain⟨us,h1,h2,h3⟩:=zOM h;refine⟨us,h1,Sft.w fun q hq=>nA _ (h2 q hq),fun ob2 ha=>?_⟩;simp only[evC,if_pos hf,fA,aA,cA,gA];exact h3 ob2 (jA ob2 ha.1)
         ·rename_i gA
          split at h
          ·rename_i j r'
           split at h
           ·rename_i sp iA
            obtain⟨us,h1,h2,h3⟩:=zIh h _ rfl;refine⟨us,h1,Sft.w h2,fun ob2 ha=>?_⟩;simp only[evC,if_pos hf,fA,aA,cA,gA,iA];exact h3 ob2 ha.1
           ·rename_i iA
            split at h
            ·rename_i sp hsp4
             obtain⟨us,h1,h2,h3⟩:=zIh h _ rfl;refine⟨us,h1,Sft.w h2,fun ob2 ha=>?_⟩;simp only[evC,if_pos hf,fA,aA,cA,gA,iA,hsp4];exact h3 ob2 ha.1
            ·cases h
          ·cases h
     ·cases h
    ·cases h
   | _=>simp only[zA1,coreU]at h;cases h
  | builtin b=>
   cases b<;>simp only[zA1,coreU]at h ⊢<;>try (cases h;done)
   case len=>
    split at h
    ·split at h
     ·rename_i ht;cases h;exact⟨[],rfl,Sft.nil,fun ob2 _=>by simp only[if_pos ht];rfl⟩
     ·cases h
    ·rename_i x' hx'
     split at h
     ·rename_i t ht
      split at h
      ·rename_i d n hd hn
       split at h
       ·cases h
       ·rename_i bA
        cases h;refine⟨[],rfl,Sft.nil,fun ob2 ha=>?_⟩;have h1:=zRi (ob:=ob) (ob':=ob2) (x:=x') (ha.1.sub fun j hj=>by simp[tks,Av.ids,hj]);simp only[hd,h1,hn,if_neg bA];rfl
      ·cases h
     ·cases h
    ·cases h
   case append=>
    split at h
    ·rename_i x' y' t t' i ht
     split at h
     ·rename_i d hd
      split at h
      ·rename_i de hde
       split at h
       ·rename_i q hq
        split at h
        ·rename_i bA
         cases h;have e:tks T Γ ob (.call ⟨.builtin .append,args,mA⟩) (some i) [.m false [x'],.m false [y']]=⟨x'.ids ++ y'.ids ++ [rid i 0],[],x'.ids ++ [rid i 0],if mA.toList = [T.mv,T.mv] then y'.ids else []⟩:=(by simp[tks,hdC,zdK]);rw[e];unfold zAe at hq;split at hq
         ·rename_i q' dA
          cases hq;split at dA
          ·rename_i kA
           rw[zFU,Option.map_eq_some_iff]at dA;obtain⟨p,hp,rfl⟩:=dA;refine⟨p.2,rfl,?_,fun ob2 ha=>?_⟩
           ·have:mA.toList = [T.mv,T.mv]:=(by rw[ht,bA.1,kA]);rw[if_pos this];exact zak hp
           ·simp only[hd,hde];unfold zAe;simp only[if_pos kA,zFU,zOi ha.1,hp,Option.map_some];rw[if_pos bA]
          ·cases dA
         ·rename_i dA
          have hn:∀ob2,Agr (x'.ids ++ y'.ids ++ [rid i 0]) ob ob2->(if t=T.mv then evAppendM de ob2 (rid i 0) x' y' else none)=none:=fun ob2 ha=>by
           by_cases kA:t=T.mv
           ·rw[if_pos kA]at dA ⊢;rw[zFU,Option.map_eq_none_iff]at dA ⊢;rw[zOi ha];exact dA
           ·rw[if_neg kA]
          split at hq
          ·rename_i q' lA
           cases hq;rw[zDw,Option.map_eq_some_iff]at lA;obtain⟨p,hp,rfl⟩:=lA;refine⟨p.2,rfl,Sft.w (zan hp),fun ob2 ha=>?_⟩;simp only[hd,hde];unfold zAe;rw[hn ob2 ha.1];simp only[zDw,zOj ha.1,hp,Option.map_some];rw[if_pos bA]
          ·rename_i lA
           rw[zIg,Option.map_eq_some_iff]at hq;obtain⟨p,hp,rfl⟩:=hq;refine⟨p.2,rfl,Sft.w (zal hp),fun ob2 ha=>?_⟩;simp only[hd,hde];unfold zAe;rw[hn ob2 ha.1];rw[zDw,Option.map_eq_none_iff]at lA;simp only[zDw,zOj ha.1,lA,Option.map_none,zIg,zWL ha.1,hp,Option.map_some];rw[if_pos bA]
        ·cases h
       ·cases h
      ·cases h
     ·cases h
    ·cases h
 | field t x f=>
  simp only[zA1,coreU]at h ⊢;split at h
  ·rename_i c d hd
   split at h
   ·rename_i av hav;cases h;exact⟨[],rfl,Sft.nil,fun ob2 _=>by simp only[hd,hav];rfl⟩
   ·cases h
  ·cases h
 | convert src t x=>
  simp only[zA1,coreU]at h ⊢;split at h
  ·rename_i x'
   split at h
   ·rename_i q hq
    cases h;refine⟨[],rfl,Sft.nil,fun ob2 ha=>?_⟩;have e:evConv T src t ob2 x'=evConv T src t ob x':=by
     unfold evConv;split
     ·rfl
     ·rename_i i
      rw[zCU (ha.1 i (by simp[tks,Av.ids,Cv.ids]))]
     ·rfl
    simp only[e,hq];rfl
   ·cases h
  ·cases h
 | _=>simp only[zA1,coreU]at h;cases h
theorem zLD{T:Tb}{Γ : List (Nat×zX)}{dst:Option Nat}{ob ob2:List (Nat×Ob)}{op:Op}{l:List Av}(h:Agr (tks T Γ ob op dst l).tc ob ob2):tks T Γ ob2 op dst l=tks T Γ ob op dst l:=by
 unfold tks at h ⊢;split<;>try rfl
 rename_i f args tys d
 cases hq:zVC Γ f with
 | true=>simp
 | false=>
  simp only[hq]at h ⊢;have hd:deep ob2 (l.drop 1)=deep ob (l.drop 1):=by
   cases hl:l.drop 1 with
   | nil=>rfl
   | cons x r=>
    rw[hl]at h;unfold deep;split
    ·rename_i j r' e
     cases e;rw[h j (by simp[Av.ids,Cv.ids])]
    ·rfl
  rw[hd]
def opdC:Value->Option (Bool×Av)
 | .agg cs=>if cs.toList.all Value.oneCell' then some (true,.m true (cs.toList.map .v))else none
 | .tuple _=>none
 | v=>some (true,.m false [.v v])
def opd(S:St):Operand->Option (Bool×Av)
 | .tmp t=>get S.tm t
 | .const v=>opdC v
 | .func f=>some (true,.m false [.v (.func (.func f) #[] #[])])
 | .global _=>none
def opds(S:St):List Operand->Option (List (Bool×Av))
 | []=>some []
 | x :: r=>match opd S x,opds S r with
  | some q,some l=>some (q :: l)
  | _,_=>none
def gtmp(ops:Array Oper)(o:Oper):Option (Option Nat×Bool):=
 match o.guard with
 | none=>none
 | some (j,want)=>match (ops[j]?).bind (·.dst)with
  | some t=>some (some t,want)
  | none=>some (none,want)
def kap(S:St):Option (Option Nat×Bool)->Option Bool
 | none=>some true
 | some (none,_)=>none
 | some (some t,want)=>match get S.tm t with
  | some (cg,.m false [.v (.bool b)])=>some (cg && (b == want))
  | _=>none
def zAS(κ : Bool):List (Bool×Av)->Prop
 | []=>True
 | q :: r=>(κ = true->q.1=true)/\zAS κ r
def obK(κ : Bool)(ob:List (Nat×Ob))(D:Dl):List (Nat×Ob):=bif κ || !D.nw then D.ob else ob
def stp0(N:Nat)(T:Tb)(Γ : List (Nat×zX))(gt:Option (Option Nat×Bool))(S:St)(op:Op)(dst:Option Nat):Option (Prop×St):=
 match kap S gt,opds S op.operands.toList with
 | some κ,some l=>match zA1 T Γ dst S.ob op (l.map (·.2))with
  | some D=>match dst,D.av with
   | some d,some av=>if d<N then some (zAS κ l/\(κ = true->D.c),⟨put S.tm d (κ,av),obK κ S.ob D⟩)else none
   | none,none=>if gt.isSome then none else some (zAS κ l/\(κ = true->D.c),⟨S.tm,D.ob⟩)
   | _,_=>none
  | none=>match κ,dst with -- a step that is not taken,and hangs on others that are not
   | false,some d=>if d<N then some (True,⟨put S.tm d (false,.m false [.v (.bool false)]),S.ob⟩)else none
   | _,_=>none
 | _,_=>none
def stpP(N:Nat)(gt:Option (Option Nat×Bool))(S:St)(c a b:Operand)(dst:Option Nat):Option (Prop×St):=
 match kap S gt,opd S c,opd S a,opd S b,dst with
 | some κ,some (cc,.m false [.v (.bool bc)]),some (ca,.m false [.v (.bool x)]),some (cb,.m false [.v (.bool y)]),some d=>
  if d<N then some ((κ = true->cc=true)/\(κ = true->bc=true->ca=true)/\(κ = true->bc=false->cb=true),⟨put S.tm d (κ,.m false [.v (.bool (bif bc then x else y))]),S.ob⟩)else none
 | _,_,_,_,_=>none
def stp(N:Nat)(T:Tb)(Γ : List (Nat×zX))(ops:Array Oper)(S:St)(o:Oper):Option (Prop×St):=
 match o.op with
 | .pick c a b=>stpP N (gtmp ops o) S c a b o.dst
 | op=>stp0 N T Γ (gtmp ops o) S op o.dst
theorem zbU{v:Value}{q:Bool×Av}(h:opdC v=some q){w:World}{E:En}{D:Nat->Prop}:q.1=true/\AvR w E D q.2 v:=by
 unfold opdC at h;split at h
 ·rename_i cs
  split at h
  ·rename_i hc
   cases h;exact⟨rfl,cs.toList,by simp,zJn _ hc⟩
  ·cases h
 ·cases h
 ·rename_i h1 h2
  cases h;refine⟨rfl,av1 ⟨rfl,?_⟩⟩;cases v<;>first | rfl | (exact absurd rfl (h1 _)) | (exact absurd rfl (h2 _))
section
variable {w0 : World} {g0 : Gh} {N : Nat} {S : St} {a : Act} {w : World} {E : En}
theorem zNb(h:zLm w0 g0 N S a w E){x:Operand}{q:Bool×Av}(hq:opd S x=some q):(q.1=true->AvR w E (dom S.ob) q.2 (a.eval x)):=by
 cases x with
 | tmp t=>exact(h.tm t q.1 q.2 hq).1
 | const v=>exact fun _=>(zbU hq).2
 | func f=>cases hq;exact fun _=>av1 ⟨rfl,rfl⟩
 | global g=>cases hq
theorem zVr(h:zLm w0 g0 N S a w E){κ : Bool}(hκ : κ = true):∀{xs:List Operand} {l:List (Bool×Av)},opds S xs=some l->zAS κ l->qE (fun x av=>AvR w E (dom S.ob) av (a.eval x)) xs (l.map (·.2))
 | [],l,hl,hs=>by cases hl;exact .nil
 | x :: r,l,hl,hs=>by
  simp only[opds]at hl;split at hl
  ·rename_i q l' h1 h2
   cases hl;exact .cons (zNb h h1 (hs.1 hκ)) (zVr h hκ h2 hs.2)
  ·cases hl
theorem zWb{a:Act}{t:Nat}{b:Bool}(h:a.tmps.getD t undef = .bool b):a.tmps[t]?=some (.bool b):=by
 rw[Array.getD_eq_getD_getElem?]at h;cases e:a.tmps[t]? with
 | none=>rw[e]at h;cases h
 | some v=>rw[e]at h;simp at h;rw[h]
theorem zTs(h:zLm w0 g0 N S a w E){aA:Array Oper}{o:Oper}{κ : Bool}(hk:kap S (gtmp aA o)=some κ):Region.wanted o (yielded aA a.tmps) = κ:=by
 unfold gtmp at hk;unfold Region.wanted;split at hk
 ·rename_i hg
  cases hk;rw[hg]
 ·rename_i j want hg
  rw[hg];split at hk
  ·rename_i t ht
   simp only[kap]at hk;split at hk
   ·rename_i cg b hget
    cases hk;obtain⟨h1,h2⟩:=h.tm t _ _ hget;cases cg with
    | true=>
     have h3:=(vl1 (h1 rfl)).1;have h4:=zWb h3;simp only[yielded,ht,Option.bind_some,h4,Bool.true_and];cases b<;>cases want<;>rfl
    | false=>
     have h3:=h2 rfl;simp only[yielded,ht,Option.bind_some,Bool.false_and];rw[Array.getD_eq_getD_getElem?]at h3;cases e:a.tmps[t]? with
     | none=>rfl
     | some v=>rw[e]at h3;simp at h3;rw[h3];rfl
   ·cases hk
  ·cases hk
end
def zPz(P:Program)(Γ : List (Nat×zX))(w0:World)(g0:Gh):Prop:=∀w g,Kp w0 g0.g w g->zB5 P Γ w
section
variable {P : Program} {T : Tb} {Γ : List (Nat × zX)} {w0 : World} {g0 : Gh} {N : Nat} {S S' : St} {a : Act} {w : World} {ops : Array Oper} {i : Nat} {o : Oper} {c : Prop} {Q : Exit -> Act -> World -> Prop}
theorem zbf(hT:zF4 P T)(hΓ : zPz P Γ w0 g0)(h:Rel w0 g0 N S a w)(hi:ops[i]?=some o)(aA:stp0 N T Γ (gtmp ops o) S o.op o.dst=some (c,S'))(hc:c):wpOp P ops Q i (Rel w0 g0 N S') a w:=by
 obtain⟨E,h⟩:=h;unfold stp0 at aA;split at aA
 ·rename_i κ l hk hl
  split at aA
  ·rename_i D hD
   have hw:=zTs h hk;unfold wpOp;simp only[hi];rw[hw];cases κ with
   | true=>
    refine .inl ?_;have hs:zAS true l/\D.c:=by
     split at aA
     ·split at aA
      ·cases aA;exact⟨hc.1,hc.2 rfl⟩
      ·cases aA
     ·split at aA
      ·cases aA
      ·cases aA;exact⟨hc.1,hc.2 rfl⟩
     ·cases aA
    refine Oper.wp_mono ?_ (zau hT (hΓ _ _ h.kp) h.ob (zVr h rfl hl hs.1) hD hs.2);rintro a' w' ⟨y,E',rfl,h1,h2,h3,h4⟩;split at aA
    ·rename_i d av hd hav
     split at aA
     ·rename_i bA
      cases aA;rw[hd];exact⟨E',h.next h1 h2 h3 bA (fun _=>h4 av hav) (fun e=>by cases e)⟩
     ·cases aA
    ·rename_i hd hav
     split at aA
     ·cases aA
     ·cases aA;rw[hd];exact⟨E',h.quiet h1 h2 h3⟩
    ·cases aA
   | false=>
    simp only[Bool.false_eq_true,if_false];have cA:(gtmp ops o).isSome=true:=by
     cases hgt:gtmp ops o with
     | none=>rw[hgt]at hk;cases hk
     | some q=>rfl
    have dA:obK false S.ob D=S.ob:=by
     unfold obK;cases hn:D.nw with
     | false=>exact zWQ hD hn
     | true=>rfl
    split at aA
    ·rename_i d av hd hav
     split at aA
     ·rename_i bA
      cases aA;rw[hd,dA];exact⟨E,h.next (ql.refl _ _ _) (fun _ h=>h) h.ob bA (fun e=>by cases e) (fun _=>rfl)⟩
     ·cases aA
    ·rw[cA]at aA;cases aA
    ·cases aA
  ·split at aA
   ·rename_i d hd
    split at aA
    ·rename_i bA
     cases aA;have hw:=zTs h hk;unfold wpOp;simp only[hi];rw[hw];simp only[Bool.false_eq_true,if_false];rw[hd];exact⟨E,h.next (ql.refl _ _ _) (fun _ h=>h) h.ob bA (fun e=>by cases e) (fun _=>rfl)⟩
    ·cases aA
   ·cases aA
 ·cases aA
theorem zbg{x y z:Operand}(h:Rel w0 g0 N S a w)(hi:ops[i]?=some o)(ho:o.op = .pick x y z)(aA:stpP N (gtmp ops o) S x y z o.dst=some (c,S'))(hc:c):wpOp P ops Q i (Rel w0 g0 N S') a w:=by
 obtain⟨E,h⟩:=h;unfold stpP at aA;split at aA
 ·rename_i κ cc bc ca p cb q d hk hx hy hz hd
  split at aA
  ·rename_i bA
   cases aA;have hw:=zTs h hk;unfold wpOp;simp only[hi];rw[hw];cases κ with
   | true=>
    refine .inl ?_;have h1:=(vl1 (zNb h hx (hc.1 rfl))).1;unfold Oper.wp execOp;simp only[ho,h1,asBool,Sem.run_bind,Sem.run_pure,Result.andThen_ok,Oper.upon_value,hd];refine⟨E,h.next (ql.refl _ _ _) (fun _ h=>h) h.ob bA (fun _=>av1 ⟨?_,rfl⟩) (fun e=>by cases e)⟩;cases bc with
    | true=>exact(vl1 (zNb h hy (hc.2.1 rfl rfl))).1
    | false=>exact(vl1 (zNb h hz (hc.2.2 rfl rfl))).1
   | false=>
    simp only[Bool.false_eq_true,if_false];rw[hd];exact⟨E,h.next (ql.refl _ _ _) (fun _ h=>h) h.ob bA (fun e=>by cases e) (fun _=>rfl)⟩
  ·cases aA
 ·cases aA
theorem zaP(hT:zF4 P T)(hΓ : zPz P Γ w0 g0)(h:Rel w0 g0 N S a w)(hi:ops[i]?=some o)(aA:stp N T Γ ops S o=some (c,S'))(hc:c):wpOp P ops Q i (Rel w0 g0 N S') a w:=by
 unfold stp at aA;split at aA
 ·rename_i x y z ho
  exact zbg h hi ho aA hc
 ·exact zbf hT hΓ h hi aA hc
def runL(N:Nat)(T:Tb)(Γ : List (Nat×zX))(ops:Array Oper):List Oper->St->(St->Prop)->Prop
 | [],S,K=>K S
 | o :: r,S,K=>match stp N T Γ ops S o with
  | some (c,S')=>c/\runL N T Γ ops r S' K
  | none=>False
theorem zV1(hT:zF4 P T)(hΓ : zPz P Γ w0 g0):∀{l:List Nat} {os:List Oper} {S:St} {K:St->Prop} {a:Act} {w:World},l.map (ops[·]?)=os.map some->Rel w0 g0 N S a w->runL N T Γ ops os S K->
  wpOps P ops (fun e a w=>match e with | .normal=>∃S,K S/\Rel w0 g0 N S a w | e=>Q e a w) l a w
 | [],os,S,K,a,w,hl,h,hr=>by
  cases os with
  | nil=>exact⟨S,hr,h⟩
  | cons _ _=>simp at hl
 | i :: l,os,S,K,a,w,hl,h,hr=>by
  cases os with
  | nil=>simp at hl
  | cons o r=>
   simp only[List.map_cons,List.cons.injEq]at hl;simp only[runL]at hr;split at hr
   ·rename_i c S' hst
    rw[wpOps_cons];exact wpOp_mono (fun a w h=>zV1 hT hΓ hl.2 h hr.2) (zaP hT hΓ h hl.1 hst hr.1)
   ·exact hr.elim
def fgt{α : Type}(n:Nat):List (Nat×α)->List (Nat×α)
 | []=>[]
 | (e,x) :: r=>if e<n then(e,x) :: fgt n r else fgt n r
theorem zQS{α : Type}{n d:Nat}{x:α}:∀{l:List (Nat×α)},get (fgt n l) d=some x->get l d=some x
 | [],h=>by cases h
 | (e,y) :: r,h=>by
  simp only[fgt]at h;split at h
  ·simp only[get]at h ⊢;split at h
   ·rename_i he;rw[if_pos he];exact h
   ·rename_i he;rw[if_neg he];exact zQS h
  ·rename_i hn
   have:=zQS h;simp only[get];by_cases he:e=d
   ·exfalso;subst he;have aA:∀l:List (Nat×α),get (fgt n l) e=none:=by
     intro l
     induction l with
     | nil=>rfl
     | cons q l ih=>
      obtain⟨f,z⟩:=q;simp only[fgt];split
      ·simp only[get];rw[if_neg (by omega)];exact ih
      ·exact ih
    rw[aA]at h;cases h
   ·rw[if_neg he];exact this
theorem Rel.fgt(h:Rel w0 g0 N S a w)(n:Nat):Rel w0 g0 N ⟨fgt n S.tm,S.ob⟩ a w:=by
 obtain⟨E,h⟩:=h;exact⟨E,h.kp,fun d c av hg=>h.tm d c av (zQS hg),h.ob,h.df,h.sz,h.b0⟩
theorem zXK(hT:zF4 P T)(hΓ : zPz P Γ w0 g0){id:Nat}{n:Nat}{K:St->Prop}(h:Rel w0 g0 N S a w)(hr:runL N T Γ ops ops.toList ⟨fgt n S.tm,S.ob⟩ K) :
  (Code.region id ops false).wp P (fun e a w=>match e with | .normal=>∃S,K S/\Rel w0 g0 N S a w | e=>Q e a w) a w:=by
 refine wp_region ?_;refine zV1 hT hΓ ?_ (h.fgt n) hr;apply List.ext_getElem?;intro j;simp only[List.getElem?_map,List.getElem?_range'];by_cases hj:j<ops.size
 ·simp[hj]
 ·simp[hj]
end
end Go.Proofs.YtjganmlaooofoaaGreatDoor
