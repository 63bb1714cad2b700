/- A part of the proof. -/
import Derived.Test.YtddigaohmfpepaaGreatDoorF3
import Derived.Orders
set_option linter.unusedVariables false
set_option maxRecDepth 20000
set_option maxHeartbeats 4000000
namespace Go.Proofs.YtddigaohmfpepaaGreatDoor
open Go.RowKit
set_option linter.unusedSimpArgs false
theorem zAc(x:Cv)(ob:List (Nat×Ob)):∃b,(frz1 ob x).2=puts ob b/\(∀q∈b,q.1∈x.ids)/\∀ob2,Agr x.ids ob ob2->frz1 ob2 x=((frz1 ob x).1,puts ob2 b):=by
 cases x with
 | h r=>
  simp only[frz1];cases hg:rowE ob r with
  | none=>exact⟨[],rfl,by simp,fun ob2 a=>by rw[J3 (a r (by simp[Cv.ids])),hg];rfl⟩
  | some o=>exact⟨[(r,.dead)],rfl,by simp[Cv.ids],fun ob2 a=>by rw[J3 (a r (by simp[Cv.ids])),hg];rfl⟩
 | _=>exact⟨[],rfl,by simp,fun ob2 a=>rfl⟩
theorem OE:∀(l:List Cv) (ob:List (Nat×Ob)),∃b,(frz l ob).2=puts ob b/\(∀q∈b,q.1∈l.flatMap Cv.ids)/\∀ob2,Agr (l.flatMap Cv.ids) ob ob2->frz l ob2=((frz l ob).1,puts ob2 b)
 | [],ob=>⟨[],rfl,by simp,fun ob2 _=>rfl⟩
 | x :: l,ob=>by
  obtain⟨a,d,f,g⟩:=zAc x ob;obtain⟨n,i,k,m⟩:=OE l (frz1 ob x).2;refine⟨a ++ n,?_,fun q r=>?_,fun ob2 e=>?_⟩
  ·simp only[frz,i,D3];rw[d]
  ·simp only[List.flatMap_cons,List.mem_append];rcases List.mem_append.1 r with h | h
   ·exact .inl (f q h)
   ·exact .inr (k q h)
  ·have o:=g ob2 (e.sub fun j c=>by simp[c]);have p:=m (puts ob2 a) (d▸(e.sub fun j c=>by simp only[List.flatMap_cons,List.mem_append];exact .inr c).puts a);simp only[frz,o,p,D3]
theorem Y9:∀(l:List (Nat×List Cv)) (ob:List (Nat×Ob)),∃b,(Ek l ob).2=puts ob b/\(∀q∈b,q.1∈l.flatMap fun p=>p.2.flatMap Cv.ids)/\∀ob2,Agr (l.flatMap fun p=>p.2.flatMap Cv.ids) ob ob2->Ek l ob2=((Ek l ob).1,puts ob2 b)
 | [],ob=>⟨[],rfl,by simp,fun ob2 _=>rfl⟩
 | x :: l,ob=>by
  obtain⟨a,d,f,g⟩:=OE x.2 ob;obtain⟨n,i,k,m⟩:=Y9 l (frz x.2 ob).2;refine⟨a ++ n,?_,fun q s=>?_,fun ob2 e=>?_⟩
  ·simp only[Ek,i,D3];rw[d]
  ·rw[List.flatMap_cons,List.mem_append];rcases List.mem_append.1 s with h | h
   ·exact .inl (f q h)
   ·exact .inr (k q h)
  ·have o:=g ob2 (e.sub fun j c=>by rw[List.flatMap_cons,List.mem_append];exact .inl c);have r:=m (puts ob2 a) (d▸(e.sub fun j c=>by rw[List.flatMap_cons,List.mem_append];exact .inr c).puts a);simp only[Ek,o,r,D3]
theorem YW:∀{ps:List (Nat×Operand)} {l:List Av} {q:List (Nat×List Cv)},partsOf ps l=some q->∀j∈q.flatMap (fun p=>p.2.flatMap Cv.ids),j∈l.flatMap Av.ids
 | [],l,q,h=>by
  cases l with
  | nil=>cases h;simp
  | cons x r=>first | (cases h;done) | (cases h;simp)
 | (i,o) :: ps,[],q,h=>by cases h
 | (i,o) :: ps,.t c :: s,q,h=>by cases h
 | (i,o) :: ps,.m g c :: s,q,h=>by
  simp only[partsOf]at h;split at h
  ·rename_i b hq'
   cases h;intro j a;rw[List.flatMap_cons,List.mem_append]at a ⊢;rcases a with a | a
   ·exact .inl a
   ·exact .inr (YW hq' j a)
  ·cases h
def tkP(ob:List (Nat×Ob))(r:Nat):Cv->Option (Prop×List (Nat×Ob))
 | .e i k a j=>match get ob i,get ob r with
  | some (.row k' n F),none=>match oOf (F a j)with
   | some (kk,m,h)=>if k'=k/\j+1<=k then some (a<n,[(i,.row k n (Ae F a j [.s .z kk m h])),(r,.tl kk m h)])else none
   | none=>none
  | _,_=>none
 | _=>none
def stP(d:TyD)(ob:List (Nat×Ob))(l:List Cv):Cv->Option (Prop×List (Nat×Ob))
 | .p i o=>match get ob i with
  | some (.var m)=>if o+d.k<=m.length/\l.length=d.k then some (True,[(i,.var (m.take o ++ l ++ m.drop (o+d.k)))])else none
  | _=>none
 | .e i k a j=>match get ob i,trs l with
  | some (.row k' n f),some ts=>if k'=k/\j+d.k<=k/\l.length=d.k then some (a<n,[(i,.row k n (Ae f a j ts))])else none
  | _,_=>none
 | _=>none
def shP(d:TyD)(ob:List (Nat×Ob))(r:Nat):Cv->Option (Prop×List (Nat×Ob))
 | .e i k a j=>match get ob i,rowE ob r with
  | some (.row k' n f),some (kk,m,h)=>if k'=k/\j+1<=k/\d.k=1/\r≠i then some (a<n,[(r,.dead),(i,.row k n (Ae f a j [.s .o kk m h]))])else none
  | _,_=>none
 | _=>none
def LD:Option Nat->List (Nat×Ob)
 | some i=>[(i,.dead)]
 | none=>[]
def apP(de:TyD)(ob:List (Nat×Ob))(r:Nat)(x y:Cv):Option (Prop×List (Nat×Ob)):=
 match get ob r,dstOf de.k ob x,srcOf de.k ob y with
 | none,some (i,n,f),some (C,m,f')=>some (C/\n+m<=1000000000,LD i ++ [(r,.row de.k (n+m) (Ai f n f'))])
 | _,_,_=>none
def atPE(de:TyD)(ob:List (Nat×Ob))(r:Nat)(x y:Cv):Option (Prop×List (Nat×Ob)):=
 match get ob r,tlOf de.k ob x,srcOf de.k ob y with
 | none,some (i,n,f),some (C,m,f')=>some (C/\n+m<=1000000000,[(i,.dead),(r,.tl de.k (n+m) (Ai f n f'))])
 | _,_,_=>none
def amP(de:TyD)(ob:List (Nat×Ob))(r:Nat)(x y:Cv):Option (Prop×List (Nat×Ob)):=
 match get ob r,dstOf de.k ob x,mvOf de.k ob y with
 | none,some (id,n,f),some (C,i,lo,m,N,F)=>if id≠some i then some (C/\n+m<=1000000000,LD id ++ [(i,.row de.k N (ntR F lo m)),(r,.row de.k (n+m) (Ai f n fun p q=>F (lo+p) q))])else none
 | _,_,_=>none
section
variable {ob ob2 : List (Nat × Ob)} {r : Nat} {x y : Cv} {d de : TyD} {l : List Cv}
theorem Rc:evTake ob r x=(tkP ob r x).map fun q=>(q.1,puts ob q.2):=by
 cases x<;>simp only[evTake,tkP]<;>first | rfl | skip
 rename_i i k a j
 cases get ob i with
 | none=>rfl
 | some o=>
  cases o with
  | row k' n F=>
   cases get ob r with
   | none=>
    dsimp only;cases oOf (F a j)with
    | none=>rfl
    | some q=>dsimp only;split<;>rfl
   | some _=>rfl
  | _=>rfl
theorem Oo:evStore d ob l x=(stP d ob l x).map fun q=>(q.1,puts ob q.2):=by
 cases x<;>simp only[evStore,stP]<;>first | rfl | skip
 ·rename_i i o
  cases get ob i with
  | none=>rfl
  | some q=>cases q<;>first | rfl | (dsimp only;split<;>rfl)
 ·rename_i i k a j
  cases get ob i with
  | none=>rfl
  | some q=>
   cases q with
   | row k' n f=>
    cases trs l with
    | none=>rfl
    | some ts=>dsimp only;split<;>rfl
   | _=>rfl
theorem ZE:evStoreH d ob r x=(shP d ob r x).map fun q=>(q.1,puts ob q.2):=by
 cases x<;>simp only[evStoreH,shP]<;>first | rfl | skip
 rename_i i k a j
 cases get ob i with
 | none=>rfl
 | some q=>
  cases q with
  | row k' n f=>
   cases rowE ob r with
   | none=>rfl
   | some ts=>dsimp only;split<;>rfl
  | _=>rfl
theorem X2(i:Option Nat):DQ ob i=puts ob (LD i):=by cases i<;>rfl
theorem ZC:evAppend de ob r x y=(apP de ob r x y).map fun q=>(q.1,puts ob q.2):=by
 unfold evAppend apP;cases get ob r with
 | some _=>rfl
 | none=>
  cases dstOf de.k ob x with
  | none=>rfl
  | some q=>
   cases srcOf de.k ob y with
   | none=>rfl
   | some p=>simp only[Option.map_some,D3,<-X2];rfl
theorem P1:evAppendT de ob r x y=(atPE de ob r x y).map fun q=>(q.1,puts ob q.2):=by
 unfold evAppendT atPE;cases get ob r with
 | some _=>rfl
 | none=>
  cases tlOf de.k ob x with
  | none=>rfl
  | some q=>
   cases srcOf de.k ob y with
   | none=>rfl
   | some p=>rfl
theorem Rm:evAppendM de ob r x y=(amP de ob r x y).map fun q=>(q.1,puts ob q.2):=by
 unfold evAppendM amP;cases get ob r with
 | some _=>rfl
 | none=>
  cases dstOf de.k ob x with
  | none=>rfl
  | some q=>
   cases mvOf de.k ob y with
   | none=>rfl
   | some p=>
    dsimp only;split
    ·simp only[Option.map_some,D3,<-X2];rfl
    ·rfl
theorem Vs(h:Agr (x.ids ++ [r]) ob ob2):tkP ob2 r x=tkP ob r x:=by
 cases x<;>simp only[tkP]<;>first | rfl | skip
 rename_i i k a j
 rw[h i (by simp[Cv.ids]),h r (by simp)]
theorem Vn(h:Agr x.ids ob ob2):stP d ob2 l x=stP d ob l x:=by
 cases x<;>simp only[stP]<;>first | rfl | skip
 ·rename_i i o;rw[h i (by simp[Cv.ids])]
 ·rename_i i k a j;rw[h i (by simp[Cv.ids])]
theorem zDH(h:Agr (x.ids ++ [r]) ob ob2):shP d ob2 r x=shP d ob r x:=by
 cases x<;>simp only[shP]<;>first | rfl | skip
 rename_i i k a j
 rw[h i (by simp[Cv.ids]),J3 (h r (by simp))]
theorem zW(h:Agr (x.ids ++ y.ids ++ [r]) ob ob2):apP de ob2 r x y=apP de ob r x y:=by
 unfold apP;rw[h r (by simp),Yh (h.sub fun j a=>by simp[a]),Yc (h.sub fun j a=>by simp[a])]
theorem XD(h:Agr (x.ids ++ y.ids ++ [r]) ob ob2):atPE de ob2 r x y=atPE de ob r x y:=by
 unfold atPE;rw[h r (by simp),zA7 (h.sub fun j a=>by simp[a]),Yc (h.sub fun j a=>by simp[a])]
theorem XA(h:Agr (x.ids ++ y.ids ++ [r]) ob ob2):amP de ob2 r x y=amP de ob r x y:=by
 unfold amP;rw[h r (by simp),Yh (h.sub fun j a=>by simp[a]),zAI (h.sub fun j a=>by simp[a])]
end
def Sft(ob:List (Nat×Ob))(W S:List Nat)(us:List (Nat×Ob)):Prop:=∀q∈us,q.1∈W\/(q.1∈S/\shp (some q.2)=shp (get ob q.1))
variable{ob:List (Nat×Ob)}{W S:List Nat}
theorem Sft.nil:Sft ob W S []:=fun q a=>by cases a
variable{us:List (Nat×Ob)}
theorem Sft.w(h:∀q∈us,q.1∈W):Sft ob W S us:=fun q a=>.inl (h q a)
section
variable {ob : List (Nat × Ob)} {r : Nat} {x y : Cv} {d de : TyD} {l : List Cv} {c : Prop} {us : List (Nat × Ob)}
theorem zHV(h:tkP ob r x=some (c,us)):Sft ob [r] (K4 x) us:=by
 cases x<;>simp only[tkP]at h<;>try (cases h;done)
 rename_i i k a j
 split at h
 ·rename_i e n F hi hr
  split at h
  ·split at h
   ·rename_i d
    cases h;obtain⟨rfl,-⟩:=d;intro q b;rcases List.mem_cons.1 b with rfl | b
    ·exact .inr ⟨by simp[K4],by rw[hi];rfl⟩
    ·rcases List.mem_cons.1 b with rfl | b
     ·exact .inl (by simp)
     ·cases b
   ·cases h
  ·cases h
 ·cases h
theorem Sd(h:stP d ob l x=some (c,us)):∀q∈us,q.1∈x.ids:=by
 cases x<;>simp only[stP]at h<;>try (cases h;done)
 all_goals repeat' split at h
 all_goals first | (cases h;done) | (cases h;simp[Cv.ids])
theorem zHJ(h:shP d ob r x=some (c,us)):∀q∈us,q.1∈x.ids ++ [r]:=by
 cases x<;>simp only[shP]at h<;>try (cases h;done)
 repeat' split at h
 all_goals first | (cases h;done) | (cases h;simp[Cv.ids])
theorem Tf{k:Nat}{id:Option Nat}{n:Nat}{f:Nat->Nat->Tr}(h:dstOf k ob x=some (id,n,f)):∀q∈LD id,q.1∈x.ids:=by
 unfold dstOf at h
 repeat' split at h
 all_goals first | (cases h;done) | (cases h;simp[LD,Cv.ids])
theorem zGb(h:apP de ob r x y=some (c,us)):∀q∈us,q.1∈x.ids ++ [r]:=by
 unfold apP at h;split at h
 ·rename_i i n f C m f' hr hd hs
  cases h;intro q a;rcases List.mem_append.1 a with a | a
  ·exact List.mem_append_left _ (Tf hd q a)
  ·simp at a;simp[a]
 ·cases h
theorem zGd(h:atPE de ob r x y=some (c,us)):∀q∈us,q.1∈x.ids ++ [r]:=by
 unfold atPE at h;split at h
 ·rename_i i n f C m f' hr hd hs
  cases h;have hi:i∈x.ids:=by
   unfold tlOf at hd
   repeat' split at hd
   all_goals first | (cases hd;done) | (cases hd;simp[Cv.ids])
  intro q a;rcases List.mem_cons.1 a with rfl | a
  ·exact List.mem_append_left _ hi
  ·simp at a;simp[a]
 ·cases h
theorem zGa(h:amP de ob r x y=some (c,us)):Sft ob (x.ids ++ [r]) y.ids us:=by
 unfold amP at h;split at h
 ·rename_i id n f C i lo m N F hr hd hs
  split at h
  ·cases h;have hi:i∈y.ids/\shp (get ob i)=some (de.k,N):=by
    unfold mvOf at hs;split at hs
    ·split at hs
     ·rename_i b
      split at hs
      ·rename_i e
       subst e;cases hs;exact⟨by simp[Cv.ids],by rw[b];rfl⟩
      ·cases hs
     ·cases hs
    ·split at hs
     ·rename_i b
      split at hs
      ·rename_i e
       obtain⟨rfl,rfl⟩:=e;cases hs;exact⟨by simp[Cv.ids],by rw[b];rfl⟩
      ·cases hs
     ·cases hs
    ·cases hs
   intro q a;rcases List.mem_append.1 a with a | a
   ·exact .inl (List.mem_append_left _ (Tf hd q a))
   ·rcases List.mem_cons.1 a with rfl | a
    ·exact .inr ⟨hi.1,hi.2.symm⟩
    ·simp at a;exact .inl (by simp[a])
  ·cases h
 ·cases h
end
theorem RG:∀(l:List Av) (ob:List (Nat×Ob)),∃n,(DO l ob).2=puts ob n/\(∀q∈n,q.1∈l.flatMap Av.ids)/\∀ob2,Agr (l.flatMap Av.ids) ob ob2->DO l ob2=((DO l ob).1,puts ob2 n)
 | [],ob=>⟨[],rfl,by simp,fun ob2 _=>rfl⟩
 | .t c :: l,ob=>by
  obtain⟨k,d,e,f⟩:=RG l ob;exact⟨k,d,fun q o=>by simp only[List.flatMap_cons,List.mem_append];exact .inr (e q o),fun ob2 b=>by simp only[DO,f ob2 (b.sub fun j a=>by simp only[List.flatMap_cons,List.mem_append];exact .inr a)]⟩
 | .m g c :: l,ob=>by
  obtain⟨i,p,r,s⟩:=OE c ob;obtain⟨k,d,e,f⟩:=RG l (frz c ob).2;refine⟨i ++ k,?_,fun q o=>?_,fun ob2 b=>?_⟩
  ·simp only[DO,d,D3];rw[p]
  ·simp only[List.flatMap_cons,List.mem_append];rcases List.mem_append.1 o with h | h
   ·exact .inl (r q h)
   ·exact .inr (e q h)
  ·have u:=s ob2 (b.sub fun j a=>by rw[List.flatMap_cons,List.mem_append];exact .inl a);have v:=f (puts ob2 i) (p▸(b.sub fun j a=>by rw[List.flatMap_cons,List.mem_append];exact .inr a).puts i);simp only[DO,u,v,D3]
theorem RH(keep:Bool)(l:List Av)(ob:List (Nat×Ob)):∃a,(CI keep l ob).2=puts ob a/\(∀q∈a,q.1∈l.flatMap Av.ids)/\(keep=false->a = [])/\∀ob2,Agr (l.flatMap Av.ids) ob ob2->CI keep l ob2=((CI keep l ob).1,puts ob2 a):=by
 cases keep with
 | true=>obtain⟨a,b,c,d⟩:=RG l ob;exact⟨a,b,c,fun h=>(by cases h),d⟩
 | false=>exact⟨[],rfl,by simp,fun _=>rfl,fun ob2 _=>rfl⟩
theorem Tm:∀(c:List Cv) (ob:List (Nat×Ob)),∀j∈(frz c ob).1.flatMap Cv.ids,j∈c.flatMap Cv.ids
 | [],ob,j,a=>a
 | x :: c,ob,j,a=>by
  simp only[frz,List.flatMap_cons,List.mem_append]at a ⊢;rcases a with a | a
  ·refine .inl ?_;cases x<;>simp only[frz1]at a<;>first | exact a | skip
   split at a
   ·cases a
   ·exact a
  ·exact .inr (Tm c _ j a)
theorem QQ:∀(l:List Av) (ob:List (Nat×Ob)),∀j∈(DO l ob).1.flatMap Av.ids,j∈l.flatMap Av.ids
 | [],ob,j,a=>a
 | .t c :: l,ob,j,a=>by
  simp only[DO,List.flatMap_cons,List.mem_append]at a ⊢;exact a.imp_right fun h=>QQ l _ j h
 | .m g c :: l,ob,j,a=>by
  simp only[DO,List.flatMap_cons,List.mem_append]at a ⊢;rcases a with a | a
  ·exact .inl (Tm c ob j a)
  ·exact .inr (QQ l _ j a)
theorem QR(keep:Bool)(l:List Av)(ob:List (Nat×Ob)):∀j∈(CI keep l ob).1.flatMap Av.ids,j∈l.flatMap Av.ids:=by
 cases keep with
 | true=>exact QQ l ob
 | false=>exact fun j h=>h
variable{d:Nat}
theorem Iz{n m:Nat}(h:n+m<=40){j:Nat}(a:j∈(List.range' n m).map (rid d)):j∈CP d:=by
 simp only[CP,List.mem_cons,List.mem_map,List.mem_range'_1,List.mem_range]at *;obtain⟨q,b,rfl⟩:=a;exact .inr ⟨q,by omega,rfl⟩
variable{keep:Bool}{sp:AL}{i:Nat}{r:List Av}{D:Dl}
theorem Z2(h:evCall keep sp i ob r=some D) :
 ∃us,D.ob=puts ob us/\(∀q∈us,q.1∈CP i\/(keep=true/\q.1∈r.flatMap Av.ids))/\∀ob2,Agr (r.flatMap Av.ids ++ CP i) ob ob2->evCall keep sp i ob2 r=some ⟨D.c,D.av,puts ob2 us,D.nw⟩:=by
 obtain⟨f,g,o,p,s⟩:=RH keep r ob;have t:=QR keep r ob;unfold evCall at h;split at h
 ·rename_i n has
  split at h
  ·rename_i c rs hrs
   split at h
   ·rename_i ob' hob
    split at h
    ·rename_i y
     cases h;obtain⟨us,e,z,x⟩:=MQ i rs 0 _ ob' hob;refine⟨f ++ us,by rw[D3,<-g];exact e,fun q a=>?_,fun ob2 m=>?_⟩
     ·rcases List.mem_append.1 a with a | a
      ·cases keep with
       | true=>exact .inr ⟨rfl,o q a⟩
       | false=>rw[p rfl]at a;cases a
      ·exact .inl (Iz (by omega) (z q a))
     ·have u:=s ob2 (m.sub fun j d=>List.mem_append_left _ d);have b:∀L,(∀j∈L,j∈r.flatMap Av.ids ++ CP i)->Agr L (CI keep r ob).2 (puts ob2 f):=fun L w=>by
       rw[g];exact Agr.puts (m.sub w) f
      have v:=Ol (keep:=keep) (l:=(CI keep r ob).1) (b _ fun j d=>List.mem_append_left _ (t j d));have k:=x (puts ob2 f) (b _ fun j d=>List.mem_append_right _ (Iz (by omega) d));simp only at k;unfold evCall;simp only[u,v,has,hrs,k,if_pos y,D3]
    ·cases h
   ·cases h
  ·cases h
 ·cases h
theorem zCr(h:evCallN sp i ob r=some D) :
 ∃us,D.ob=puts ob us/\(∀q∈us,q.1∈r.flatMap Av.ids ++ CP i)/\∀ob2,Agr (r.flatMap Av.ids ++ CP i) ob ob2->evCallN sp i ob2 r=some ⟨D.c,D.av,puts ob2 us,D.nw⟩:=by
 obtain⟨f,m,u,C,v⟩:=RH true r ob;have w:=QR true r ob;unfold evCallN at h;split at h
 ·rename_i t has
  split at h
  ·rename_i c v0 hrs
   split at h
   ·rename_i ob' hob
    split at h
    ·rename_i k
     split at h
     ·rename_i B
      cases h;obtain⟨us,e,s,p⟩:=MQ i [(true,v0)] 1 _ ob' hob;have g:tot [(true,v0)]=v0.length:=(by simp[tot]);rw[g]at s p;refine⟨f ++ us ++ [(i,.var (DB i 1 v0))],by rw[D3,D3,<-m,<-e];rfl,fun q a=>?_,fun ob2 o=>?_⟩
      ·rcases List.mem_append.1 a with a | a
       ·rcases List.mem_append.1 a with a | a
        ·exact List.mem_append_left _ (u q a)
        ·exact List.mem_append_right _ (Iz (by omega) (s q a))
       ·simp at a;simp[a,CP]
      ·have x:=v ob2 (o.sub fun j b=>List.mem_append_left _ b);have d:∀L,(∀j∈L,j∈r.flatMap Av.ids ++ CP i)->Agr L (CI true r ob).2 (puts ob2 f):=fun L A=>by
        rw[m];exact Agr.puts (o.sub A) f
       have y:=Ol (keep:=true) (l:=(CI true r ob).1) (d _ fun j b=>List.mem_append_left _ (w j b));have n:=p (puts ob2 f) (d _ fun j b=>List.mem_append_right _ (Iz (by omega) b));simp only at n;have z:get (puts (puts ob2 f) us) i=none:=by
        rw[<-k,e];exact Agr.puts (d [i] fun j b=>by simp at b;simp[b,CP]) us i (by simp)
       unfold evCallN;simp only[x,y,has,hrs,n,z,if_pos B,D3];rfl
     ·cases h
    ·cases h
   ·cases h
  ·cases h
 ·cases h
theorem IC:∀{pm:List (Nat×Nat)} {ob:List (Nat×Ob)},CX ob pm=puts ob (pm.map fun p=>(p.1,.dead))
 | [],ob=>rfl
 | p :: l,ob=>by simp only[CX];rw[IC];rfl
theorem zh:∀(l:List Av) (ob:List (Nat×Ob)) (i:Nat) (a:List Cv),get (DO l ob).2 i=some (.var a)->get ob i=some (.var a):=by
 have b:∀(x:Cv) (ob:List (Nat×Ob)) (i:Nat) (a:List Cv),get (frz1 ob x).2 i=some (.var a)->get ob i=some (.var a):=fun x ob i a h=>by
  cases x<;>simp only[frz1]at h<;>first | exact h | skip
  split at h
  ·rw[BD]at h;split at h
   ·cases h
   ·exact h
  ·exact h
 have d:∀(c:List Cv) (ob:List (Nat×Ob)) (i:Nat) (a:List Cv),get (frz c ob).2 i=some (.var a)->get ob i=some (.var a):=by
  intro c
  induction c with
  | nil=>intro ob i a h;exact h
  | cons x c ih=>intro ob i a h;simp only[frz]at h;exact b x ob i a (ih _ i a h)
 intro l
 induction l with
 | nil=>intro ob i a h;exact h
 | cons x l ih=>
  intro ob i a h;cases x with
  | m g c=>simp only[DO]at h;exact d c ob i a (ih _ i a h)
  | t c=>simp only[DO]at h;exact ih _ i a h
theorem Na:∀{l:List Cv} {n:Nat},∀p∈pmC n l,p.1∈l.flatMap Cv.ids
 | [],n,p,a=>by cases a
 | x :: l,n,p,a=>by
  rw[List.flatMap_cons,List.mem_append];cases x with
  | h r=>
   rcases List.mem_cons.1 a with rfl | a
   ·exact .inl (by simp[Cv.ids])
   ·exact .inr (Na p a)
  | _=>exact .inr (Na p a)
theorem ZD(h:evCallP keep sp d i ob r=some D)(L:List Nat)(v:L=(.m false [.p i 0] :: r).flatMap Av.ids ++ deep ob (.m false [.p i 0] :: r) ++ CP d) :
 ∃us,D.ob=puts ob us/\(∀q∈us,q.1∈L)/\∀ob2,Agr L ob ob2->evCallP keep sp d i ob2 r=some ⟨D.c,D.av,puts ob2 us,D.nw⟩:=by
 obtain⟨s,A,E,Q,F⟩:=RH keep r ob;have G:=QR keep r ob;have k:i∈L:=by rw[v];simp[Av.ids,Cv.ids]
 have n:∀j∈r.flatMap Av.ids,j∈L:=fun j b=>by
  rw[v,List.mem_append,List.mem_append,List.flatMap_cons,List.mem_append];exact .inl (.inl (.inr b))
 have u:∀j∈CP d,j∈L:=fun j b=>by rw[v];exact List.mem_append_right _ b
 unfold evCallP at h;split at h
 ·rename_i g hi
  have x:get ob i=some (.var g):=by
   cases keep with
   | true=>exact zh r ob i g hi
   | false=>exact hi
  have t:∀j∈g.flatMap Cv.ids,j∈L:=fun j b=>by
   rw[v];refine List.mem_append_left _ (List.mem_append_right _ ?_);simp only[deep,x];exact b
  split at h
  ·rename_i vs ags hvs has
   split at h
   ·rename_i y
    split at h
    ·rename_i c v0 rs hsp
     split at h
     ·rename_i ob' hob
      split at h
      ·rename_i O
       cases h;obtain⟨us,e,P,N⟩:=MQ d ((true,v0) :: rs) 1 _ ob' hob;refine⟨s ++ (((i,0) :: pmC 0 g).map fun p=>(p.1,.dead)) ++ us ++ [(i,.var (DB d 1 v0))],?_,fun q a=>?_,fun ob2 C=>?_⟩
       ·rw[D3,D3,D3,<-A,<-IC,<-e];rfl
       ·rcases List.mem_append.1 a with a | a
        ·rcases List.mem_append.1 a with a | a
         ·rcases List.mem_append.1 a with a | a
          ·exact n _ (E q a)
          ·obtain⟨p,z,rfl⟩:=List.mem_map.1 a;rcases List.mem_cons.1 z with rfl | z
           ·exact k
           ·exact t _ (Na p z)
         ·exact u _ (Iz (by omega) (P q a))
        ·simp at a;rw[a];exact k
       ·have I:=F ob2 (C.sub n);have o:∀M,(∀j∈M,j∈L)->Agr M (CI keep r ob).2 (puts ob2 s):=fun M w=>by
         rw[A];exact Agr.puts (C.sub w) s
        have f:∀M,(∀j∈M,j∈L)->Agr M (CX (CI keep r ob).2 ((i,0) :: pmC 0 g)) (CX (puts ob2 s) ((i,0) :: pmC 0 g)):=fun M w=>by
         rw[IC,IC];exact Agr.puts (o M w) _
        have H:get (puts ob2 s) i=some (.var g):=(by rw[<-hi];exact o [i] (fun j b=>by simp at b;rw[b];exact k) i (by simp));have J:=Ol (keep:=keep) (l:=(CI keep r ob).1) (f _ fun j b=>n _ (G j b));have B:=N _ (f _ fun j b=>u _ (Iz (by omega) b));have K:=RX (o _ t);simp only at B;unfold evCallP;simp only[I,H,K,hvs,J,has,if_pos y,hsp,B,if_pos O];simp only[D3,IC];rfl
      ·cases h
     ·cases h
    ·cases h
   ·cases h
  ·cases h
 ·cases h
theorem zCU(h:evCallO sp d ob r=some D) :
 ∃us,D.ob=puts ob us/\(∀q∈us,q.1∈r.flatMap Av.ids ++ CP d)/\∀ob2,Agr (r.flatMap Av.ids ++ CP d) ob ob2->evCallO sp d ob2 r=some ⟨D.c,D.av,puts ob2 us,D.nw⟩:=by
 unfold evCallO at h;split at h
 ·rename_i l k hul
  have s:=Qw hul;have m:∀j∈l.flatMap Av.ids,j∈r.flatMap Av.ids ++ CP d:=fun j b=>by rw[s];simp only[List.flatMap_append,List.mem_append];exact .inl (.inl b)
  have f:∀j∈k.flatMap Cv.ids,j∈r.flatMap Av.ids ++ CP d:=fun j b=>by rw[s];simp only[List.flatMap_append,List.mem_append,List.flatMap_cons,List.flatMap_nil,List.append_nil];exact .inl (.inr b)
  have g:∀j∈CP d,j∈r.flatMap Av.ids ++ CP d:=fun j b=>List.mem_append_right _ b
  generalize r.flatMap Av.ids ++ CP d=L at *;split at h
  ·rename_i vs ags hvs has
   split at h
   ·rename_i n
    split at h
    ·rename_i c rs hsp
     split at h
     ·rename_i ob' hob
      split at h
      ·rename_i z
       cases h;obtain⟨us,e,A,x⟩:=MQ d rs 0 _ ob' hob;refine⟨((pmC 0 k).map fun p=>(p.1,.dead)) ++ us,?_,fun q i=>?_,fun ob2 o=>?_⟩
       ·rw[D3,<-IC,<-e]
       ·rcases List.mem_append.1 i with i | i
        ·obtain⟨p,y,rfl⟩:=List.mem_map.1 i;exact f _ (Na p y)
        ·exact g _ (Iz (by omega) (A q i))
       ·have a:∀M,(∀j∈M,j∈L)->Agr M (CX ob (pmC 0 k)) (CX ob2 (pmC 0 k)):=fun M w=>by
         rw[IC,IC];exact Agr.puts (o.sub w) _
        have t:=Ol (keep:=false) (l:=l) (a _ m);have u:=x _ (a _ fun j b=>g _ (Iz (by omega) b));have v:=RX (o.sub f);unfold evCallO;simp only[hul,v,hvs,t,has,if_pos n,hsp,u,if_pos z];simp only[D3,IC]
      ·cases h
     ·cases h
    ·cases h
   ·cases h
  ·cases h
 ·cases h
variable{T:Tb}{Γ:List (Nat×AL)}{dst:Option Nat}{op:Op}{l:List Av}
theorem Y1(h:BB T Γ dst ob op l=some D) :
 ∃us,D.ob=puts ob us/\Sft ob (tks T Γ ob op dst l).wr (tks T Γ ob op dst l).sw us/\∀ob2,P5 (tks T Γ ob op dst l).tc (tks T Γ ob op dst l).sh ob ob2->BB T Γ dst ob2 op l=some ⟨D.c,D.av,puts ob2 us,D.nw⟩:=by
 cases op with
 | move x=>
  simp only[BB,coreU]at h ⊢;split at h
  ·cases h;exact⟨[],rfl,Sft.nil,fun ob2 _=>rfl⟩
  ·cases h
 | assign x=>
  simp only[BB,coreU]at h ⊢;split at h
  ·cases h;exact⟨[],rfl,Sft.nil,fun ob2 _=>rfl⟩
  ·cases h
 | nilCheck x=>
  simp only[BB,coreU]at h ⊢;split at h
  ·cases h;exact⟨[],rfl,Sft.nil,fun ob2 _=>rfl⟩
  ·cases h
 | unOp u t x=>
  cases u<;>simp only[BB,coreU]at h ⊢<;>try (cases h;done)
  split at h
  ·cases h;exact⟨[],rfl,Sft.nil,fun ob2 _=>rfl⟩
  ·cases h
 | binOp o t x y yt=>
  simp only[BB,coreU]at h ⊢;split at h
  ·split at h
   ·rename_i A;cases h;exact⟨[],rfl,Sft.nil,fun ob2 _=>by simp only[A];rfl⟩
   ·cases h
  ·cases h
 | alloc t=>
  simp only[BB,coreU]at h ⊢;split at h
  ·rename_i d i hd
   split at h
   ·rename_i ob' hob
    cases h;unfold evAlloc at hob;split at hob
    ·rename_i hi
     cases hob;refine⟨[(i,.var (d.z.map .v))],rfl,Sft.w (by simp[tks]),fun ob2 s=>?_⟩;have:=s.1 i (by simp[tks]);simp only[hd,evAlloc,this,hi];rfl
    ·cases hob
   ·cases h
  ·cases h
 | box t x=>
  simp only[BB,coreU]at h ⊢;split at h
  ·rename_i g c i
   split at h
   ·rename_i ob' hob
    cases h;unfold KB at hob;split at hob
    ·rename_i hi
     cases hob;refine⟨[(i,.var c)],rfl,Sft.w (by simp[tks]),fun ob2 s=>?_⟩;have:=s.1 i (by simp[tks]);simp only[KB,this,hi];rfl
    ·cases hob
   ·cases h
  ·cases h
 | load t x=>
  simp only[BB,coreU]at h ⊢;split at h
  ·rename_i B d hd
   unfold evLd at h;split at h
   ·rename_i q A
    cases h;rw[Option.bind_eq_some_iff]at A;obtain⟨i,hi,A⟩:=A;split at hi
    ·rename_i M
     subst hi;rw[Rc,Option.map_eq_some_iff]at A;obtain⟨p,H,rfl⟩:=A;have e:tks T Γ ob (.load t x) (some i) [.m false [B]]=⟨B.ids ++ [rid i 0],[],[rid i 0],K4 B⟩:=(by simp[tks,M.1,Av.ids,hdC]);rw[e];refine⟨p.2,rfl,zHV H,fun ob2 s=>?_⟩;simp only[hd];unfold evLd;rw[if_pos M];simp only[Option.bind_some,Rc,Vs s.1,H,Option.map_some]
    ·cases hi
   ·rename_i A
    split at h
    ·rename_i q E
     cases h;refine⟨[],rfl,Sft.nil,fun ob2 s=>?_⟩;simp only[hd];unfold evLd;have N:Agr B.ids ob ob2:=by
      refine s.1.sub fun j G=>?_
      cases dst with
      | none=>simp[tks,Av.ids,G]
      | some i=>by_cases M:t=T.tk<;>simp[tks,M,Av.ids,G]
     have hn:((if t=T.tk/\d.k=1/\d.g=false then dst else none).bind fun i=>evTake ob2 (rid i 0) B)=none:=by
      by_cases M:t=T.tk/\d.k=1/\d.g=false
      ·rw[if_pos M]at A ⊢;cases dst with
       | none=>rfl
       | some i=>
        simp only[Option.bind_some,Rc,Option.map_eq_none_iff]at A ⊢;rw[Vs (ob:=ob) (ob2:=ob2) (s.1.sub fun j G=>by simpa[tks,M.1,Av.ids]using G)];exact A
      ·rw[if_neg M];rfl
     rw[hn];simp only[zC9 N,E];rfl
    ·cases h
  ·cases h
 | store t x y=>
  simp only[BB,coreU]at h ⊢;split at h
  ·rename_i B g c d hd
   split at h
   ·rename_i q A
    cases h;have e:tks T Γ ob (.store t x y) none [.m false [B],.m g c]=⟨B.ids ++ c.flatMap Cv.ids,[],B.ids ++ c.flatMap Cv.ids,[]⟩:=(by simp[tks,Av.ids]);rw[e];have cA:∃us,q.2=puts ob us/\(∀p∈us,p.1∈B.ids ++ c.flatMap Cv.ids)/\∀ob2,Agr (B.ids ++ c.flatMap Cv.ids) ob ob2->evSt d ob2 c B=some (q.1,puts ob2 us):=by
     unfold evSt at A ⊢;split at A
     ·rename_i r i k a j
      rw[ZE,Option.map_eq_some_iff]at A;obtain⟨p,H,rfl⟩:=A;exact⟨p.2,rfl,fun z hz=>by simpa[Cv.ids]using zHJ H z hz,fun ob2 s=>by rw[ZE,zDH (s.sub fun j G=>by simpa[Cv.ids]using G),H];rfl⟩
     ·rename_i i k a j Y
      obtain⟨Z,d1,d2,d3⟩:=OE c ob;rw[Oo,Option.map_eq_some_iff]at A;obtain⟨p,H,rfl⟩:=A;refine⟨Z ++ p.2,by rw[D3,<-d1],fun z hz=>(List.mem_append.1 hz).elim (fun h=>List.mem_append_right _ (d2 z h)) fun h=>List.mem_append_left _ (Sd H z h),fun ob2 s=>?_⟩;rw[d3 ob2 (s.sub fun j G=>List.mem_append_right _ G),Oo,Vn (ob:=(frz c ob).2) (by rw[d1];exact Agr.puts (s.sub fun j G=>List.mem_append_left _ G) Z),H,D3];rfl
     ·rename_i Y hne'
      rw[Oo,Option.map_eq_some_iff]at A;obtain⟨p,H,rfl⟩:=A;refine⟨p.2,rfl,fun z hz=>List.mem_append_left _ (Sd H z hz),fun ob2 s=>?_⟩;rw[Oo,Vn (s.sub fun j G=>List.mem_append_left _ G),H];rfl
    obtain⟨us,F,P,Q⟩:=cA;refine⟨us,F,Sft.w P,fun ob2 s=>?_⟩;simp only[hd,Q ob2 s.1]
   ·cases h
  ·cases h
 | fieldAddr t x f=>
  simp only[BB,coreU]at h ⊢;split at h
  ·rename_i B d hd
   split at h
   ·rename_i q i o A;cases h;exact⟨[],rfl,Sft.nil,fun ob2 _=>by simp only[hd,A];rfl⟩
   ·rename_i q i k a j A;cases h;exact⟨[],rfl,Sft.nil,fun ob2 _=>by simp only[hd,A];rfl⟩
   ·rename_i q fl k n g a j A;cases h;exact⟨[],rfl,Sft.nil,fun ob2 _=>by simp only[hd,A];rfl⟩
   ·cases h
  ·cases h
 | indexAddr t x ix=>
  simp only[BB,coreU]at h ⊢;split at h
  ·rename_i B K ixx d hd
   split at h
   ·rename_i de fl k n g hde
    split at h
    ·rename_i hk;cases h;exact⟨[],rfl,Sft.nil,fun ob2 _=>by simp only[hd,hde,if_pos hk];rfl⟩
    ·cases h
   ·rename_i de i hde
    split at h
    ·rename_i k n g hi
     split at h
     ·rename_i hk
      cases h;refine⟨[],rfl,Sft.nil,fun ob2 s=>?_⟩;have:=s.1 i (by simp[tks,Av.ids,Cv.ids]);simp only[hd,hde,this,hi,if_pos hk];rfl
     ·cases h
    ·cases h
   ·cases h
  ·cases h
 | index t x ix=>
  simp only[BB,coreU]at h ⊢;split at h
  ·split at h
   ·rename_i M;cases h;exact⟨[],rfl,Sft.nil,fun ob2 _=>by simp only[if_pos M];rfl⟩
   ·cases h
  ·cases h
 | extract x ix=>
  simp only[BB,coreU]at h ⊢;split at h
  ·split at h
   ·rename_i hr;cases h;exact⟨[],rfl,Sft.nil,fun ob2 _=>by simp only[hr];rfl⟩
   ·cases h
  ·cases h
 | build t ps=>
  simp only[BB,coreU]at h ⊢;split at h
  ·rename_i d q hd A
   split at h
   ·rename_i c hcc
    split at h
    ·cases h
    ·rename_i Y;cases h;exact⟨[],rfl,Sft.nil,fun ob2 _=>by simp only[hd,A,hcc,if_neg Y];rfl⟩
   ·cases h
  ·cases h
 | buildSlice t n ps=>
  simp only[BB,coreU]at h ⊢;split at h
  ·rename_i d q i hd A
   split at h
   ·rename_i de hde
    split at h
    ·rename_i ob' hob
     split at h
     ·cases h
     ·rename_i C
      cases h;obtain⟨Z,e1,e2,e3⟩:=Y9 q ob;have N:=YW A;unfold MF evBuildSlice at hob;split at hob
      ·rename_i ts hi hb
       split at hob
       ·rename_i eA
        cases hob;refine⟨Z ++ [(rid i 0,.row de.k n (fun p q=>ts.getD (p*de.k+q) (.v (.bool false))))],by simp only[e1,D3];rfl,Sft.w fun x hx=>?_,fun ob2 s=>?_⟩
        ·rcases List.mem_append.1 hx with F | F
         ·exact List.mem_append_left _ (N _ (e2 _ F))
         ·simp at F;simp[tks,F]
        ·have e4:=e3 ob2 (s.1.sub fun j G=>List.mem_append_left _ (N _ G));have h5:get (puts ob2 Z) (rid i 0)=none:=by
          rw[<-hi,e1];exact(s.1.puts Z) (rid i 0) (by simp[tks])
         simp only[hd,A,hde,MF,evBuildSlice,e4,h5,hb,if_pos eA,if_neg C,D3];rfl
       ·cases hob
      ·cases hob
    ·cases h
   ·cases h
  ·cases h
 | slice t x lo hi mx=>
  cases mx with
  | some _=>simp only[BB,coreU]at h;cases h
  | none=>
   simp only[BB,coreU]at h ⊢;split at h
   ·rename_i d hd
    split at h
    ·rename_i de hde
     split at h
     ·rename_i q A
      split at h
      ·cases h
      ·rename_i C
       cases h;refine⟨[],rfl,Sft.nil,fun ob2 s=>?_⟩;have e:evSlice ob2 de.k lo hi l=evSlice ob de.k lo hi l:=by
        unfold evSlice;split
        ·rfl
        ·rename_i i K ix
         rw[s.2 i (by simp[tks,Av.ids,Cv.ids])]
        ·rfl
       simp only[hd,hde,e,A,if_neg C];rfl
     ·cases h
    ·cases h
   ·cases h
 | makeSlice t x y=>
  simp only[BB,coreU]at h ⊢;split at h
  ·rename_i K1 B K2 y' d i hd
   split at h
   ·rename_i de hde
    split at h
    ·rename_i ob' hob
     split at h
     ·cases h
     ·rename_i C
      cases h;unfold evMakeSlice at hob;split at hob
      ·rename_i hi
       cases hob;refine⟨[(rid i 0,.row de.k B.toNat (fun _ q=>.v (de.z.getD q (.bool false))))],rfl,Sft.w (by simp[tks]),fun ob2 s=>?_⟩;have:=s.1 (rid i 0) (by simp[tks]);simp only[hd,hde,evMakeSlice,this,hi,if_neg C];rfl
      ·cases hob
    ·cases h
   ·cases h
  ·cases h
 | call c=>
  obtain⟨callee,args,W⟩:=c;cases callee with
  | invoke r m=>simp only[BB,coreU]at h;cases h
  | value f=>
   cases f with
   | func f=>
    simp only[BB,coreU]at h ⊢;split at h
    ·rename_i x r i
     unfold evC at h;split at h
     ·rename_i hf
      split at h
      ·rename_i sp J
       have e:tks T Γ ob (.call ⟨.value (.func f),args,W⟩) (some i) (x :: r)=⟨r.flatMap Av.ids ++ CP i,[],CP i,[]⟩:=(by simp[tks,Mi,J]);rw[e];obtain⟨us,F,P,Q⟩:=Z2 h;refine⟨us,F,Sft.w fun q A=>(P q A).elim id (fun h=>by cases h.1),fun ob2 s=>?_⟩;simp only[evC,if_pos hf,J];exact Q ob2 s.1
      ·rename_i J
       have e:tks T Γ ob (.call ⟨.value (.func f),args,W⟩) (some i) (x :: r)=⟨r.flatMap Av.ids ++ deep ob r ++ CP i,[],r.flatMap Av.ids ++ deep ob r ++ CP i,[]⟩:=(by simp[tks,Mi,J]);rw[e];have V:∀ob2,Agr (r.flatMap Av.ids ++ deep ob r ++ CP i) ob ob2->Agr (r.flatMap Av.ids ++ CP i) ob ob2:=fun ob2 s=>s.sub fun j G=>by
        rcases List.mem_append.1 G with h | h
        ·exact List.mem_append_left _ (List.mem_append_left _ h)
        ·exact List.mem_append_right _ h
       have X:∀j,j∈r.flatMap Av.ids ++ CP i->j∈r.flatMap Av.ids ++ deep ob r ++ CP i:=fun j G=>by
        rcases List.mem_append.1 G with h | h
        ·exact List.mem_append_left _ (List.mem_append_left _ h)
        ·exact List.mem_append_right _ h
       split at h
       ·rename_i sp I
        obtain⟨us,F,P,Q⟩:=Z2 h;refine⟨us,F,Sft.w fun q A=>X _ ((P q A).elim (fun h=>List.mem_append_right _ h) (fun h=>List.mem_append_left _ h.2)),fun ob2 s=>?_⟩;simp only[evC,if_pos hf,J,I];exact Q ob2 (V ob2 s.1)
       ·rename_i I
        split at h
        ·rename_i sp L
         obtain⟨us,F,P,Q⟩:=zCr h;refine⟨us,F,Sft.w fun q A=>X _ (P q A),fun ob2 s=>?_⟩;simp only[evC,if_pos hf,J,I,L];exact Q ob2 (V ob2 s.1)
        ·rename_i L
         split at h
         ·rename_i sp O
          obtain⟨us,F,P,Q⟩:=zCU h;refine⟨us,F,Sft.w fun q A=>X _ (P q A),fun ob2 s=>?_⟩;simp only[evC,if_pos hf,J,I,L,O];exact Q ob2 (V ob2 s.1)
         ·rename_i O
          split at h
          ·rename_i j r'
           split at h
           ·rename_i sp U
            obtain⟨us,F,P,Q⟩:=ZD h _ rfl;refine⟨us,F,Sft.w P,fun ob2 s=>?_⟩;simp only[evC,if_pos hf,J,I,L,O,U];exact Q ob2 s.1
           ·rename_i U
            split at h
            ·rename_i sp hsp4
             obtain⟨us,F,P,Q⟩:=ZD h _ rfl;refine⟨us,F,Sft.w P,fun ob2 s=>?_⟩;simp only[evC,if_pos hf,J,I,L,O,U,hsp4];exact Q ob2 s.1
            ·cases h
          ·cases h
     ·cases h
    ·cases h
   | _=>simp only[BB,coreU]at h;cases h
  | builtin b=>
   cases b<;>simp only[BB,coreU]at h ⊢<;>try (cases h;done)
   case len=>
    split at h
    ·split at h
     ·rename_i M;cases h;exact⟨[],rfl,Sft.nil,fun ob2 _=>by simp only[if_pos M];rfl⟩
     ·cases h
    ·rename_i B hx'
     split at h
     ·rename_i t M
      split at h
      ·rename_i d n hd hn
       split at h
       ·cases h
       ·rename_i C
        cases h;refine⟨[],rfl,Sft.nil,fun ob2 s=>?_⟩;have F:=zBc (ob:=ob) (ob':=ob2) (x:=B) (s.1.sub fun j G=>by simp[tks,Av.ids,G]);simp only[hd,F,hn,if_neg C];rfl
      ·cases h
     ·cases h
    ·cases h
   case append=>
    split at h
    ·rename_i B y' t t' i M
     split at h
     ·rename_i d hd
      split at h
      ·rename_i de hde
       split at h
       ·rename_i q A
        split at h
        ·rename_i C
         cases h;have e:tks T Γ ob (.call ⟨.builtin .append,args,W⟩) (some i) [.m false [B],.m false [y']]=⟨B.ids ++ y'.ids ++ [rid i 0],[],B.ids ++ [rid i 0],if W.toList = [T.mv,T.mv] then y'.ids else []⟩:=(by simp[tks,hdC,SS]);rw[e];unfold JK at A;split at A
         ·rename_i q' E
          cases A;split at E
          ·rename_i R
           rw[Rm,Option.map_eq_some_iff]at E;obtain⟨p,H,rfl⟩:=E;refine⟨p.2,rfl,?_,fun ob2 s=>?_⟩
           ·have:W.toList = [T.mv,T.mv]:=(by rw[M,C.1,R]);rw[if_pos this];exact zGa H
           ·simp only[hd,hde];unfold JK;simp only[if_pos R,Rm,XA s.1,H,Option.map_some];rw[if_pos C]
          ·cases E
         ·rename_i E
          have hn:∀ob2,Agr (B.ids ++ y'.ids ++ [rid i 0]) ob ob2->(if t=T.mv then evAppendM de ob2 (rid i 0) B y' else none)=none:=fun ob2 s=>by
           by_cases R:t=T.mv
           ·rw[if_pos R]at E ⊢;rw[Rm,Option.map_eq_none_iff]at E ⊢;rw[XA s];exact E
           ·rw[if_neg R]
          split at A
          ·rename_i q' S
           cases A;rw[P1,Option.map_eq_some_iff]at S;obtain⟨p,H,rfl⟩:=S;refine⟨p.2,rfl,Sft.w (zGd H),fun ob2 s=>?_⟩;simp only[hd,hde];unfold JK;rw[hn ob2 s.1];simp only[P1,XD s.1,H,Option.map_some];rw[if_pos C]
          ·rename_i S
           rw[ZC,Option.map_eq_some_iff]at A;obtain⟨p,H,rfl⟩:=A;refine⟨p.2,rfl,Sft.w (zGb H),fun ob2 s=>?_⟩;simp only[hd,hde];unfold JK;rw[hn ob2 s.1];rw[P1,Option.map_eq_none_iff]at S;simp only[P1,XD s.1,S,Option.map_none,ZC,zW s.1,H,Option.map_some];rw[if_pos C]
        ·cases h
       ·cases h
      ·cases h
     ·cases h
    ·cases h
 | field t x f=>
  simp only[BB,coreU]at h ⊢;split at h
  ·rename_i c d hd
   split at h
   ·rename_i av hav;cases h;exact⟨[],rfl,Sft.nil,fun ob2 _=>by simp only[hd,hav];rfl⟩
   ·cases h
  ·cases h
 | convert src t x=>
  simp only[BB,coreU]at h ⊢;split at h
  ·rename_i B
   split at h
   ·rename_i q A
    cases h;refine⟨[],rfl,Sft.nil,fun ob2 s=>?_⟩;have e:evConv T src t ob2 B=evConv T src t ob B:=by
     unfold evConv;split
     ·rfl
     ·rename_i i
      rw[J3 (s.1 i (by simp[tks,Av.ids,Cv.ids]))]
     ·rfl
    simp only[e,A];rfl
   ·cases h
  ·cases h
 | _=>simp only[BB,coreU]at h;cases h
theorem Qv{ob2:List (Nat×Ob)}(h:Agr (tks T Γ ob op dst l).tc ob ob2):tks T Γ ob2 op dst l=tks T Γ ob op dst l:=by
 unfold tks at h ⊢;split<;>try rfl
 rename_i f args tys d
 cases hq:Mi Γ f with
 | true=>simp
 | false=>
  simp only[hq]at h ⊢;have a:deep ob2 (l.drop 1)=deep ob (l.drop 1):=by
   cases hl:l.drop 1 with
   | nil=>rfl
   | cons x r=>
    rw[hl]at h;unfold deep;split
    ·rename_i j r' e
     cases e;rw[h j (by simp[Av.ids,Cv.ids])]
    ·rfl
  rw[a]
def opdC:Value->Option (Bool×Av)
 | .agg cs=>if cs.toList.all Value.oneCell' then some (true,.m true (cs.toList.map .v))else none
 | .tuple _=>none
 | v=>some (true,.m false [.v v])
def opd(S:St):Operand->Option (Bool×Av)
 | .tmp t=>get S.tm t
 | .const v=>opdC v
 | .func f=>some (true,.m false [.v (.func (.func f) #[] #[])])
 | .global _=>none
def opds(S:St):List Operand->Option (List (Bool×Av))
 | []=>some []
 | x :: r=>match opd S x,opds S r with
  | some q,some l=>some (q :: l)
  | _,_=>none
def gtmp(ops:Array Oper)(o:Oper):Option (Option Nat×Bool):=
 match o.guard with
 | none=>none
 | some (j,want)=>match (ops[j]?).bind (·.dst)with
  | some t=>some (some t,want)
  | none=>some (none,want)
def kap(S:St):Option (Option Nat×Bool)->Option Bool
 | none=>some true
 | some (none,_)=>none
 | some (some t,want)=>match get S.tm t with
  | some (cg,.m false [.v (.bool b)])=>some (cg && (b == want))
  | _=>none
def FV(κ : Bool):List (Bool×Av)->Prop
 | []=>True
 | q :: r=>(κ = true->q.1=true)/\FV κ r
def obK(κ : Bool)(ob:List (Nat×Ob))(D:Dl):List (Nat×Ob):=bif κ || !D.nw then D.ob else ob
def stp0(N:Nat)(T:Tb)(Γ : List (Nat×AL))(gt:Option (Option Nat×Bool))(S:St)(op:Op)(dst:Option Nat):Option (Prop×St):=
 match kap S gt,opds S op.operands.toList with
 | some κ,some l=>match BB T Γ dst S.ob op (l.map (·.2))with
  | some D=>match dst,D.av with
   | some d,some av=>if d<N then some (FV κ l/\(κ = true->D.c),⟨put S.tm d (κ,av),obK κ S.ob D⟩)else none
   | none,none=>if gt.isSome then none else some (FV κ l/\(κ = true->D.c),⟨S.tm,D.ob⟩)
   | _,_=>none
  | none=>match κ,dst with -- a step that is not taken,and hangs on others that are not
   | false,some d=>if d<N then some (True,⟨put S.tm d (false,.m false [.v (.bool false)]),S.ob⟩)else none
   | _,_=>none
 | _,_=>none
def stpP(N:Nat)(gt:Option (Option Nat×Bool))(S:St)(c a b:Operand)(dst:Option Nat):Option (Prop×St):=
 match kap S gt,opd S c,opd S a,opd S b,dst with
 | some κ,some (cc,.m false [.v (.bool bc)]),some (ca,.m false [.v (.bool x)]),some (cb,.m false [.v (.bool y)]),some d=>
  if d<N then some ((κ = true->cc=true)/\(κ = true->bc=true->ca=true)/\(κ = true->bc=false->cb=true),⟨put S.tm d (κ,.m false [.v (.bool (bif bc then x else y))]),S.ob⟩)else none
 | _,_,_,_,_=>none
def stp(N:Nat)(T:Tb)(Γ : List (Nat×AL))(ops:Array Oper)(S:St)(o:Oper):Option (Prop×St):=
 match o.op with
 | .pick c a b=>stpP N (gtmp ops o) S c a b o.dst
 | op=>stp0 N T Γ (gtmp ops o) S op o.dst
variable{q:Bool×Av}
theorem zHC{v:Value}(h:opdC v=some q){w:World}{E:En}{D:Nat->Prop}:q.1=true/\AvR w E D q.2 v:=by
 unfold opdC at h;split at h
 ·rename_i cs
  split at h
  ·rename_i b
   cases h;exact⟨rfl,cs.toList,by simp,O8 _ b⟩
  ·cases h
 ·cases h
 ·rename_i a h2
  cases h;refine⟨rfl,av1 ⟨rfl,?_⟩⟩;cases v<;>first | rfl | (exact absurd rfl (a _)) | (exact absurd rfl (h2 _))
section
variable {w0 : World} {g0 : Gh} {N : Nat} {S : St} {a : Act} {w : World} {E : En}
variable{x:Operand}
theorem LO(h:FO w0 g0 N S a w E)(b:opd S x=some q):(q.1=true->AvR w E (dom S.ob) q.2 (a.eval x)):=by
 cases x with
 | tmp t=>exact(h.tm t q.1 q.2 b).1
 | const v=>exact fun _=>(zHC b).2
 | func f=>cases b;exact fun _=>av1 ⟨rfl,rfl⟩
 | global g=>cases b
theorem Te(h:FO w0 g0 N S a w E){κ : Bool}(hκ : κ = true):∀{xs:List Operand} {l:List (Bool×Av)},opds S xs=some l->FV κ l->AR (fun x b=>AvR w E (dom S.ob) b (a.eval x)) xs (l.map (·.2))
 | [],l,hl,hs=>by cases hl;exact .nil
 | x :: r,l,hl,hs=>by
  simp only[opds]at hl;split at hl
  ·rename_i q l' h1 h2
   cases hl;exact .cons (LO h h1 (hs.1 hκ)) (Te h hκ h2 hs.2)
  ·cases hl
theorem zi{a:Act}{t:Nat}{b:Bool}(h:a.tmps.getD t undef = .bool b):a.tmps[t]?=some (.bool b):=by
 rw[Array.getD_eq_getD_getElem?]at h;cases e:a.tmps[t]? with
 | none=>rw[e]at h;cases h
 | some v=>rw[e]at h;simp at h;rw[h]
theorem PM(h:FO w0 g0 N S a w E){f:Array Oper}{o:Oper}{κ : Bool}(c:kap S (gtmp f o)=some κ):Region.wanted o (yielded f a.tmps) = κ:=by
 unfold gtmp at c;unfold Region.wanted;split at c
 ·rename_i g
  cases c;rw[g]
 ·rename_i j want g
  rw[g];split at c
  ·rename_i t ht
   simp only[kap]at c;split at c
   ·rename_i i b hget
    cases c;obtain⟨k,l⟩:=h.tm t _ _ hget;cases i with
    | true=>
     have d:=(vl1 (k rfl)).1;have m:=zi d;simp only[yielded,ht,Option.bind_some,m,Bool.true_and];cases b<;>cases want<;>rfl
    | false=>
     have d:=l rfl;simp only[yielded,ht,Option.bind_some,Bool.false_and];rw[Array.getD_eq_getD_getElem?]at d;cases e:a.tmps[t]? with
     | none=>rfl
     | some v=>rw[e]at d;simp at d;rw[d];rfl
   ·cases c
  ·cases c
end
def Gm(P:Program)(Γ : List (Nat×AL))(w0:World)(g0:Gh):Prop:=∀w g,Kp w0 g0.g w g->Bi P Γ w
section
variable {P : Program} {T : Tb} {Γ : List (Nat × AL)} {w0 : World} {g0 : Gh} {N : Nat} {S S' : St} {a : Act} {w : World} {ops : Array Oper} {i : Nat} {o : Oper} {c : Prop} {Q : Exit -> Act -> World -> Prop}
theorem zHQ(v:DY P T)(hΓ : Gm P Γ w0 g0)(h:Rel w0 g0 N S a w)(hi:ops[i]?=some o)(b:stp0 N T Γ (gtmp ops o) S o.op o.dst=some (c,S'))(j:c):wpOp P ops Q i (Rel w0 g0 N S') a w:=by
 obtain⟨E,h⟩:=h;unfold stp0 at b;split at b
 ·rename_i κ l hk hl
  split at b
  ·rename_i D hD
   have n:=PM h hk;unfold wpOp;simp only[hi];rw[n];cases κ with
   | true=>
    refine .inl ?_;have hs:FV true l/\D.c:=by
     split at b
     ·split at b
      ·cases b;exact⟨j.1,j.2 rfl⟩
      ·cases b
     ·split at b
      ·cases b
      ·cases b;exact⟨j.1,j.2 rfl⟩
     ·cases b
    refine Oper.wp_mono ?_ (zGk v (hΓ _ _ h.kp) h.ob (Te h rfl hl hs.1) hD hs.2);rintro x w' ⟨y,p,rfl,r,s,t,u⟩;split at b
    ·rename_i d av g hav
     split at b
     ·rename_i f
      cases b;rw[g];exact⟨p,h.next r s t f (fun _=>u av hav) (fun e=>by cases e)⟩
     ·cases b
    ·rename_i g hav
     split at b
     ·cases b
     ·cases b;rw[g];exact⟨p,h.quiet r s t⟩
    ·cases b
   | false=>
    simp only[Bool.false_eq_true,if_false];have k:(gtmp ops o).isSome=true:=by
     cases hgt:gtmp ops o with
     | none=>rw[hgt]at hk;cases hk
     | some q=>rfl
    have m:obK false S.ob D=S.ob:=by
     unfold obK;cases hn:D.nw with
     | false=>exact zb hD hn
     | true=>rfl
    split at b
    ·rename_i d av g hav
     split at b
     ·rename_i f
      cases b;rw[g,m];exact⟨E,h.next (AX.refl _ _ _) (fun _ h=>h) h.ob f (fun e=>by cases e) (fun _=>rfl)⟩
     ·cases b
    ·rw[k]at b;cases b
    ·cases b
  ·split at b
   ·rename_i d g
    split at b
    ·rename_i f
     cases b;have n:=PM h hk;unfold wpOp;simp only[hi];rw[n];simp only[Bool.false_eq_true,if_false];rw[g];exact⟨E,h.next (AX.refl _ _ _) (fun _ h=>h) h.ob f (fun e=>by cases e) (fun _=>rfl)⟩
    ·cases b
   ·cases b
 ·cases b
theorem zHR{x y z:Operand}(h:Rel w0 g0 N S a w)(hi:ops[i]?=some o)(k:o.op = .pick x y z)(b:stpP N (gtmp ops o) S x y z o.dst=some (c,S'))(g:c):wpOp P ops Q i (Rel w0 g0 N S') a w:=by
 obtain⟨E,h⟩:=h;unfold stpP at b;split at b
 ·rename_i κ cc bc ca p cb q d hk hx hy hz hd
  split at b
  ·rename_i f
   cases b;have l:=PM h hk;unfold wpOp;simp only[hi];rw[l];cases κ with
   | true=>
    refine .inl ?_;have j:=(vl1 (LO h hx (g.1 rfl))).1;unfold Oper.wp execOp;simp only[k,j,asBool,Sem.run_bind,Sem.run_pure,Result.andThen_ok,Oper.upon_value,hd];refine⟨E,h.next (AX.refl _ _ _) (fun _ h=>h) h.ob f (fun _=>av1 ⟨?_,rfl⟩) (fun e=>by cases e)⟩;cases bc with
    | true=>exact(vl1 (LO h hy (g.2.1 rfl rfl))).1
    | false=>exact(vl1 (LO h hz (g.2.2 rfl rfl))).1
   | false=>
    simp only[Bool.false_eq_true,if_false];rw[hd];exact⟨E,h.next (AX.refl _ _ _) (fun _ h=>h) h.ob f (fun e=>by cases e) (fun _=>rfl)⟩
  ·cases b
 ·cases b
theorem qO(e:DY P T)(hΓ : Gm P Γ w0 g0)(h:Rel w0 g0 N S a w)(hi:ops[i]?=some o)(b:stp N T Γ ops S o=some (c,S'))(d:c):wpOp P ops Q i (Rel w0 g0 N S') a w:=by
 unfold stp at b;split at b
 ·rename_i x y z ho
  exact zHR h hi ho b d
 ·exact zHQ e hΓ h hi b d
def runL(N:Nat)(T:Tb)(Γ : List (Nat×AL))(ops:Array Oper):List Oper->St->(St->Prop)->Prop
 | [],S,K=>K S
 | o :: r,S,K=>match stp N T Γ ops S o with
  | some (c,S')=>c/\runL N T Γ ops r S' K
  | none=>False
theorem So(b:DY P T)(hΓ : Gm P Γ w0 g0):∀{l:List Nat} {os:List Oper} {S:St} {K:St->Prop} {a:Act} {w:World},l.map (ops[·]?)=os.map some->Rel w0 g0 N S a w->runL N T Γ ops os S K->
 wpOps P ops (fun e a w=>match e with | .normal=>∃S,K S/\Rel w0 g0 N S a w | e=>Q e a w) l a w
 | [],os,S,K,a,w,hl,h,hr=>by
  cases os with
  | nil=>exact⟨S,hr,h⟩
  | cons _ _=>simp at hl
 | i :: l,os,S,K,a,w,hl,h,hr=>by
  cases os with
  | nil=>simp at hl
  | cons o r=>
   simp only[List.map_cons,List.cons.injEq]at hl;simp only[runL]at hr;split at hr
   ·rename_i c S' hst
    rw[wpOps_cons];exact wpOp_mono (fun a w h=>So b hΓ hl.2 h hr.2) (qO b hΓ h hl.1 hst hr.1)
   ·exact hr.elim
def fgt{α : Type}(n:Nat):List (Nat×α)->List (Nat×α)
 | []=>[]
 | (e,x) :: r=>if e<n then(e,x) :: fgt n r else fgt n r
theorem Pj{α : Type}{n d:Nat}{x:α}:∀{l:List (Nat×α)},get (fgt n l) d=some x->get l d=some x
 | [],h=>by cases h
 | (e,y) :: r,h=>by
  simp only[fgt]at h;split at h
  ·simp only[get]at h ⊢;split at h
   ·rename_i b;rw[if_pos b];exact h
   ·rename_i b;rw[if_neg b];exact Pj h
  ·rename_i hn
   have:=Pj h;simp only[get];by_cases b:e=d
   ·exfalso;subst b;have a:∀l:List (Nat×α),get (fgt n l) e=none:=by
     intro l
     induction l with
     | nil=>rfl
     | cons q l ih=>
      obtain⟨f,z⟩:=q;simp only[fgt];split
      ·simp only[get];rw[if_neg (by omega)];exact ih
      ·exact ih
    rw[a]at h;cases h
   ·rw[if_neg b];exact this
theorem Rel.fgt(h:Rel w0 g0 N S a w)(n:Nat):Rel w0 g0 N ⟨fgt n S.tm,S.ob⟩ a w:=by
 obtain⟨E,h⟩:=h;exact⟨E,h.kp,fun d c b e=>h.tm d c b (Pj e),h.ob,h.df,h.sz,h.b0⟩
variable{K:St->Prop}
theorem zDy(c:DY P T)(hΓ : Gm P Γ w0 g0){id:Nat}{n:Nat}(h:Rel w0 g0 N S a w)(d:runL N T Γ ops ops.toList ⟨fgt n S.tm,S.ob⟩ K) :
 (Code.region id ops false).wp P (fun e a w=>match e with | .normal=>∃S,K S/\Rel w0 g0 N S a w | e=>Q e a w) a w:=by
 refine wp_region ?_;refine So c hΓ ?_ (h.fgt n) d;apply List.ext_getElem?;intro j;simp only[List.getElem?_map,List.getElem?_range'];by_cases b:j<ops.size
 ·simp[b]
 ·simp[b]
end
structure Tc where
 rd:List Nat
 d:Option Nat
 k:Tk
def tc0:Tc:=⟨[],none,⟨[],[],[],[]⟩⟩
def tmpsOf:List Operand->List Nat
 | []=>[]
 | .tmp t :: r=>t :: tmpsOf r
 | _ :: r=>tmpsOf r
def LC:Option (Option Nat×Bool)->List Nat
 | some (some t,_)=>[t]
 | _=>[]
def tcAt(T:Tb)(Γ : List (Nat×AL))(ops:Array Oper)(S:St)(o:Oper):Tc:=
 match opds S o.op.operands.toList with
 | some l=>⟨tmpsOf o.op.operands.toList ++ LC (gtmp ops o),o.dst,tks T Γ S.ob o.op o.dst (l.map (·.2))⟩
 | none=>tc0
def Fq(a b:List Nat):Bool:=a.all fun x=>!b.contains x
def ind(x y:Tc):Bool:=
 (match x.d with | some d=>!y.rd.contains d && y.d != some d | none=>true) &&
 (match y.d with | some d=>!x.rd.contains d | none=>true) &&
 (Fq x.k.wr y.k.tc && Fq x.k.wr y.k.sh && Fq x.k.sw y.k.tc) && (Fq y.k.wr x.k.tc && Fq y.k.wr x.k.sh && Fq y.k.sw x.k.tc)
variable{j:Nat}
theorem Ll{a b:List Nat}(h:Fq a b=true)(c:j∈a)(d:j∈b):False:=by
 unfold Fq at h;rw[List.all_eq_true]at h;have:=h j c;simp[d]at this
def SE(x y:Tk):Prop:=Fq x.wr y.tc=true/\Fq x.wr y.sh=true/\Fq x.sw y.tc=true
theorem zEF{x y:Tc}(h:ind x y=true):(∀t,x.d=some t->t∉y.rd/\y.d≠some t)/\(∀t,y.d=some t->t∉x.rd)/\SE x.k y.k/\SE y.k x.k:=by
 unfold ind at h;simp only[Bool.and_eq_true]at h;obtain⟨⟨⟨j,l⟩,⟨a,b⟩,c⟩,⟨f,g⟩,i⟩:=h;refine⟨fun t e=>?_,fun t e=>?_,⟨a,b,c⟩,⟨f,g,i⟩⟩
 ·rw[e]at j;simpa using j
 ·rw[e]at l;simpa using l
theorem Sft.agr{x y:Tk}(h:SE x y)(hs:Sft ob x.wr x.sw us):P5 y.tc y.sh ob (puts ob us):=by
 refine⟨fun j d=>?_,fun j d=>?_⟩
 ·have c:∀q∈us,q.1≠j:=fun q a e=>by
   subst e;rcases hs q a with b | b
   ·exact Ll h.1 b d
   ·exact Ll h.2.2 b.1 d
  clear hs
  induction us generalizing ob with
  | nil=>rfl
  | cons q r ih=>
   show get (puts (put ob q.1 q.2) r) j=_;rw[ih (fun q a=>c q (List.mem_cons_of_mem _ a)),BD,if_neg (c q (List.mem_cons_self ..))]
 ·have g:∀q∈us,q.1=j->shp (some q.2)=shp (get ob j):=fun q a e=>by
   subst e;rcases hs q a with b | b
   ·exact(Ll h.2.1 b d).elim
   ·exact b.2
  clear hs;have key:∀(us:List (Nat×Ob)) (ob':List (Nat×Ob)),shp (get ob' j)=shp (get ob j)->(∀q∈us,q.1=j->shp (some q.2)=shp (get ob j))->shp (get (puts ob' us) j)=shp (get ob j):=by
   intro us
   induction us with
   | nil=>intro ob' f _;exact f
   | cons q r ih=>
    intro ob' f a;refine ih (put ob' q.1 q.2) ?_ (fun p i=>a p (List.mem_cons_of_mem _ i));rw[BD];split
    ·rename_i e;exact a q (List.mem_cons_self ..) e
    ·exact f
  exact key us ob rfl g
theorem zIW(h:j∈(tks T Γ ob op dst l).wr\/j∈(tks T Γ ob op dst l).sw):j∈(tks T Γ ob op dst l).tc:=by
 have b:j∈K4 (hdC l)->j∈l.flatMap Av.ids:=fun a=>by
  match l,a with
  | .m false [x] :: r,a=>
   simp only[hdC]at a;cases x<;>simp only[K4]at a<;>first | (cases a;done) | skip
   simp[Av.ids,Cv.ids]at a ⊢;exact .inl a
  | [],a=>cases a
  | .t _ :: _,a=>cases a
  | .m true _ :: _,a=>cases a
  | .m false [] :: _,a=>cases a
  | .m false (_ :: _ :: _) :: _,a=>cases a
 unfold tks at h ⊢;split at h<;>(try dsimp only at h ⊢)
 case h_5=>
  split at h
  ·rename_i d
   rw[if_pos d];rcases h with h | h
   ·exact List.mem_append_right _ h
   ·exact List.mem_append_left _ (b h)
  ·rcases h with h | h<;>cases h
 case h_8=>
  rcases h with h | h
  ·rcases List.mem_append.1 h with h | h
   ·exact List.mem_append_left _ (List.mem_append_left _ h)
   ·exact List.mem_append_right _ h
  ·split at h
   ·exact List.mem_append_left _ (List.mem_append_right _ h)
   ·cases h
 case h_9=>
  split at h
  ·rename_i c
   rw[if_pos c];rcases h with h | h
   ·exact List.mem_append_right _ h
   ·cases h
  ·rename_i c
   rw[if_neg c];rcases h with h | h
   ·exact h
   ·cases h
 all_goals
  rcases h with h | h
  ·first | exact h | (cases h;done)
  ·cases h
def Sim(S S':St):Prop:=(∀d,get S'.tm d=get S.tm d)/\∀i,get S'.ob i=get S.ob i
theorem Sim.refl(S:St):Sim S S:=⟨fun _=>rfl,fun _=>rfl⟩
variable{S S1 S2:St}
theorem Sim.trans(h:Sim S S1)(a:Sim S1 S2):Sim S S2:=⟨fun d=>(a.1 d).trans (h.1 d),fun i=>(a.2 i).trans (h.2 i)⟩
theorem Sim.symm(h:Sim S S1):Sim S1 S:=⟨fun d=>(h.1 d).symm,fun i=>(h.2 i).symm⟩
theorem Rel.sim{w0:World}{g0:Gh}{N:Nat}{S':St}{a:Act}{w:World}(h:Rel w0 g0 N S a w)(hs:Sim S S'):Rel w0 g0 N S' a w:=by
 obtain⟨E,h⟩:=h;have b:dom S'.ob=dom S.ob:=by funext i;unfold dom;rw[hs.2]
 exact⟨E,h.kp,fun d c e g=>by rw[b];exact h.tm d c e (by rw[<-hs.1];exact g),fun i o hi=>by rw[b];exact h.ob i o (by rw[<-hs.2];exact hi),h.df,h.sz,fun B f=>by rw[b];exact h.b0 B f⟩
def entry(tm:List (Nat×Bool×Av))(dst:Option Nat)(x:Bool×Av):List (Nat×Bool×Av):=
 match dst with
 | some d=>put tm d x
 | none=>tm
theorem N8{x:Operand}(h:∀t,x = .tmp t->get S2.tm t=get S.tm t):opd S2 x=opd S x:=by
 cases x with
 | tmp t=>exact h t rfl
 | _=>rfl
theorem NU{S S2:St}:∀{l:List Operand},(∀t∈tmpsOf l,get S2.tm t=get S.tm t)->opds S2 l=opds S l
 | [],_=>rfl
 | x :: r,h=>by
  simp only[opds];rw[N8 (S:=S) (S2:=S2) (x:=x) (fun t e=>h t (by subst e;simp[tmpsOf])),NU (S:=S) (S2:=S2) (l:=r) (fun t a=>h t (by cases x<;>simp[tmpsOf,a]))]
theorem PN{gt:Option (Option Nat×Bool)}(h:∀t∈LC gt,get S2.tm t=get S.tm t):kap S2 gt=kap S gt:=by
 cases gt with
 | none=>rfl
 | some q=>
  obtain⟨t,a⟩:=q;cases t with
  | none=>rfl
  | some t=>simp only[kap];rw[h t (by simp[LC])]
section
variable {N : Nat} {T : Tb} {Γ : List (Nat × AL)} {ops : Array Oper}
variable{o:Oper}
theorem Qt{c:Prop}(h:stp N T Γ ops S o=some (c,S1)) :
 ∃x us,S1=⟨entry S.tm o.dst x,puts S.ob us⟩/\Sft S.ob (tcAt T Γ ops S o).k.wr (tcAt T Γ ops S o).k.sw us/\(tcAt T Γ ops S o).d=o.dst/\
  ∀S2,(∀t∈(tcAt T Γ ops S o).rd,get S2.tm t=get S.tm t)->P5 (tcAt T Γ ops S o).k.tc (tcAt T Γ ops S o).k.sh S.ob S2.ob->stp N T Γ ops S2 o=some (c,⟨entry S2.tm o.dst x,puts S2.ob us⟩)/\tcAt T Γ ops S2 o=tcAt T Γ ops S o:=by
 obtain⟨dst,op,ty,pos,a,guard⟩:=o;by_cases U:∃x y z,op = .pick x y z
 ·obtain⟨x,y,z,rfl⟩:=U;simp only[stp]at h;unfold stpP at h;split at h
  ·rename_i κ cc bc ca p cb q d hx hy hz hk
   split at h
   ·rename_i i
    cases h;have r:opds S [x,y,z]=some [(cc,.m false [.v (.bool bc)]),(ca,.m false [.v (.bool p)]),(cb,.m false [.v (.bool q)])]:=(by simp only[opds,hx,hy,hz]);refine⟨_,[],rfl,Sft.nil,?_,fun S2 w B=>?_⟩
    ·simp only[tcAt,Op.operands,r]
    ·simp only[tcAt,Op.operands,r]at w B ⊢;have u:opds S2 [x,y,z]=opds S [x,y,z]:=NU (fun t b=>w t (List.mem_append_left _ b));have n:=PN (S:=S) (S2:=S2) (gt:=gtmp ops ⟨some d,.pick x y z,ty,pos,a,guard⟩) (fun t b=>w t (List.mem_append_right _ b));rw[u,r];refine⟨?_,by simp only[Qv B.1]⟩;simp only[opds]at u;have K:opd S2 x=opd S x:=N8 (fun t e=>w t (List.mem_append_left _ (by subst e;simp[tmpsOf])));have L:opd S2 y=opd S y:=N8 (fun t e=>w t (List.mem_append_left _ (by subst e;cases x<;>simp[tmpsOf])));have M:opd S2 z=opd S z:=N8 (fun t e=>w t (List.mem_append_left _ (by subst e;cases x<;>cases y<;>simp[tmpsOf])));simp only[stp,stpP,n,hk,K,hx,L,hy,M,hz,if_pos i];rfl
   ·cases h
  ·cases h
 ·have F:∀S,stp N T Γ ops S ⟨dst,op,ty,pos,a,guard⟩=stp0 N T Γ (gtmp ops ⟨dst,op,ty,pos,a,guard⟩) S op dst:=by
   intro S;unfold stp;split
   ·rename_i x y z u;exact absurd ⟨x,y,z,u⟩ U
   ·rfl
  rw[F]at h;unfold stp0 at h;split at h
  ·rename_i κ l hk hl
   split at h
   ·rename_i D H
    obtain⟨us,w,B,G⟩:=Y1 H;have E:∀S2:St,(∀t∈(tcAt T Γ ops S ⟨dst,op,ty,pos,a,guard⟩).rd,get S2.tm t=get S.tm t)->P5 (tcAt T Γ ops S ⟨dst,op,ty,pos,a,guard⟩).k.tc (tcAt T Γ ops S ⟨dst,op,ty,pos,a,guard⟩).k.sh S.ob S2.ob->
     kap S2 (gtmp ops ⟨dst,op,ty,pos,a,guard⟩)=some κ/\opds S2 op.operands.toList=some l/\BB T Γ dst S2.ob op (l.map (·.2))=some ⟨D.c,D.av,puts S2.ob us,D.nw⟩/\tcAt T Γ ops S2 ⟨dst,op,ty,pos,a,guard⟩=tcAt T Γ ops S ⟨dst,op,ty,pos,a,guard⟩:=fun S2 g f=>by
     simp only[tcAt,hl]at g f;have u:opds S2 op.operands.toList=some l:=(by rw[NU (S:=S) (S2:=S2) (fun t b=>g t (List.mem_append_left _ b)),hl]);have n:kap S2 (gtmp ops ⟨dst,op,ty,pos,a,guard⟩)=some κ:=(by rw[PN (S:=S) (S2:=S2) (fun t b=>g t (List.mem_append_right _ b)),hk]);exact⟨n,u,G S2.ob f,by simp only[tcAt,u,hl,Qv f.1]⟩
    have s:(tcAt T Γ ops S ⟨dst,op,ty,pos,a,guard⟩).k=tks T Γ S.ob op dst (l.map (·.2)):=(by simp only[tcAt,hl]);have C:(tcAt T Γ ops S ⟨dst,op,ty,pos,a,guard⟩).d=dst:=(by simp only[tcAt,hl]);rw[s];split at h
    ·rename_i d av A
     split at h
     ·rename_i i
      cases h;refine⟨(κ,av),bif κ || !D.nw then us else [],?_,?_,C,fun S2 g f=>?_⟩
      ·unfold obK;cases κ || !D.nw
       ·rfl
       ·simp only[cond_true];rw[w];rfl
      ·cases κ || !D.nw
       ·exact Sft.nil
       ·exact B
      ·obtain⟨O,P,Q,R⟩:=E S2 g (by rw[s];exact f);refine⟨?_,R⟩;rw[F];simp only[stp0,O,P,Q,A,if_pos i,obK];cases κ || !D.nw<;>rfl
     ·cases h
    ·rename_i A
     split at h
     ·cases h
     ·rename_i I
      cases h;refine⟨(true,.t []),us,by rw[w];rfl,B,C,fun S2 g f=>?_⟩;obtain⟨O,P,Q,R⟩:=E S2 g (by rw[s];exact f);refine⟨?_,R⟩;rw[F];simp only[stp0,O,P,Q,A,if_neg I];rfl
    ·cases h
   ·rename_i H
    have s:(tcAt T Γ ops S ⟨dst,op,ty,pos,a,guard⟩).k=tks T Γ S.ob op dst (l.map (·.2)):=(by simp only[tcAt,hl]);split at h
    ·rename_i d
     split at h
     ·rename_i i
      cases h;refine⟨(false,.m false [.v (.bool false)]),[],rfl,Sft.nil,by simp only[tcAt,hl],fun S2 g f=>?_⟩;rw[s]at f;simp only[tcAt,hl]at g;have u:opds S2 op.operands.toList=some l:=(by rw[NU (S:=S) (S2:=S2) (fun t b=>g t (List.mem_append_left _ b)),hl]);have n:kap S2 (gtmp ops ⟨some d,op,ty,pos,a,guard⟩)=some false:=(by rw[PN (S:=S) (S2:=S2) (fun t b=>g t (List.mem_append_right _ b)),hk]);have b:=Qv f.1;have hn:BB T Γ (some d) S2.ob op (l.map (·.2))=none:=by
       cases e:BB T Γ (some d) S2.ob op (l.map (·.2))with
       | none=>rfl
       | some D=>
        obtain⟨us,-,-,G⟩:=Y1 e;have:=G S.ob (by rw[b];exact⟨fun j J=>(f.1 j J).symm,fun j J=>(f.2 j J).symm⟩);rw[H]at this;cases this
      refine⟨?_,by simp only[tcAt,u,hl,b]⟩;rw[F];simp only[stp0,n,u,hn,if_pos i];rfl
     ·cases h
    ·cases h
  ·cases h
theorem ML{i:Nat}:∀{us:List (Nat×Ob)} {ob:List (Nat×Ob)},(∀q∈us,q.1≠i)->get (puts ob us) i=get ob i
 | [],ob,_=>rfl
 | q :: r,ob,h=>by
  have a:=ML (us:=r) (ob:=put ob q.1 q.2) (i:=i) (fun x b=>h x (List.mem_cons_of_mem _ b));show get (puts (put ob q.1 q.2) r) i=_;rw[a,BD,if_neg (h q (List.mem_cons_self ..))]
theorem Rf{ob':List (Nat×Ob)}(h:get ob' i=get ob i):∀us,get (puts ob' us) i=get (puts ob us) i:=fun us=>
 Agr.puts (L:=[i]) (ob:=ob) (ob':=ob') (fun j a=>by simp at a;subst a;exact h) us i (by simp)
theorem Sf(h:j∈(tcAt T Γ ops S o).k.wr\/j∈(tcAt T Γ ops S o).k.sw):j∈(tcAt T Γ ops S o).k.tc:=by
 unfold tcAt at *;split at h
 ·exact zIW h
 ·rcases h with h | h<;>cases h
theorem Sft.tc(h:Sft S.ob (tcAt T Γ ops S o).k.wr (tcAt T Γ ops S o).k.sw us):∀q∈us,q.1∈(tcAt T Γ ops S o).k.tc:=fun q a=>Sf ((h q a).imp_right fun h=>h.1)
theorem I8{tm:List (Nat×Bool×Av)}{x:Bool×Av}{t:Nat}(h:dst≠some t):get (entry tm dst x) t=get tm t:=by
 cases dst with
 | none=>rfl
 | some d=>simp only[entry];rw[BD,if_neg (fun e=>h (by rw[e]))]
theorem zGI{x y:Oper}{c1 c2:Prop}(Q:stp N T Γ ops S x=some (c1,S1))(R:stp N T Γ ops S1 y=some (c2,S2))(hi:ind (tcAt T Γ ops S x) (tcAt T Γ ops S1 y)=true) :
 ∃c l,stp N T Γ ops S y=some (c2,c)/\stp N T Γ ops c x=some (c1,l)/\Sim S2 l/\tcAt T Γ ops S y=tcAt T Γ ops S1 y/\tcAt T Γ ops c x=tcAt T Γ ops S x:=by
 obtain⟨m,a,L,H,E,Z⟩:=Qt Q;obtain⟨p,g,M,I,F,l2⟩:=Qt R;subst L;obtain⟨G,U,v,V⟩:=zEF hi;have A:∀t∈(tcAt T Γ ops ⟨entry S.tm x.dst m,puts S.ob a⟩ y).rd,x.dst≠some t:=fun t d e=>(G t (E.trans e)).1 d
 have B:∀t∈(tcAt T Γ ops S x).rd,y.dst≠some t:=fun t d e=>U t (F.trans e) d
 have z:∀t,x.dst=some t->y.dst≠some t:=fun t e K=>(G t (E.trans e)).2 (F.trans K)
 obtain⟨D,J⟩:=H.agr v;obtain⟨O,P⟩:=l2 S (fun t d=>(I8 (A t d)).symm) ⟨fun j w=>(D j w).symm,fun j w=>(J j w).symm⟩;have C:Sft S.ob (tcAt T Γ ops ⟨entry S.tm x.dst m,puts S.ob a⟩ y).k.wr (tcAt T Γ ops ⟨entry S.tm x.dst m,puts S.ob a⟩ y).k.sw g:=fun q n=>by
  rcases I q n with h | h
  ·exact .inl h
  ·refine .inr ⟨h.1,h.2.trans ?_⟩;show shp (get (puts S.ob a) q.1)=_;rw[D q.1 (Sf (.inr h.1))]
 obtain⟨X,Y⟩:=Z ⟨entry S.tm y.dst p,puts S.ob g⟩ (fun t d=>I8 (B t d)) (C.agr V);refine⟨_,_,O,X,?_,P,Y⟩;subst M;refine⟨fun t=>?_,fun i=>?_⟩
 ·show get (entry (entry S.tm y.dst p) x.dst m) t=get (entry (entry S.tm x.dst m) y.dst p) t;by_cases f:x.dst=some t
  ·have b:=z t f;rw[I8 b,f];simp only[entry];rw[BD,BD,if_pos rfl,if_pos rfl]
  ·rw[I8 f];by_cases b:y.dst=some t
   ·rw[b];simp only[entry];rw[BD,BD,if_pos rfl,if_pos rfl]
   ·rw[I8 b,I8 b,I8 f]
 ·show get (puts (puts S.ob g) a) i=get (puts (puts S.ob a) g) i;by_cases f:∃q∈a,q.1=i
  ·obtain⟨q,n,rfl⟩:=f;have b:∀r∈g,r.1≠q.1:=fun r W e=>by
    have s:=I.tc r W;rw[e]at s;rcases H q n with u | u
    ·exact Ll v.1 u s
    ·exact Ll v.2.2 u.1 s
   rw[ML b];exact Rf (ML b) a
  ·have o:∀q∈a,q.1≠i:=fun q n e=>f ⟨q,n,e⟩
   rw[ML o];exact(Rf (ML o) g).symm
theorem zHS{c:Prop}(h:stp N T Γ ops S o=some (c,S1))(hs:Sim S S2):∃d,stp N T Γ ops S2 o=some (c,d)/\Sim S1 d/\tcAt T Γ ops S2 o=tcAt T Γ ops S o:=by
 obtain⟨a,k,rfl,m,l,g⟩:=Qt h;obtain⟨e,f⟩:=g S2 (fun t _=>hs.1 t) ⟨fun j _=>hs.2 j,fun j _=>by rw[hs.2]⟩;refine⟨_,e,⟨fun t=>?_,fun i=>Rf (hs.2 i) k⟩,f⟩;by_cases b:o.dst=some t
 ·show get (entry S2.tm o.dst a) t=get (entry S.tm o.dst a) t;rw[b];simp only[entry];rw[BD,BD,if_pos rfl,if_pos rfl]
 ·show get (entry S2.tm o.dst a) t=get (entry S.tm o.dst a) t;rw[I8 b,I8 b];exact hs.1 t
def F1(N:Nat)(T:Tb)(Γ : List (Nat×AL))(ops:Array Oper)(tcf:Nat->Tc)(K:St->Prop):List Nat->St->Prop
 | [],S=>∃S',K S'/\Sim S' S
 | i :: l,S=>∃o c S1,ops[i]?=some o/\stp N T Γ ops S o=some (c,S1)/\c/\tcAt T Γ ops S o=tcf i/\F1 N T Γ ops tcf K l S1
variable{K:St->Prop}
theorem F1.sim{a:Nat->Tc}:∀{l:List Nat} {S S2:St},F1 N T Γ ops a K l S->Sim S S2->F1 N T Γ ops a K l S2
 | [],S,S2,⟨S',hk,hs⟩,h=>⟨S',hk,hs.trans h⟩
 | i :: l,S,S2,⟨o,c,S1,h1,h2,h3,h4,h5⟩,h=>by
  obtain⟨b,d,e,f⟩:=zHS h2 h;exact⟨o,c,b,h1,d,h3,f.trans h4,h5.sim e⟩
theorem F1.pull{a:Nat->Tc}{K:St->Prop}{i:Nat}{l2:List Nat}:∀{l1:List Nat} {S:St},(∀j∈l1,ind (a j) (a i)=true)->F1 N T Γ ops a K (l1 ++ i :: l2) S->F1 N T Γ ops a K (i :: (l1 ++ l2)) S
 | [],S,_,h=>h
 | j :: l1,S,hind,⟨o,c,S1,h1,h2,h3,h4,h5⟩=>by
  obtain⟨o',c',S2,f,g,l,e,m⟩:=F1.pull (fun k n=>hind k (List.mem_cons_of_mem _ n)) h5;obtain⟨b,d,p,q,r,s,t⟩:=zGI h2 g (by rw[h4,e];exact hind j (List.mem_cons_self ..));exact⟨o',c',b,f,p,l,s.trans e,o,c,d,h1,q,h3,t.trans h4,m.sim r⟩
end
def K9(acc:List Nat)(es:List Edge)(s:Nat):Nat:=
 match es with
 | []=>s
 | e :: r=>K9 acc r (if Region.binds .any e then s ||| 2 ^ e.on ||| acc.getD e.on 0 else s)
def G2:List Oper->List Nat->List Nat
 | [],acc=>acc
 | o :: r,acc=>G2 r (acc ++ [K9 acc o.after.toList 0])
theorem YQ{acc:List Nat}{j:Nat}:∀{es:List Edge} {s:Nat},(K9 acc es s).testBit j=true->s.testBit j=true\/∃e∈es,Region.binds .any e=true/\(e.on=j\/(acc.getD e.on 0).testBit j=true)
 | [],s,h=>.inl h
 | e :: r,s,h=>by
  simp only[K9]at h;rcases YQ h with a | ⟨d,b,f⟩
  ·split at a
   ·rename_i c
    simp only[Nat.testBit_or,Bool.or_eq_true,Nat.testBit_two_pow,decide_eq_true_eq]at a;rcases a with(a | a) | a
    ·exact .inl a
    ·exact .inr ⟨e,List.mem_cons_self ..,c,.inl a⟩
    ·exact .inr ⟨e,List.mem_cons_self ..,c,.inr a⟩
   ·exact .inl a
  ·exact .inr ⟨d,List.mem_cons_of_mem _ b,f⟩
theorem RD:∀{os:List Oper} {acc:List Nat} {i:Nat},i<acc.length->(G2 os acc)[i]?=acc[i]?
 | [],acc,i,h=>rfl
 | o :: r,acc,i,h=>by
  simp only[G2];rw[RD (by simp;omega),List.getElem?_append_left h]
theorem XE:∀{os:List Oper} {acc:List Nat} {i:Nat} {o:Oper},os[i]?=some o->∃a,(G2 os acc)[acc.length+i]?=some (K9 a o.after.toList 0)/\∀k m,a[k]?=some m->k<acc.length+i/\(G2 os acc)[k]?=some m
 | [],acc,i,o,h=>by simp at h
 | x :: r,acc,i,o,h=>by
  cases i with
  | zero=>
   simp at h;subst h;refine⟨acc,?_,fun k m b=>?_⟩
   ·simp only[G2];rw[RD (by simp)];simp
   ·have c:=(List.getElem?_eq_some_iff.1 b).1;simp only[G2];refine⟨by omega,?_⟩;rw[RD (by simp;omega),List.getElem?_append_left c];exact b
  | succ i=>
   obtain⟨a,d,e⟩:=XE (os:=r) (acc:=acc ++ [K9 acc x.after.toList 0]) (i:=i) (o:=o) (by simpa using h);simp only[List.length_append,List.length_cons,List.length_nil]at d e;exact⟨a,by simp only[G2];rw[<-d];congr 1;omega,fun k m b=>by obtain⟨g,f⟩:=e k m b;exact⟨by omega,by simp only[G2];exact f⟩⟩
def bef(ms:List Nat)(i j:Nat):Bool:=(ms.getD i 0).testBit j
def N1(ms:List Nat)(ts:List Tc)(i:Nat)(x:Tc):Nat->List Tc->Bool
 | _,[]=>true
 | j,y :: r=>(decide (i<=j) || bef ms i j || ind y x) && N1 ms ts i x (j+1) r
def chk(ops:List Oper)(ts:List Tc):Bool:=
 (ops.zipIdx.all fun q=>q.1.after.toList.all fun e=>!Region.binds .any e || decide (e.on<q.2)) &&
 (ts.zipIdx.all fun q=>N1 (G2 ops []) ts q.2 q.1 0 ts)
theorem YS{ms:List Nat}{ts:List Tc}{i:Nat}{x:Tc}:∀{r:List Tc} {k:Nat},N1 ms ts i x k r=true->∀j y,r[j]?=some y->k+j<i->bef ms i (k+j)=true\/ind y x=true
 | [],k,h,j,y,hj,_=>by simp at hj
 | z :: r,k,h,j,y,hj,hlt=>by
  simp only[N1,Bool.and_eq_true,Bool.or_eq_true,decide_eq_true_eq]at h;cases j with
  | zero=>
   simp at hj;subst hj;rcases h.1 with(a | a) | a
   ·omega
   ·exact .inl a
   ·exact .inr a
  | succ j=>
   have:=YS h.2 j y (by simpa using hj) (by omega)
   rwa [show k+(j+1)=k+1+j by omega]
section
variable {P : Program} {N : Nat} {T : Tb} {Γ : List (Nat × AL)} {ops : Array Oper} {w0 : World} {g0 : Gh} {Q : Exit -> Act -> World -> Prop}
def Lst(listed:Array Bool)(i:Nat):Prop:=listed.getD i false=true
def ZX(ops:Array Oper)(listed:Array Bool):Prop:=∀i o,ops[i]?=some o->Lst listed i->∀e∈o.after,Region.binds .any e=true->Lst listed e.on
variable{a:Array Bool}
theorem zB9(r:ZX ops a):∀(i:Nat) {j:Nat} {o:Oper},ops[i]?=some o->(∀e∈o.after,Region.binds .any e=true->Lst a e.on)->bef (G2 ops.toList []) i j=true->Lst a j:=by
 intro i
 induction i using Nat.strongRecOn with
 | _ i ih=>
  intro j o n s g;obtain⟨c,k,l⟩:=XE (os:=ops.toList) (acc:=[]) (i:=i) (o:=o) (by simpa using n);simp only[List.length_nil,Nat.zero_add]at k l;unfold bef at g;rw[List.getD_eq_getElem?_getD,k]at g;simp only[Option.getD_some]at g;rcases YQ g with b | ⟨e,t,h,b⟩
  ·simp at b
  ·have f:=s e (by simpa using t) h;rcases b with b | b
   ·rw[<-b];exact f
   ·cases hk:c[e.on]? with
    | none=>rw[List.getD_eq_getElem?_getD,hk]at b;simp at b
    | some m=>
     rw[List.getD_eq_getElem?_getD,hk]at b;obtain⟨p,q⟩:=l _ _ hk;have d:e.on<ops.size:=by
      have:=(Array.getElem?_eq_some_iff.1 n).1;omega
     refine ih e.on p (o:=ops[e.on]) (Array.getElem?_eq_getElem d) (r e.on _ (Array.getElem?_eq_getElem d) f) ?_;unfold bef;rw[List.getD_eq_getElem?_getD,q];exact b
def DV(ops:Array Oper)(listed:Array Bool):List Nat:=(List.range ops.size).filter fun i=>!listed.getD i true
theorem Lp:i∈DV ops a↔i<ops.size/\a.getD i true=false:=by
 unfold DV;simp
theorem Lst.iff(hs:a.size=ops.size)(hi:i<ops.size):Lst a i↔a.getD i true=true:=by
 unfold Lst;have:i<a.size:=by omega
 simp[Array.getD_eq_getD_getElem?,this]
theorem zFx(hs:a.size=ops.size){l1 l2:List Nat}(h:DV ops a=l1 ++ i :: l2):DV ops (a.setIfInBounds i true)=l1 ++ l2/\∀j∈l1,j<i:=by
 have f:List.Pairwise (· < ·) (DV ops a):=List.Pairwise.filter _ List.pairwise_lt_range;rw[h,List.pairwise_append,List.pairwise_cons]at f;have g:∀j∈l1,j<i:=fun j c=>f.2.2 j c i (List.mem_cons_self ..)
 have l:∀j∈l2,i<j:=f.2.1.1;refine⟨?_,g⟩;have e:DV ops (a.setIfInBounds i true)=(DV ops a).filter (fun k=>decide (k≠i)):=by
  unfold DV;rw[List.filter_filter];apply List.filter_congr;intro k m;rw[List.mem_range]at m;have d:k<a.size:=(by omega);simp only[Array.getD_eq_getD_getElem?,Array.getElem?_setIfInBounds];by_cases b:i=k
  ·subst b;simp[d]
  ·simp[b,fun h=>b (Eq.symm h),d];intro;exact fun h=>b h.symm
 rw[e,h,List.filter_append,List.filter_cons];simp only[ne_eq,not_true_eq_false,decide_false,Bool.false_eq_true,if_false];rw[List.filter_eq_self.2 (fun j c=>by have:=g j c;simp;omega),List.filter_eq_self.2 (fun j c=>by have:=l j c;simp;omega)]
variable{K:St->Prop}
theorem zHp(hT:DY P T)(hΓ : Gm P Γ w0 g0){ts:List Tc}(f:chk ops.toList ts=true)(Z:ts.length=ops.size) :
 ∀(d:Nat) (b:Array Bool) (S:St) (a:Act) (w:World),b.size=ops.size->(DV ops b).length<=d->ZX ops b->F1 N T Γ ops (fun i=>ts.getD i tc0) K (DV ops b) S->Rel w0 g0 N S a w->
  wpAny P .any ops (fun e a w=>match e with | .normal=>∃S,K S/\Rel w0 g0 N S a w | e=>Q e a w) d b a w:=by
 unfold chk at f;rw[Bool.and_eq_true,List.all_eq_true,List.all_eq_true]at f;have g:∀i o,ops[i]?=some o->∀e∈o.after,Region.binds .any e=true->e.on<i:=fun i o m e x v=>by
  have A:=f.1 (o,i) (by rw[List.mem_iff_getElem?];exact⟨i,by simp[List.getElem?_zipIdx,m]⟩);rw[List.all_eq_true]at A;have:=A e (by simpa using x);simp only[v,Bool.not_true,Bool.false_or,decide_eq_true_eq]at this;exact this
 have s:∀(b:Array Bool) (S:St) (a:Act) (w:World),DV ops b = []->F1 N T Γ ops (fun i=>ts.getD i tc0) K (DV ops b) S->Rel w0 g0 N S a w->∃S,K S/\Rel w0 g0 N S a w:=fun b S a w J t h=>by
  rw[J]at t;obtain⟨S',C,hs⟩:=t;exact⟨S',C,h.sim hs.symm⟩
 intro d
 induction d with
 | zero=>
  intro b S a w hs M L t h;have J:DV ops b = []:=List.length_eq_zero_iff.1 (by omega);refine⟨?_,s b S a w J t h⟩;rw[List.eq_nil_iff_forall_not_mem];intro i hi;obtain⟨A,o,m,_⟩:=mem_ready.1 hi;have:i∈DV ops b:=Lp.2 ⟨(Array.getElem?_eq_some_iff.1 m).1,A⟩;rw[J]at this;cases this
 | succ d ih=>
  intro b S a w hs M L t h;refine⟨fun V=>?_,fun i hi=>?_⟩
  ·cases hres:DV ops b with
   | nil=>exact s b S a w hres t h
   | cons i l=>
    exfalso;have hi:i∈DV ops b:=(by rw[hres];exact List.mem_cons_self ..);obtain⟨p,z⟩:=Lp.1 hi;have G:∀k,k<i->Lst b k:=fun k C=>by
     rw[Lst.iff hs (by omega)];cases hg:b.getD k true with
     | true=>rfl
     | false=>
      have D:k∈DV ops b:=Lp.2 ⟨by omega,hg⟩;have U:List.Pairwise (· < ·) (DV ops b):=List.Pairwise.filter _ List.pairwise_lt_range;rw[hres]at D U;rw[List.pairwise_cons]at U;rcases List.mem_cons.1 D with e | e
      ·omega
      ·have:=U.1 k e;omega
    have:i∈Region.ready .any ops b:=mem_ready.2 ⟨z,ops[i],Array.getElem?_eq_getElem p,fun e x v=>G _ (g i _ (Array.getElem?_eq_getElem p) e x v)⟩;rw[V]at this;cases this
  ·obtain⟨z,o,m,r⟩:=mem_ready.1 hi;have p:=(Array.getElem?_eq_some_iff.1 m).1;have F:i∈DV ops b:=Lp.2 ⟨p,z⟩;obtain⟨l1,l2,q⟩:=List.append_of_mem F;obtain⟨u,R⟩:=zFx hs q;rw[q]at t;obtain⟨o',c,S1,W,g2,g3,g4,g5⟩:=F1.pull (fun j Y=>by
    have iA:=R j Y;have H:ts[i]?=some ts[i]:=List.getElem?_eq_getElem (by omega);have I:ts[j]?=some ts[j]:=List.getElem?_eq_getElem (by omega);have A:=f.2 (ts[i],i) (by rw[List.mem_iff_getElem?];exact⟨i,by simp[List.getElem?_zipIdx,H]⟩);have B:=YS A j ts[j] I (by omega);rw[Nat.zero_add]at B;simp only[List.getD_eq_getElem?_getD,H,I,Option.getD_some];rcases B with B | B
    ·exfalso;have X:=zB9 L i m r B;have O:j∈DV ops b:=(by rw[q];exact List.mem_append_left _ Y);rw[Lst.iff hs (by omega),(Lp.1 O).2]at X;cases X
    ·exact B) t
   rw[m]at W;cases W;refine wpOp_mono (fun a' w' h'=>?_) (qO hT hΓ h m g2 g3);refine ih (b.setIfInBounds i true) S1 a' w' (by simpa using hs) ?_ ?_ (by rw[u];exact g5) h'
   ·rw[u];rw[q]at M;simp at M ⊢;omega
   ·intro k ok y C e x v;unfold Lst at *;simp only[Array.getD_eq_getD_getElem?,Array.getElem?_setIfInBounds]at C ⊢;by_cases E:i=k
    ·subst E;rw[m]at y;cases y;have:=r e x v;by_cases n:i=e.on
     ·have:=g i o m e x v;omega
     ·rw[if_neg n];simpa[Array.getD_eq_getD_getElem?]using this
    ·rw[if_neg E]at C;have:=L k ok y (by simpa[Lst,Array.getD_eq_getD_getElem?]using C) e x v;by_cases n:i=e.on
     ·rw[if_pos n,if_pos (show i<b.size by omega)];rfl
     ·rw[if_neg n];simpa[Lst,Array.getD_eq_getD_getElem?]using this
def runT(N:Nat)(T:Tb)(Γ : List (Nat×AL))(ops:Array Oper):List Oper->St->List Tc->(St->List Tc->Prop)->Prop
 | [],S,tr,K=>K S tr
 | o :: r,S,tr,K=>match stp N T Γ ops S o with
  | some (c,S')=>c/\runT N T Γ ops r S' (tr ++ [tcAt T Γ ops S o]) K
  | none=>False
theorem ST{K:St->List Tc->Prop}:∀{os:List Oper} {S:St} {tr:List Tc} {n:Nat},ops.toList.drop n=os->n<=ops.size->tr.length=n->runT N T Γ ops os S tr K->
 ∃ts,ts.length=ops.size/\(∀i,i<n->ts[i]?=tr[i]?)/\F1 N T Γ ops (fun i=>ts.getD i tc0) (fun S=>K S ts) (List.range' n (ops.size - n)) S
 | [],S,tr,n,hos,hn,ht,h=>by
  have:ops.size - n=0:=by
   have:=congrArg List.length hos;simpa using this
  rw[this];exact⟨tr,by omega,fun _ _=>rfl,S,h,Sim.refl _⟩
 | o :: r,S,tr,n,hos,hn,ht,h=>by
  simp only[runT]at h;split at h
  ·rename_i c S' hst
   have b:ops.size - n=r.length+1:=by
    have:=congrArg List.length hos;simpa using this
   have g:ops.toList.drop (n+1)=r:=by
    rw[<-List.drop_drop,hos];rfl
   have f:ops[n]?=some o:=by
    have:(ops.toList.drop n)[0]?=some o:=(by rw[hos];rfl);rw[List.getElem?_drop]at this;simpa using this
   obtain⟨ts,d,a,e⟩:=ST (os:=r) (S:=S') (tr:=tr ++ [tcAt T Γ ops S o]) (n:=n+1) g (by omega) (by simp[ht]) h.2;refine⟨ts,d,fun i hi=>?_,?_⟩
   ·rw[a i (by omega),List.getElem?_append_left (by omega)]
   ·rw[show ops.size - n=(ops.size - (n+1))+1 by omega,List.range'_succ];refine⟨o,c,S',f,hst,h.1,?_,e⟩;have:=a n (by omega);rw[List.getElem?_append_right (by omega),ht]at this;simp only[Nat.sub_self,List.getElem?_cons_zero]at this;show _=ts.getD n _;rw[List.getD_eq_getElem?_getD,this];rfl
  ·exact h.elim
theorem Rel.drew{a:Act}{w:World}(h:Rel w0 g0 N S a w):Rel w0 g0 N S a w.drew:=by
 obtain⟨E,h⟩:=h;have d:AX (dom S.ob) w E w.drew E:=⟨Kp.drew _ _,fun _ _=>rfl,fun _ _=>rfl⟩;exact⟨E,h.quiet d (fun _ h=>h) (fun j b c=>ObR.ext d (fun _ h=>h) (by unfold dom;rw[c];rfl) (X:=fun _=>False) (fun _ _ _=>⟨rfl,rfl⟩) (fun _ _ x=>x.elim) (fun _ _ _ _ x=>x.elim) (h.ob j b c))⟩
theorem zEf(x:DY P T)(hΓ : Gm P Γ w0 g0)(y:P.follows .mixedOrders=true){id n:Nat}{a:Act}{w:World}(h:Rel w0 g0 N S a w)(q:runT N T Γ ops ops.toList ⟨fgt n S.tm,S.ob⟩ [] (fun S ts=>chk ops.toList ts=true/\K S)) :
 (Code.region id ops true).wp P (fun e a w=>match e with | .normal=>∃S,K S/\Rel w0 g0 N S a w | e=>Q e a w) a w:=by
 obtain⟨ts,v,-,f⟩:=ST (n:=0) (by simp) (Nat.zero_le _) rfl q;by_cases d:chk ops.toList ts=true
 ·refine wp_region_any y ?_;have b:DV ops (Array.replicate ops.size false)=List.range' 0 (ops.size - 0):=by
   unfold DV;rw[List.filter_eq_self.2 (fun i hi=>by rw[List.mem_range]at hi;simp[Array.getD_eq_getD_getElem?,hi]),Nat.sub_zero,List.range_eq_range']
  have m:F1 N T Γ ops (fun i=>ts.getD i tc0) K (List.range' 0 (ops.size - 0)) ⟨Go.Proofs.YtddigaohmfpepaaGreatDoor.fgt n S.tm,S.ob⟩:=by
   generalize List.range' 0 (ops.size - 0)=l at f;generalize (⟨Go.Proofs.YtddigaohmfpepaaGreatDoor.fgt n S.tm,S.ob⟩:St)=S0 at f;clear q b
   induction l generalizing S0 with
   | nil=>obtain⟨S',⟨_,p⟩,hs⟩:=f;exact⟨S',p,hs⟩
   | cons i l ih=>obtain⟨o,c,g,r,s,t,u,k⟩:=f;exact⟨o,c,g,r,s,t,u,ih g k⟩
  exact zHp x hΓ d v ops.size _ _ a w.drew (by simp) (by rw[b];simp) (fun i o _ j=>by unfold Lst at j;rw[Array.getD_eq_getD_getElem?,Array.getElem?_replicate]at j;split at j<;>simp at j) (by rw[b];exact m) (h.drew.fgt n)
 ·exfalso;apply d;clear d;generalize List.range' 0 (ops.size - 0)=l at f;generalize (⟨Go.Proofs.YtddigaohmfpepaaGreatDoor.fgt n S.tm,S.ob⟩:St)=S0 at f;clear q
  induction l generalizing S0 with
  | nil=>obtain⟨S',⟨p,_⟩,_⟩:=f;exact p
  | cons i l ih=>obtain⟨o,c,g,r,s,t,u,k⟩:=f;exact ih g k
end
end Go.Proofs.YtddigaohmfpepaaGreatDoor
