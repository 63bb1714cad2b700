/- A part of the proof. -/
import Derived.Test.YtibhefllijahkaaGreatDoorF5
set_option linter.unusedVariables false
set_option maxRecDepth 20000
set_option maxHeartbeats 4000000
namespace Go.Proofs.YtibhefllijahkaaGreatDoor
open Go.RowKit
set_option linter.unusedSimpArgs false
theorem zAt(x:Cv)(ob:List (Nat×Ob)):∃b,(frz1 ob x).2=puts ob b/\(∀q∈b,q.1∈x.ids)/\∀ob2,Agr x.ids ob ob2->frz1 ob2 x=((frz1 ob x).1,puts ob2 b):=by
 cases x with
 | h r=>
  simp only[frz1];cases hg:rowE ob r with
  | none=>exact⟨[],rfl,by simp,fun ob2 a=>by rw[JB (a r (by simp[Cv.ids])),hg];rfl⟩
  | some o=>exact⟨[(r,.dead)],rfl,by simp[Cv.ids],fun ob2 a=>by rw[JB (a r (by simp[Cv.ids])),hg];rfl⟩
 | _=>exact⟨[],rfl,by simp,fun ob2 a=>rfl⟩
theorem OF:∀(l:List Cv) (ob:List (Nat×Ob)),∃b,(frz l ob).2=puts ob b/\(∀q∈b,q.1∈l.flatMap Cv.ids)/\∀ob2,Agr (l.flatMap Cv.ids) ob ob2->frz l ob2=((frz l ob).1,puts ob2 b)
 | [],ob=>⟨[],rfl,by simp,fun ob2 _=>rfl⟩
 | x :: l,ob=>by
  obtain⟨a,d,g,i⟩:=zAt x ob;obtain⟨o,k,m,n⟩:=OF l (frz1 ob x).2;refine⟨a ++ o,?_,fun q s=>?_,fun ob2 e=>?_⟩
  ·simp only[frz,k,Cg];rw[d]
  ·simp only[List.flatMap_cons,List.mem_append];rcases List.mem_append.1 s with h | h
   ·exact .inl (g q h)
   ·exact .inr (m q h)
  ·have p:=i ob2 (e.sub fun j c=>by simp[c]);have r:=n (puts ob2 a) (d▸(e.sub fun j c=>by simp only[List.flatMap_cons,List.mem_append];exact .inr c).puts a);simp only[frz,p,r,Cg]
theorem YS:∀(l:List (Nat×List Cv)) (ob:List (Nat×Ob)),∃b,(Es l ob).2=puts ob b/\(∀q∈b,q.1∈l.flatMap fun p=>p.2.flatMap Cv.ids)/\∀ob2,Agr (l.flatMap fun p=>p.2.flatMap Cv.ids) ob ob2->Es l ob2=((Es l ob).1,puts ob2 b)
 | [],ob=>⟨[],rfl,by simp,fun ob2 _=>rfl⟩
 | x :: l,ob=>by
  obtain⟨a,d,g,i⟩:=OF x.2 ob;obtain⟨o,k,m,n⟩:=YS l (frz x.2 ob).2;refine⟨a ++ o,?_,fun q t=>?_,fun ob2 e=>?_⟩
  ·simp only[Es,k,Cg];rw[d]
  ·rw[List.flatMap_cons,List.mem_append];rcases List.mem_append.1 t with h | h
   ·exact .inl (g q h)
   ·exact .inr (m q h)
  ·have r:=i ob2 (e.sub fun j c=>by rw[List.flatMap_cons,List.mem_append];exact .inl c);have s:=n (puts ob2 a) (d▸(e.sub fun j c=>by rw[List.flatMap_cons,List.mem_append];exact .inr c).puts a);simp only[Es,r,s,Cg]
theorem Yk:∀{ps:List (Nat×Operand)} {l:List Av} {q:List (Nat×List Cv)},partsOf ps l=some q->∀j∈q.flatMap (fun p=>p.2.flatMap Cv.ids),j∈l.flatMap Av.ids
 | [],l,q,h=>by
  cases l with
  | nil=>cases h;simp
  | cons x r=>first | (cases h;done) | (cases h;simp)
 | (i,o) :: ps,[],q,h=>by cases h
 | (i,o) :: ps,.t c :: s,q,h=>by cases h
 | (i,o) :: ps,.m g c :: s,q,h=>by
  simp only[partsOf]at h;split at h
  ·rename_i b hq'
   cases h;intro j a;rw[List.flatMap_cons,List.mem_append]at a ⊢;rcases a with a | a
   ·exact .inl a
   ·exact .inr (Yk hq' j a)
  ·cases h
def tkP(ob:List (Nat×Ob))(r:Nat):Cv->Option (Prop×List (Nat×Ob))
 | .e i k a j=>match get ob i,get ob r with
  | some (.row k' n F),none=>match oOf (F a j)with
   | some (kk,m,h)=>if k'=k/\j+1<=k then some (a<n,[(i,.row k n (Ab F a j [.s .z kk m h])),(r,.tl kk m h)])else none
   | none=>none
  | _,_=>none
 | _=>none
def stP(d:TyD)(ob:List (Nat×Ob))(l:List Cv):Cv->Option (Prop×List (Nat×Ob))
 | .p i o=>match get ob i with
  | some (.var m)=>if o+d.k<=m.length/\l.length=d.k then some (True,[(i,.var (m.take o ++ l ++ m.drop (o+d.k)))])else none
  | _=>none
 | .e i k a j=>match get ob i,trs l with
  | some (.row k' n f),some ts=>if k'=k/\j+d.k<=k/\l.length=d.k then some (a<n,[(i,.row k n (Ab f a j ts))])else none
  | _,_=>none
 | _=>none
def shP(d:TyD)(ob:List (Nat×Ob))(r:Nat):Cv->Option (Prop×List (Nat×Ob))
 | .e i k a j=>match get ob i,rowE ob r with
  | some (.row k' n f),some (kk,m,h)=>if k'=k/\j+1<=k/\d.k=1/\r≠i then some (a<n,[(r,.dead),(i,.row k n (Ab f a j [.s .o kk m h]))])else none
  | _,_=>none
 | _=>none
def LW:Option Nat->List (Nat×Ob)
 | some i=>[(i,.dead)]
 | none=>[]
def apP(de:TyD)(ob:List (Nat×Ob))(r:Nat)(x y:Cv):Option (Prop×List (Nat×Ob)):=
 match get ob r,dstOf de.k ob x,srcOf de.k ob y with
 | none,some (i,n,f),some (C,m,f')=>some (C/\n+m<=1000000000,LW i ++ [(r,.row de.k (n+m) (Ai f n f'))])
 | _,_,_=>none
def atPE(de:TyD)(ob:List (Nat×Ob))(r:Nat)(x y:Cv):Option (Prop×List (Nat×Ob)):=
 match get ob r,tlOf de.k ob x,srcOf de.k ob y with
 | none,some (i,n,f),some (C,m,f')=>some (C/\n+m<=1000000000,[(i,.dead),(r,.tl de.k (n+m) (Ai f n f'))])
 | _,_,_=>none
def amP(de:TyD)(ob:List (Nat×Ob))(r:Nat)(x y:Cv):Option (Prop×List (Nat×Ob)):=
 match get ob r,dstOf de.k ob x,mvOf de.k ob y with
 | none,some (id,n,f),some (C,i,lo,m,N,F)=>if id≠some i then some (C/\n+m<=1000000000,LW id ++ [(i,.row de.k N (ntR F lo m)),(r,.row de.k (n+m) (Ai f n fun p q=>F (lo+p) q))])else none
 | _,_,_=>none
section
variable {ob ob2 : List (Nat × Ob)} {r : Nat} {x y : Cv} {d de : TyD} {l : List Cv}
theorem Rk:evTake ob r x=(tkP ob r x).map fun q=>(q.1,puts ob q.2):=by
 cases x<;>simp only[evTake,tkP]<;>first | rfl | skip
 rename_i i k a j
 cases get ob i with
 | none=>rfl
 | some o=>
  cases o with
  | row k' n F=>
   cases get ob r with
   | none=>
    dsimp only;cases oOf (F a j)with
    | none=>rfl
    | some q=>dsimp only;split<;>rfl
   | some _=>rfl
  | _=>rfl
theorem P0:evStore d ob l x=(stP d ob l x).map fun q=>(q.1,puts ob q.2):=by
 cases x<;>simp only[evStore,stP]<;>first | rfl | skip
 ·rename_i i o
  cases get ob i with
  | none=>rfl
  | some q=>cases q<;>first | rfl | (dsimp only;split<;>rfl)
 ·rename_i i k a j
  cases get ob i with
  | none=>rfl
  | some q=>
   cases q with
   | row k' n f=>
    cases trs l with
    | none=>rfl
    | some ts=>dsimp only;split<;>rfl
   | _=>rfl
theorem ZO:evStoreH d ob r x=(shP d ob r x).map fun q=>(q.1,puts ob q.2):=by
 cases x<;>simp only[evStoreH,shP]<;>first | rfl | skip
 rename_i i k a j
 cases get ob i with
 | none=>rfl
 | some q=>
  cases q with
  | row k' n f=>
   cases rowE ob r with
   | none=>rfl
   | some ts=>dsimp only;split<;>rfl
  | _=>rfl
theorem Vz(i:Option Nat):D4 ob i=puts ob (LW i):=by cases i<;>rfl
theorem ZM:evAppend de ob r x y=(apP de ob r x y).map fun q=>(q.1,puts ob q.2):=by
 unfold evAppend apP;cases get ob r with
 | some _=>rfl
 | none=>
  cases dstOf de.k ob x with
  | none=>rfl
  | some q=>
   cases srcOf de.k ob y with
   | none=>rfl
   | some p=>simp only[Option.map_some,Cg,<-Vz];rfl
theorem P4:evAppendT de ob r x y=(atPE de ob r x y).map fun q=>(q.1,puts ob q.2):=by
 unfold evAppendT atPE;cases get ob r with
 | some _=>rfl
 | none=>
  cases tlOf de.k ob x with
  | none=>rfl
  | some q=>
   cases srcOf de.k ob y with
   | none=>rfl
   | some p=>rfl
theorem Rv:evAppendM de ob r x y=(amP de ob r x y).map fun q=>(q.1,puts ob q.2):=by
 unfold evAppendM amP;cases get ob r with
 | some _=>rfl
 | none=>
  cases dstOf de.k ob x with
  | none=>rfl
  | some q=>
   cases mvOf de.k ob y with
   | none=>rfl
   | some p=>
    dsimp only;split
    ·simp only[Option.map_some,Cg,<-Vz];rfl
    ·rfl
theorem Vf(h:Agr (x.ids ++ [r]) ob ob2):tkP ob2 r x=tkP ob r x:=by
 cases x<;>simp only[tkP]<;>first | rfl | skip
 rename_i i k a j
 rw[h i (by simp[Cv.ids]),h r (by simp)]
theorem Vc(h:Agr x.ids ob ob2):stP d ob2 l x=stP d ob l x:=by
 cases x<;>simp only[stP]<;>first | rfl | skip
 ·rename_i i o;rw[h i (by simp[Cv.ids])]
 ·rename_i i k a j;rw[h i (by simp[Cv.ids])]
theorem zEh(h:Agr (x.ids ++ [r]) ob ob2):shP d ob2 r x=shP d ob r x:=by
 cases x<;>simp only[shP]<;>first | rfl | skip
 rename_i i k a j
 rw[h i (by simp[Cv.ids]),JB (h r (by simp))]
theorem zh(h:Agr (x.ids ++ y.ids ++ [r]) ob ob2):apP de ob2 r x y=apP de ob r x y:=by
 unfold apP;rw[h r (by simp),Yx (h.sub fun j a=>by simp[a]),Ye (h.sub fun j a=>by simp[a])]
theorem Xg(h:Agr (x.ids ++ y.ids ++ [r]) ob ob2):atPE de ob2 r x y=atPE de ob r x y:=by
 unfold atPE;rw[h r (by simp),zAD (h.sub fun j a=>by simp[a]),Ye (h.sub fun j a=>by simp[a])]
theorem Xf(h:Agr (x.ids ++ y.ids ++ [r]) ob ob2):amP de ob2 r x y=amP de ob r x y:=by
 unfold amP;rw[h r (by simp),Yx (h.sub fun j a=>by simp[a]),zt (h.sub fun j a=>by simp[a])]
end
def Sft(ob:List (Nat×Ob))(W S:List Nat)(us:List (Nat×Ob)):Prop:=∀q∈us,q.1∈W\/(q.1∈S/\shp (some q.2)=shp (get ob q.1))
variable{ob:List (Nat×Ob)}{W S:List Nat}
theorem Sft.nil:Sft ob W S []:=fun q a=>by cases a
theorem Sft.w{us:List (Nat×Ob)}(h:∀q∈us,q.1∈W):Sft ob W S us:=fun q a=>.inl (h q a)
section
variable {ob : List (Nat × Ob)} {r : Nat} {x y : Cv} {d de : TyD} {l : List Cv} {c : Prop} {us : List (Nat × Ob)}
theorem zI5(h:tkP ob r x=some (c,us)):Sft ob [r] (KC x) us:=by
 cases x<;>simp only[tkP]at h<;>try (cases h;done)
 rename_i i k a j
 split at h
 ·rename_i e n F hi hr
  split at h
  ·split at h
   ·rename_i d
    cases h;obtain⟨rfl,-⟩:=d;intro q b;rcases List.mem_cons.1 b with rfl | b
    ·exact .inr ⟨by simp[KC],by rw[hi];rfl⟩
    ·rcases List.mem_cons.1 b with rfl | b
     ·exact .inl (by simp)
     ·cases b
   ·cases h
  ·cases h
 ·cases h
theorem T5(h:stP d ob l x=some (c,us)):∀q∈us,q.1∈x.ids:=by
 cases x<;>simp only[stP]at h<;>try (cases h;done)
 all_goals repeat' split at h
 all_goals first | (cases h;done) | (cases h;simp[Cv.ids])
theorem zHu(h:shP d ob r x=some (c,us)):∀q∈us,q.1∈x.ids ++ [r]:=by
 cases x<;>simp only[shP]at h<;>try (cases h;done)
 repeat' split at h
 all_goals first | (cases h;done) | (cases h;simp[Cv.ids])
theorem UC{k:Nat}{id:Option Nat}{n:Nat}{f:Nat->Nat->Tr}(h:dstOf k ob x=some (id,n,f)):∀q∈LW id,q.1∈x.ids:=by
 unfold dstOf at h
 repeat' split at h
 all_goals first | (cases h;done) | (cases h;simp[LW,Cv.ids])
theorem zGQ(h:apP de ob r x y=some (c,us)):∀q∈us,q.1∈x.ids ++ [r]:=by
 unfold apP at h;split at h
 ·rename_i i n f C m f' hr hd hs
  cases h;intro q a;rcases List.mem_append.1 a with a | a
  ·exact List.mem_append_left _ (UC hd q a)
  ·simp at a;simp[a]
 ·cases h
theorem zHA(h:atPE de ob r x y=some (c,us)):∀q∈us,q.1∈x.ids ++ [r]:=by
 unfold atPE at h;split at h
 ·rename_i i n f C m f' hr hd hs
  cases h;have hi:i∈x.ids:=by
   unfold tlOf at hd
   repeat' split at hd
   all_goals first | (cases hd;done) | (cases hd;simp[Cv.ids])
  intro q a;rcases List.mem_cons.1 a with rfl | a
  ·exact List.mem_append_left _ hi
  ·simp at a;simp[a]
 ·cases h
theorem zGP(h:amP de ob r x y=some (c,us)):Sft ob (x.ids ++ [r]) y.ids us:=by
 unfold amP at h;split at h
 ·rename_i id n f C i lo m N F hr hd hs
  split at h
  ·cases h;have hi:i∈y.ids/\shp (get ob i)=some (de.k,N):=by
    unfold mvOf at hs;split at hs
    ·split at hs
     ·rename_i b
      split at hs
      ·rename_i e
       subst e;cases hs;exact⟨by simp[Cv.ids],by rw[b];rfl⟩
      ·cases hs
     ·cases hs
    ·split at hs
     ·rename_i b
      split at hs
      ·rename_i e
       obtain⟨rfl,rfl⟩:=e;cases hs;exact⟨by simp[Cv.ids],by rw[b];rfl⟩
      ·cases hs
     ·cases hs
    ·cases hs
   intro q a;rcases List.mem_append.1 a with a | a
   ·exact .inl (List.mem_append_left _ (UC hd q a))
   ·rcases List.mem_cons.1 a with rfl | a
    ·exact .inr ⟨hi.1,hi.2.symm⟩
    ·simp at a;exact .inl (by simp[a])
  ·cases h
 ·cases h
end
theorem RQ:∀(l:List Av) (ob:List (Nat×Ob)),∃o,(D3 l ob).2=puts ob o/\(∀q∈o,q.1∈l.flatMap Av.ids)/\∀ob2,Agr (l.flatMap Av.ids) ob ob2->D3 l ob2=((D3 l ob).1,puts ob2 o)
 | [],ob=>⟨[],rfl,by simp,fun ob2 _=>rfl⟩
 | .t c :: l,ob=>by
  obtain⟨n,d,e,i⟩:=RQ l ob;exact⟨n,d,fun q p=>by simp only[List.flatMap_cons,List.mem_append];exact .inr (e q p),fun ob2 b=>by simp only[D3,i ob2 (b.sub fun j a=>by simp only[List.flatMap_cons,List.mem_append];exact .inr a)]⟩
 | .m g c :: l,ob=>by
  obtain⟨k,r,s,u⟩:=OF c ob;obtain⟨n,d,e,i⟩:=RQ l (frz c ob).2;refine⟨k ++ n,?_,fun q p=>?_,fun ob2 b=>?_⟩
  ·simp only[D3,d,Cg];rw[r]
  ·simp only[List.flatMap_cons,List.mem_append];rcases List.mem_append.1 p with h | h
   ·exact .inl (s q h)
   ·exact .inr (e q h)
  ·have v:=u ob2 (b.sub fun j a=>by rw[List.flatMap_cons,List.mem_append];exact .inl a);have w:=i (puts ob2 k) (r▸(b.sub fun j a=>by rw[List.flatMap_cons,List.mem_append];exact .inr a).puts k);simp only[D3,v,w,Cg]
theorem RR(keep:Bool)(l:List Av)(ob:List (Nat×Ob)):∃a,(Bv keep l ob).2=puts ob a/\(∀q∈a,q.1∈l.flatMap Av.ids)/\(keep=false->a = [])/\∀ob2,Agr (l.flatMap Av.ids) ob ob2->Bv keep l ob2=((Bv keep l ob).1,puts ob2 a):=by
 cases keep with
 | true=>obtain⟨a,b,c,d⟩:=RQ l ob;exact⟨a,b,c,fun h=>(by cases h),d⟩
 | false=>exact⟨[],rfl,by simp,fun _=>rfl,fun ob2 _=>rfl⟩
theorem TQ:∀(c:List Cv) (ob:List (Nat×Ob)),∀j∈(frz c ob).1.flatMap Cv.ids,j∈c.flatMap Cv.ids
 | [],ob,j,a=>a
 | x :: c,ob,j,a=>by
  simp only[frz,List.flatMap_cons,List.mem_append]at a ⊢;rcases a with a | a
  ·refine .inl ?_;cases x<;>simp only[frz1]at a<;>first | exact a | skip
   split at a
   ·cases a
   ·exact a
  ·exact .inr (TQ c _ j a)
theorem Qc:∀(l:List Av) (ob:List (Nat×Ob)),∀j∈(D3 l ob).1.flatMap Av.ids,j∈l.flatMap Av.ids
 | [],ob,j,a=>a
 | .t c :: l,ob,j,a=>by
  simp only[D3,List.flatMap_cons,List.mem_append]at a ⊢;exact a.imp_right fun h=>Qc l _ j h
 | .m g c :: l,ob,j,a=>by
  simp only[D3,List.flatMap_cons,List.mem_append]at a ⊢;rcases a with a | a
  ·exact .inl (TQ c ob j a)
  ·exact .inr (Qc l _ j a)
theorem Qd(keep:Bool)(l:List Av)(ob:List (Nat×Ob)):∀j∈(Bv keep l ob).1.flatMap Av.ids,j∈l.flatMap Av.ids:=by
 cases keep with
 | true=>exact Qc l ob
 | false=>exact fun j h=>h
variable{d:Nat}
theorem J1{n m:Nat}(h:n+m<=40){j:Nat}(a:j∈(List.range' n m).map (rid d)):j∈C3 d:=by
 simp only[C3,List.mem_cons,List.mem_map,List.mem_range'_1,List.mem_range]at *;obtain⟨q,b,rfl⟩:=a;exact .inr ⟨q,by omega,rfl⟩
variable{keep:Bool}{sp:AE}{i:Nat}{r:List Av}{D:Dl}
theorem ZD(h:evCall keep sp i ob r=some D) :
 ∃us,D.ob=puts ob us/\(∀q∈us,q.1∈C3 i\/(keep=true/\q.1∈r.flatMap Av.ids))/\∀ob2,Agr (r.flatMap Av.ids ++ C3 i) ob ob2->evCall keep sp i ob2 r=some ⟨D.c,D.av,puts ob2 us,D.nw⟩:=by
 obtain⟨g,k,p,s,t⟩:=RR keep r ob;have u:=Qd keep r ob;unfold evCall at h;split at h
 ·rename_i o has
  split at h
  ·rename_i c rs hrs
   split at h
   ·rename_i ob' hob
    split at h
    ·rename_i z
     cases h;obtain⟨us,e,A,y⟩:=Mp i rs 0 _ ob' hob;refine⟨g ++ us,by rw[Cg,<-k];exact e,fun q a=>?_,fun ob2 n=>?_⟩
     ·rcases List.mem_append.1 a with a | a
      ·cases keep with
       | true=>exact .inr ⟨rfl,p q a⟩
       | false=>rw[s rfl]at a;cases a
      ·exact .inl (J1 (by omega) (A q a))
     ·have v:=t ob2 (n.sub fun j d=>List.mem_append_left _ d);have b:∀L,(∀j∈L,j∈r.flatMap Av.ids ++ C3 i)->Agr L (Bv keep r ob).2 (puts ob2 g):=fun L x=>by
       rw[k];exact Agr.puts (n.sub x) g
      have w:=Ol (keep:=keep) (l:=(Bv keep r ob).1) (b _ fun j d=>List.mem_append_left _ (u j d));have m:=y (puts ob2 g) (b _ fun j d=>List.mem_append_right _ (J1 (by omega) d));simp only at m;unfold evCall;simp only[v,w,has,hrs,m,if_pos z,Cg]
    ·cases h
   ·cases h
  ·cases h
 ·cases h
theorem zCX(h:evCallN sp i ob r=some D) :
 ∃us,D.ob=puts ob us/\(∀q∈us,q.1∈r.flatMap Av.ids ++ C3 i)/\∀ob2,Agr (r.flatMap Av.ids ++ C3 i) ob ob2->evCallN sp i ob2 r=some ⟨D.c,D.av,puts ob2 us,D.nw⟩:=by
 obtain⟨g,n,v,E,w⟩:=RR true r ob;have x:=Qd true r ob;unfold evCallN at h;split at h
 ·rename_i u has
  split at h
  ·rename_i c v0 hrs
   split at h
   ·rename_i ob' hob
    split at h
    ·rename_i m
     split at h
     ·rename_i C
      cases h;obtain⟨us,e,t,s⟩:=Mp i [(true,v0)] 1 _ ob' hob;have k:tot [(true,v0)]=v0.length:=(by simp[tot]);rw[k]at t s;refine⟨g ++ us ++ [(i,.var (Ck i 1 v0))],by rw[Cg,Cg,<-n,<-e];rfl,fun q a=>?_,fun ob2 p=>?_⟩
      ·rcases List.mem_append.1 a with a | a
       ·rcases List.mem_append.1 a with a | a
        ·exact List.mem_append_left _ (v q a)
        ·exact List.mem_append_right _ (J1 (by omega) (t q a))
       ·simp at a;simp[a,C3]
      ·have y:=w ob2 (p.sub fun j b=>List.mem_append_left _ b);have d:∀L,(∀j∈L,j∈r.flatMap Av.ids ++ C3 i)->Agr L (Bv true r ob).2 (puts ob2 g):=fun L B=>by
        rw[n];exact Agr.puts (p.sub B) g
       have z:=Ol (keep:=true) (l:=(Bv true r ob).1) (d _ fun j b=>List.mem_append_left _ (x j b));have o:=s (puts ob2 g) (d _ fun j b=>List.mem_append_right _ (J1 (by omega) b));simp only at o;have A:get (puts (puts ob2 g) us) i=none:=by
        rw[<-m,e];exact Agr.puts (d [i] fun j b=>by simp at b;simp[b,C3]) us i (by simp)
       unfold evCallN;simp only[y,z,has,hrs,o,A,if_pos C,Cg];rfl
     ·cases h
    ·cases h
   ·cases h
  ·cases h
 ·cases h
theorem IK:∀{pm:List (Nat×Nat)} {ob:List (Nat×Ob)},C7 ob pm=puts ob (pm.map fun p=>(p.1,.dead))
 | [],ob=>rfl
 | p :: l,ob=>by simp only[C7];rw[IK];rfl
theorem zDe:∀(l:List Av) (ob:List (Nat×Ob)) (i:Nat) (a:List Cv),get (D3 l ob).2 i=some (.var a)->get ob i=some (.var a):=by
 have b:∀(x:Cv) (ob:List (Nat×Ob)) (i:Nat) (a:List Cv),get (frz1 ob x).2 i=some (.var a)->get ob i=some (.var a):=fun x ob i a h=>by
  cases x<;>simp only[frz1]at h<;>first | exact h | skip
  split at h
  ·rw[B8]at h;split at h
   ·cases h
   ·exact h
  ·exact h
 have d:∀(c:List Cv) (ob:List (Nat×Ob)) (i:Nat) (a:List Cv),get (frz c ob).2 i=some (.var a)->get ob i=some (.var a):=by
  intro c
  induction c with
  | nil=>intro ob i a h;exact h
  | cons x c ih=>intro ob i a h;simp only[frz]at h;exact b x ob i a (ih _ i a h)
 intro l
 induction l with
 | nil=>intro ob i a h;exact h
 | cons x l ih=>
  intro ob i a h;cases x with
  | m g c=>simp only[D3]at h;exact d c ob i a (ih _ i a h)
  | t c=>simp only[D3]at h;exact ih _ i a h
theorem Nb:∀{l:List Cv} {n:Nat},∀p∈pmC n l,p.1∈l.flatMap Cv.ids
 | [],n,p,a=>by cases a
 | x :: l,n,p,a=>by
  rw[List.flatMap_cons,List.mem_append];cases x with
  | h r=>
   rcases List.mem_cons.1 a with rfl | a
   ·exact .inl (by simp[Cv.ids])
   ·exact .inr (Nb p a)
  | _=>exact .inr (Nb p a)
theorem ZN(h:evCallP keep sp d i ob r=some D)(L:List Nat)(w:L=(.m false [.p i 0] :: r).flatMap Av.ids ++ deep ob (.m false [.p i 0] :: r) ++ C3 d) :
 ∃us,D.ob=puts ob us/\(∀q∈us,q.1∈L)/\∀ob2,Agr L ob ob2->evCallP keep sp d i ob2 r=some ⟨D.c,D.av,puts ob2 us,D.nw⟩:=by
 obtain⟨t,B,F,R,G⟩:=RR keep r ob;have H:=Qd keep r ob;have n:i∈L:=by rw[w];simp[Av.ids,Cv.ids]
 have o:∀j∈r.flatMap Av.ids,j∈L:=fun j b=>by
  rw[w,List.mem_append,List.mem_append,List.flatMap_cons,List.mem_append];exact .inl (.inl (.inr b))
 have v:∀j∈C3 d,j∈L:=fun j b=>by rw[w];exact List.mem_append_right _ b
 unfold evCallP at h;split at h
 ·rename_i k hi
  have y:get ob i=some (.var k):=by
   cases keep with
   | true=>exact zDe r ob i k hi
   | false=>exact hi
  have u:∀j∈k.flatMap Cv.ids,j∈L:=fun j b=>by
   rw[w];refine List.mem_append_left _ (List.mem_append_right _ ?_);simp only[deep,y];exact b
  split at h
  ·rename_i vs ags hvs has
   split at h
   ·rename_i z
    split at h
    ·rename_i c v0 rs hsp
     split at h
     ·rename_i ob' hob
      split at h
      ·rename_i P
       cases h;obtain⟨us,e,Q,O⟩:=Mp d ((true,v0) :: rs) 1 _ ob' hob;refine⟨t ++ (((i,0) :: pmC 0 k).map fun p=>(p.1,.dead)) ++ us ++ [(i,.var (Ck d 1 v0))],?_,fun q a=>?_,fun ob2 E=>?_⟩
       ·rw[Cg,Cg,Cg,<-B,<-IK,<-e];rfl
       ·rcases List.mem_append.1 a with a | a
        ·rcases List.mem_append.1 a with a | a
         ·rcases List.mem_append.1 a with a | a
          ·exact o _ (F q a)
          ·obtain⟨p,A,rfl⟩:=List.mem_map.1 a;rcases List.mem_cons.1 A with rfl | A
           ·exact n
           ·exact u _ (Nb p A)
         ·exact v _ (J1 (by omega) (Q q a))
        ·simp at a;rw[a];exact n
       ·have J:=G ob2 (E.sub o);have s:∀M,(∀j∈M,j∈L)->Agr M (Bv keep r ob).2 (puts ob2 t):=fun M x=>by
         rw[B];exact Agr.puts (E.sub x) t
        have g:∀M,(∀j∈M,j∈L)->Agr M (C7 (Bv keep r ob).2 ((i,0) :: pmC 0 k)) (C7 (puts ob2 t) ((i,0) :: pmC 0 k)):=fun M x=>by
         rw[IK,IK];exact Agr.puts (s M x) _
        have I:get (puts ob2 t) i=some (.var k):=(by rw[<-hi];exact s [i] (fun j b=>by simp at b;rw[b];exact n) i (by simp));have K:=Ol (keep:=keep) (l:=(Bv keep r ob).1) (g _ fun j b=>o _ (H j b));have C:=O _ (g _ fun j b=>v _ (J1 (by omega) b));have N:=Re (s _ u);simp only at C;unfold evCallP;simp only[J,I,N,hvs,K,has,if_pos z,hsp,C,if_pos P];simp only[Cg,IK];rfl
      ·cases h
     ·cases h
    ·cases h
   ·cases h
  ·cases h
 ·cases h
theorem zCY(h:evCallO sp d ob r=some D) :
 ∃us,D.ob=puts ob us/\(∀q∈us,q.1∈r.flatMap Av.ids ++ C3 d)/\∀ob2,Agr (r.flatMap Av.ids ++ C3 d) ob ob2->evCallO sp d ob2 r=some ⟨D.c,D.av,puts ob2 us,D.nw⟩:=by
 unfold evCallO at h;split at h
 ·rename_i l m hul
  have t:=R1 hul;have n:∀j∈l.flatMap Av.ids,j∈r.flatMap Av.ids ++ C3 d:=fun j b=>by rw[t];simp only[List.flatMap_append,List.mem_append];exact .inl (.inl b)
  have g:∀j∈m.flatMap Cv.ids,j∈r.flatMap Av.ids ++ C3 d:=fun j b=>by rw[t];simp only[List.flatMap_append,List.mem_append,List.flatMap_cons,List.flatMap_nil,List.append_nil];exact .inl (.inr b)
  have i:∀j∈C3 d,j∈r.flatMap Av.ids ++ C3 d:=fun j b=>List.mem_append_right _ b
  generalize r.flatMap Av.ids ++ C3 d=L at *;split at h
  ·rename_i vs ags hvs has
   split at h
   ·rename_i o
    split at h
    ·rename_i c rs hsp
     split at h
     ·rename_i ob' hob
      split at h
      ·rename_i A
       cases h;obtain⟨us,e,B,y⟩:=Mp d rs 0 _ ob' hob;refine⟨((pmC 0 m).map fun p=>(p.1,.dead)) ++ us,?_,fun q k=>?_,fun ob2 s=>?_⟩
       ·rw[Cg,<-IK,<-e]
       ·rcases List.mem_append.1 k with k | k
        ·obtain⟨p,z,rfl⟩:=List.mem_map.1 k;exact g _ (Nb p z)
        ·exact i _ (J1 (by omega) (B q k))
       ·have a:∀M,(∀j∈M,j∈L)->Agr M (C7 ob (pmC 0 m)) (C7 ob2 (pmC 0 m)):=fun M x=>by
         rw[IK,IK];exact Agr.puts (s.sub x) _
        have u:=Ol (keep:=false) (l:=l) (a _ n);have v:=y _ (a _ fun j b=>i _ (J1 (by omega) b));have w:=Re (s.sub g);unfold evCallO;simp only[hul,w,hvs,u,has,if_pos o,hsp,v,if_pos A];simp only[Cg,IK]
      ·cases h
     ·cases h
    ·cases h
   ·cases h
  ·cases h
 ·cases h
variable{Γ:List (Nat×AE)}{dst:Option Nat}{l:List Av}
theorem YI{T:Tb}{op:Op}(h:B6 T Γ dst ob op l=some D) :
 ∃us,D.ob=puts ob us/\Sft ob (tks T Γ ob op dst l).wr (tks T Γ ob op dst l).sw us/\∀ob2,P9 (tks T Γ ob op dst l).tc (tks T Γ ob op dst l).sh ob ob2->B6 T Γ dst ob2 op l=some ⟨D.c,D.av,puts ob2 us,D.nw⟩:=by
 cases op with
 | move x=>
  simp only[B6,coreU]at h ⊢;split at h
  ·cases h;exact⟨[],rfl,Sft.nil,fun ob2 _=>rfl⟩
  ·cases h
 | assign x=>
  simp only[B6,coreU]at h ⊢;split at h
  ·cases h;exact⟨[],rfl,Sft.nil,fun ob2 _=>rfl⟩
  ·cases h
 | nilCheck x=>
  simp only[B6,coreU]at h ⊢;split at h
  ·cases h;exact⟨[],rfl,Sft.nil,fun ob2 _=>rfl⟩
  ·cases h
 | unOp u t x=>
  cases u<;>simp only[B6,coreU]at h ⊢<;>try (cases h;done)
  split at h
  ·cases h;exact⟨[],rfl,Sft.nil,fun ob2 _=>rfl⟩
  ·cases h
 | binOp o t x y yt=>
  simp only[B6,coreU]at h ⊢;split at h
  ·split at h
   ·rename_i A;cases h;exact⟨[],rfl,Sft.nil,fun ob2 _=>by simp only[A];rfl⟩
   ·cases h
  ·cases h
 | alloc t=>
  simp only[B6,coreU]at h ⊢;split at h
  ·rename_i d i hd
   split at h
   ·rename_i ob' hob
    cases h;unfold evAlloc at hob;split at hob
    ·rename_i hi
     cases hob;refine⟨[(i,.var (d.z.map .v))],rfl,Sft.w (by simp[tks]),fun ob2 s=>?_⟩;have:=s.1 i (by simp[tks]);simp only[hd,evAlloc,this,hi];rfl
    ·cases hob
   ·cases h
  ·cases h
 | box t x=>
  simp only[B6,coreU]at h ⊢;split at h
  ·rename_i g c i
   split at h
   ·rename_i ob' hob
    cases h;unfold KR at hob;split at hob
    ·rename_i hi
     cases hob;refine⟨[(i,.var c)],rfl,Sft.w (by simp[tks]),fun ob2 s=>?_⟩;have:=s.1 i (by simp[tks]);simp only[KR,this,hi];rfl
    ·cases hob
   ·cases h
  ·cases h
 | load t x=>
  simp only[B6,coreU]at h ⊢;split at h
  ·rename_i B d hd
   unfold evLd at h;split at h
   ·rename_i q A
    cases h;rw[Option.bind_eq_some_iff]at A;obtain⟨i,hi,A⟩:=A;split at hi
    ·rename_i M
     subst hi;rw[Rk,Option.map_eq_some_iff]at A;obtain⟨p,H,rfl⟩:=A;have e:tks T Γ ob (.load t x) (some i) [.m false [B]]=⟨B.ids ++ [rid i 0],[],[rid i 0],KC B⟩:=(by simp[tks,M.1,Av.ids,hdC]);rw[e];refine⟨p.2,rfl,zI5 H,fun ob2 s=>?_⟩;simp only[hd];unfold evLd;rw[if_pos M];simp only[Option.bind_some,Rk,Vf s.1,H,Option.map_some]
    ·cases hi
   ·rename_i A
    split at h
    ·rename_i q E
     cases h;refine⟨[],rfl,Sft.nil,fun ob2 s=>?_⟩;simp only[hd];unfold evLd;have N:Agr B.ids ob ob2:=by
      refine s.1.sub fun j G=>?_
      cases dst with
      | none=>simp[tks,Av.ids,G]
      | some i=>by_cases M:t=T.tk<;>simp[tks,M,Av.ids,G]
     have hn:((if t=T.tk/\d.k=1/\d.g=false then dst else none).bind fun i=>evTake ob2 (rid i 0) B)=none:=by
      by_cases M:t=T.tk/\d.k=1/\d.g=false
      ·rw[if_pos M]at A ⊢;cases dst with
       | none=>rfl
       | some i=>
        simp only[Option.bind_some,Rk,Option.map_eq_none_iff]at A ⊢;rw[Vf (ob:=ob) (ob2:=ob2) (s.1.sub fun j G=>by simpa[tks,M.1,Av.ids]using G)];exact A
      ·rw[if_neg M];rfl
     rw[hn];simp only[zCF N,E];rfl
    ·cases h
  ·cases h
 | store t x y=>
  simp only[B6,coreU]at h ⊢;split at h
  ·rename_i B g c d hd
   split at h
   ·rename_i q A
    cases h;have e:tks T Γ ob (.store t x y) none [.m false [B],.m g c]=⟨B.ids ++ c.flatMap Cv.ids,[],B.ids ++ c.flatMap Cv.ids,[]⟩:=(by simp[tks,Av.ids]);rw[e];have cA:∃us,q.2=puts ob us/\(∀p∈us,p.1∈B.ids ++ c.flatMap Cv.ids)/\∀ob2,Agr (B.ids ++ c.flatMap Cv.ids) ob ob2->evSt d ob2 c B=some (q.1,puts ob2 us):=by
     unfold evSt at A ⊢;split at A
     ·rename_i r i k a j
      rw[ZO,Option.map_eq_some_iff]at A;obtain⟨p,H,rfl⟩:=A;exact⟨p.2,rfl,fun z hz=>by simpa[Cv.ids]using zHu H z hz,fun ob2 s=>by rw[ZO,zEh (s.sub fun j G=>by simpa[Cv.ids]using G),H];rfl⟩
     ·rename_i i k a j Y
      obtain⟨Z,d1,d2,d3⟩:=OF c ob;rw[P0,Option.map_eq_some_iff]at A;obtain⟨p,H,rfl⟩:=A;refine⟨Z ++ p.2,by rw[Cg,<-d1],fun z hz=>(List.mem_append.1 hz).elim (fun h=>List.mem_append_right _ (d2 z h)) fun h=>List.mem_append_left _ (T5 H z h),fun ob2 s=>?_⟩;rw[d3 ob2 (s.sub fun j G=>List.mem_append_right _ G),P0,Vc (ob:=(frz c ob).2) (by rw[d1];exact Agr.puts (s.sub fun j G=>List.mem_append_left _ G) Z),H,Cg];rfl
     ·rename_i Y hne'
      rw[P0,Option.map_eq_some_iff]at A;obtain⟨p,H,rfl⟩:=A;refine⟨p.2,rfl,fun z hz=>List.mem_append_left _ (T5 H z hz),fun ob2 s=>?_⟩;rw[P0,Vc (s.sub fun j G=>List.mem_append_left _ G),H];rfl
    obtain⟨us,F,P,Q⟩:=cA;refine⟨us,F,Sft.w P,fun ob2 s=>?_⟩;simp only[hd,Q ob2 s.1]
   ·cases h
  ·cases h
 | fieldAddr t x f=>
  simp only[B6,coreU]at h ⊢;split at h
  ·rename_i B d hd
   split at h
   ·rename_i q i o A;cases h;exact⟨[],rfl,Sft.nil,fun ob2 _=>by simp only[hd,A];rfl⟩
   ·rename_i q i k a j A;cases h;exact⟨[],rfl,Sft.nil,fun ob2 _=>by simp only[hd,A];rfl⟩
   ·rename_i q fl k n g a j A;cases h;exact⟨[],rfl,Sft.nil,fun ob2 _=>by simp only[hd,A];rfl⟩
   ·cases h
  ·cases h
 | indexAddr t x ix=>
  simp only[B6,coreU]at h ⊢;split at h
  ·rename_i B K ixx d hd
   split at h
   ·rename_i de fl k n g hde
    split at h
    ·rename_i hk;cases h;exact⟨[],rfl,Sft.nil,fun ob2 _=>by simp only[hd,hde,if_pos hk];rfl⟩
    ·cases h
   ·rename_i de i hde
    split at h
    ·rename_i k n g hi
     split at h
     ·rename_i hk
      cases h;refine⟨[],rfl,Sft.nil,fun ob2 s=>?_⟩;have:=s.1 i (by simp[tks,Av.ids,Cv.ids]);simp only[hd,hde,this,hi,if_pos hk];rfl
     ·cases h
    ·cases h
   ·cases h
  ·cases h
 | index t x ix=>
  simp only[B6,coreU]at h ⊢;split at h
  ·split at h
   ·rename_i M;cases h;exact⟨[],rfl,Sft.nil,fun ob2 _=>by simp only[if_pos M];rfl⟩
   ·cases h
  ·cases h
 | extract x ix=>
  simp only[B6,coreU]at h ⊢;split at h
  ·split at h
   ·rename_i hr;cases h;exact⟨[],rfl,Sft.nil,fun ob2 _=>by simp only[hr];rfl⟩
   ·cases h
  ·cases h
 | build t ps=>
  simp only[B6,coreU]at h ⊢;split at h
  ·rename_i d q hd A
   split at h
   ·rename_i c hcc
    split at h
    ·cases h
    ·rename_i Y;cases h;exact⟨[],rfl,Sft.nil,fun ob2 _=>by simp only[hd,A,hcc,if_neg Y];rfl⟩
   ·cases h
  ·cases h
 | buildSlice t n ps=>
  simp only[B6,coreU]at h ⊢;split at h
  ·rename_i d q i hd A
   split at h
   ·rename_i de hde
    split at h
    ·rename_i ob' hob
     split at h
     ·cases h
     ·rename_i C
      cases h;obtain⟨Z,e1,e2,e3⟩:=YS q ob;have N:=Yk A;unfold Mb evBuildSlice at hob;split at hob
      ·rename_i ts hi hb
       split at hob
       ·rename_i eA
        cases hob;refine⟨Z ++ [(rid i 0,.row de.k n (fun p q=>ts.getD (p*de.k+q) (.v (.bool false))))],by simp only[e1,Cg];rfl,Sft.w fun x hx=>?_,fun ob2 s=>?_⟩
        ·rcases List.mem_append.1 hx with F | F
         ·exact List.mem_append_left _ (N _ (e2 _ F))
         ·simp at F;simp[tks,F]
        ·have e4:=e3 ob2 (s.1.sub fun j G=>List.mem_append_left _ (N _ G));have h5:get (puts ob2 Z) (rid i 0)=none:=by
          rw[<-hi,e1];exact(s.1.puts Z) (rid i 0) (by simp[tks])
         simp only[hd,A,hde,Mb,evBuildSlice,e4,h5,hb,if_pos eA,if_neg C,Cg];rfl
       ·cases hob
      ·cases hob
    ·cases h
   ·cases h
  ·cases h
 | slice t x lo hi mx=>
  cases mx with
  | some _=>simp only[B6,coreU]at h;cases h
  | none=>
   simp only[B6,coreU]at h ⊢;split at h
   ·rename_i d hd
    split at h
    ·rename_i de hde
     split at h
     ·rename_i q A
      split at h
      ·cases h
      ·rename_i C
       cases h;refine⟨[],rfl,Sft.nil,fun ob2 s=>?_⟩;have e:evSlice ob2 de.k lo hi l=evSlice ob de.k lo hi l:=by
        unfold evSlice;split
        ·rfl
        ·rename_i i K ix
         rw[s.2 i (by simp[tks,Av.ids,Cv.ids])]
        ·rfl
       simp only[hd,hde,e,A,if_neg C];rfl
     ·cases h
    ·cases h
   ·cases h
 | makeSlice t x y=>
  simp only[B6,coreU]at h ⊢;split at h
  ·rename_i K1 B K2 y' d i hd
   split at h
   ·rename_i de hde
    split at h
    ·rename_i ob' hob
     split at h
     ·cases h
     ·rename_i C
      cases h;unfold evMakeSlice at hob;split at hob
      ·rename_i hi
       cases hob;refine⟨[(rid i 0,.row de.k B.toNat (fun _ q=>.v (de.z.getD q (.bool false))))],rfl,Sft.w (by simp[tks]),fun ob2 s=>?_⟩;have:=s.1 (rid i 0) (by simp[tks]);simp only[hd,hde,evMakeSlice,this,hi,if_neg C];rfl
      ·cases hob
    ·cases h
   ·cases h
  ·cases h
 | call c=>
  obtain⟨callee,args,W⟩:=c;cases callee with
  | invoke r m=>simp only[B6,coreU]at h;cases h
  | value f=>
   cases f with
   | func f=>
    simp only[B6,coreU]at h ⊢;split at h
    ·rename_i x r i
     unfold evC at h;split at h
     ·rename_i hf
      split at h
      ·rename_i sp J
       have e:tks T Γ ob (.call ⟨.value (.func f),args,W⟩) (some i) (x :: r)=⟨r.flatMap Av.ids ++ C3 i,[],C3 i,[]⟩:=(by simp[tks,N5,J]);rw[e];obtain⟨us,F,P,Q⟩:=ZD h;refine⟨us,F,Sft.w fun q A=>(P q A).elim id (fun h=>by cases h.1),fun ob2 s=>?_⟩;simp only[evC,if_pos hf,J];exact Q ob2 s.1
      ·rename_i J
       have e:tks T Γ ob (.call ⟨.value (.func f),args,W⟩) (some i) (x :: r)=⟨r.flatMap Av.ids ++ deep ob r ++ C3 i,[],r.flatMap Av.ids ++ deep ob r ++ C3 i,[]⟩:=(by simp[tks,N5,J]);rw[e];have V:∀ob2,Agr (r.flatMap Av.ids ++ deep ob r ++ C3 i) ob ob2->Agr (r.flatMap Av.ids ++ C3 i) ob ob2:=fun ob2 s=>s.sub fun j G=>by
        rcases List.mem_append.1 G with h | h
        ·exact List.mem_append_left _ (List.mem_append_left _ h)
        ·exact List.mem_append_right _ h
       have X:∀j,j∈r.flatMap Av.ids ++ C3 i->j∈r.flatMap Av.ids ++ deep ob r ++ C3 i:=fun j G=>by
        rcases List.mem_append.1 G with h | h
        ·exact List.mem_append_left _ (List.mem_append_left _ h)
        ·exact List.mem_append_right _ h
       split at h
       ·rename_i sp I
        obtain⟨us,F,P,Q⟩:=ZD h;refine⟨us,F,Sft.w fun q A=>X _ ((P q A).elim (fun h=>List.mem_append_right _ h) (fun h=>List.mem_append_left _ h.2)),fun ob2 s=>?_⟩;simp only[evC,if_pos hf,J,I];exact Q ob2 (V ob2 s.1)
       ·rename_i I
        split at h
        ·rename_i sp L
         obtain⟨us,F,P,Q⟩:=zCX h;refine⟨us,F,Sft.w fun q A=>X _ (P q A),fun ob2 s=>?_⟩;simp only[evC,if_pos hf,J,I,L];exact Q ob2 (V ob2 s.1)
        ·rename_i L
         split at h
         ·rename_i sp O
          obtain⟨us,F,P,Q⟩:=zCY h;refine⟨us,F,Sft.w fun q A=>X _ (P q A),fun ob2 s=>?_⟩;simp only[evC,if_pos hf,J,I,L,O];exact Q ob2 (V ob2 s.1)
         ·rename_i O
          split at h
          ·rename_i j r'
           split at h
           ·rename_i sp U
            obtain⟨us,F,P,Q⟩:=ZN h _ rfl;refine⟨us,F,Sft.w P,fun ob2 s=>?_⟩;simp only[evC,if_pos hf,J,I,L,O,U];exact Q ob2 s.1
           ·rename_i U
            split at h
            ·rename_i sp hsp4
             obtain⟨us,F,P,Q⟩:=ZN h _ rfl;refine⟨us,F,Sft.w P,fun ob2 s=>?_⟩;simp only[evC,if_pos hf,J,I,L,O,U,hsp4];exact Q ob2 s.1
            ·cases h
          ·cases h
     ·cases h
    ·cases h
   | _=>simp only[B6,coreU]at h;cases h
  | builtin b=>
   cases b<;>simp only[B6,coreU]at h ⊢<;>try (cases h;done)
   case len=>
    split at h
    ·split at h
     ·rename_i M;cases h;exact⟨[],rfl,Sft.nil,fun ob2 _=>by simp only[if_pos M];rfl⟩
     ·cases h
    ·rename_i B hx'
     split at h
     ·rename_i t M
      split at h
      ·rename_i d n hd hn
       split at h
       ·cases h
       ·rename_i C
        cases h;refine⟨[],rfl,Sft.nil,fun ob2 s=>?_⟩;have F:=zBU (ob:=ob) (ob':=ob2) (x:=B) (s.1.sub fun j G=>by simp[tks,Av.ids,G]);simp only[hd,F,hn,if_neg C];rfl
      ·cases h
     ·cases h
    ·cases h
   case append=>
    split at h
    ·rename_i B y' t t' i M
     split at h
     ·rename_i d hd
      split at h
      ·rename_i de hde
       split at h
       ·rename_i q A
        split at h
        ·rename_i C
         cases h;have e:tks T Γ ob (.call ⟨.builtin .append,args,W⟩) (some i) [.m false [B],.m false [y']]=⟨B.ids ++ y'.ids ++ [rid i 0],[],B.ids ++ [rid i 0],if W.toList = [T.mv,T.mv] then y'.ids else []⟩:=(by simp[tks,hdC,Sg]);rw[e];unfold JO at A;split at A
         ·rename_i q' E
          cases A;split at E
          ·rename_i R
           rw[Rv,Option.map_eq_some_iff]at E;obtain⟨p,H,rfl⟩:=E;refine⟨p.2,rfl,?_,fun ob2 s=>?_⟩
           ·have:W.toList = [T.mv,T.mv]:=(by rw[M,C.1,R]);rw[if_pos this];exact zGP H
           ·simp only[hd,hde];unfold JO;simp only[if_pos R,Rv,Xf s.1,H,Option.map_some];rw[if_pos C]
          ·cases E
         ·rename_i E
          have hn:∀ob2,Agr (B.ids ++ y'.ids ++ [rid i 0]) ob ob2->(if t=T.mv then evAppendM de ob2 (rid i 0) B y' else none)=none:=fun ob2 s=>by
           by_cases R:t=T.mv
           ·rw[if_pos R]at E ⊢;rw[Rv,Option.map_eq_none_iff]at E ⊢;rw[Xf s];exact E
           ·rw[if_neg R]
          split at A
          ·rename_i q' S
           cases A;rw[P4,Option.map_eq_some_iff]at S;obtain⟨p,H,rfl⟩:=S;refine⟨p.2,rfl,Sft.w (zHA H),fun ob2 s=>?_⟩;simp only[hd,hde];unfold JO;rw[hn ob2 s.1];simp only[P4,Xg s.1,H,Option.map_some];rw[if_pos C]
          ·rename_i S
           rw[ZM,Option.map_eq_some_iff]at A;obtain⟨p,H,rfl⟩:=A;refine⟨p.2,rfl,Sft.w (zGQ H),fun ob2 s=>?_⟩;simp only[hd,hde];unfold JO;rw[hn ob2 s.1];rw[P4,Option.map_eq_none_iff]at S;simp only[P4,Xg s.1,S,Option.map_none,ZM,zh s.1,H,Option.map_some];rw[if_pos C]
        ·cases h
       ·cases h
      ·cases h
     ·cases h
    ·cases h
 | field t x f=>
  simp only[B6,coreU]at h ⊢;split at h
  ·rename_i c d hd
   split at h
   ·rename_i av hav;cases h;exact⟨[],rfl,Sft.nil,fun ob2 _=>by simp only[hd,hav];rfl⟩
   ·cases h
  ·cases h
 | convert src t x=>
  simp only[B6,coreU]at h ⊢;split at h
  ·rename_i B
   split at h
   ·rename_i q A
    cases h;refine⟨[],rfl,Sft.nil,fun ob2 s=>?_⟩;have e:evConv T src t ob2 B=evConv T src t ob B:=by
     unfold evConv;split
     ·rfl
     ·rename_i i
      rw[JB (s.1 i (by simp[tks,Av.ids,Cv.ids]))]
     ·rfl
    simp only[e,A];rfl
   ·cases h
  ·cases h
 | _=>simp only[B6,coreU]at h;cases h
theorem R0{T:Tb}{ob2:List (Nat×Ob)}{op:Op}(h:Agr (tks T Γ ob op dst l).tc ob ob2):tks T Γ ob2 op dst l=tks T Γ ob op dst l:=by
 unfold tks at h ⊢;split<;>try rfl
 rename_i f args tys d
 cases hq:N5 Γ f with
 | true=>simp
 | false=>
  simp only[hq]at h ⊢;have a:deep ob2 (l.drop 1)=deep ob (l.drop 1):=by
   cases hl:l.drop 1 with
   | nil=>rfl
   | cons x r=>
    rw[hl]at h;unfold deep;split
    ·rename_i j r' e
     cases e;rw[h j (by simp[Av.ids,Cv.ids])]
    ·rfl
  rw[a]
def opdC:Value->Option (Bool×Av)
 | .agg cs=>if cs.toList.all Value.oneCell' then some (true,.m true (cs.toList.map .v))else none
 | .tuple _=>none
 | v=>some (true,.m false [.v v])
def opd(S:St):Operand->Option (Bool×Av)
 | .tmp t=>get S.tm t
 | .const v=>opdC v
 | .func f=>some (true,.m false [.v (.func (.func f) #[] #[])])
 | .global _=>none
def opds(S:St):List Operand->Option (List (Bool×Av))
 | []=>some []
 | x :: r=>match opd S x,opds S r with
  | some q,some l=>some (q :: l)
  | _,_=>none
def gtmp(ops:Array Oper)(o:Oper):Option (Option Nat×Bool):=
 match o.guard with
 | none=>none
 | some (j,want)=>match (ops[j]?).bind (·.dst)with
  | some t=>some (some t,want)
  | none=>some (none,want)
def kap(S:St):Option (Option Nat×Bool)->Option Bool
 | none=>some true
 | some (none,_)=>none
 | some (some t,want)=>match get S.tm t with
  | some (cg,.m false [.v (.bool b)])=>some (cg && (b == want))
  | _=>none
def FX(κ : Bool):List (Bool×Av)->Prop
 | []=>True
 | q :: r=>(κ = true->q.1=true)/\FX κ r
def obK(κ : Bool)(ob:List (Nat×Ob))(D:Dl):List (Nat×Ob):=bif κ || !D.nw then D.ob else ob
def stp0(N:Nat)(T:Tb)(Γ : List (Nat×AE))(gt:Option (Option Nat×Bool))(S:St)(op:Op)(dst:Option Nat):Option (Prop×St):=
 match kap S gt,opds S op.operands.toList with
 | some κ,some l=>match B6 T Γ dst S.ob op (l.map (·.2))with
  | some D=>match dst,D.av with
   | some d,some av=>if d<N then some (FX κ l/\(κ = true->D.c),⟨put S.tm d (κ,av),obK κ S.ob D⟩)else none
   | none,none=>if gt.isSome then none else some (FX κ l/\(κ = true->D.c),⟨S.tm,D.ob⟩)
   | _,_=>none
  | none=>match κ,dst with -- a step that is not taken,and hangs on others that are not
   | false,some d=>if d<N then some (True,⟨put S.tm d (false,.m false [.v (.bool false)]),S.ob⟩)else none
   | _,_=>none
 | _,_=>none
def stpP(N:Nat)(gt:Option (Option Nat×Bool))(S:St)(c a b:Operand)(dst:Option Nat):Option (Prop×St):=
 match kap S gt,opd S c,opd S a,opd S b,dst with
 | some κ,some (cc,.m false [.v (.bool bc)]),some (ca,.m false [.v (.bool x)]),some (cb,.m false [.v (.bool y)]),some d=>
  if d<N then some ((κ = true->cc=true)/\(κ = true->bc=true->ca=true)/\(κ = true->bc=false->cb=true),⟨put S.tm d (κ,.m false [.v (.bool (bif bc then x else y))]),S.ob⟩)else none
 | _,_,_,_,_=>none
def stp(N:Nat)(T:Tb)(Γ : List (Nat×AE))(ops:Array Oper)(S:St)(o:Oper):Option (Prop×St):=
 match o.op with
 | .pick c a b=>stpP N (gtmp ops o) S c a b o.dst
 | op=>stp0 N T Γ (gtmp ops o) S op o.dst
variable{q:Bool×Av}
theorem zH2{v:Value}(h:opdC v=some q){w:World}{E:En}{D:Nat->Prop}:q.1=true/\AvR w E D q.2 v:=by
 unfold opdC at h;split at h
 ·rename_i cs
  split at h
  ·rename_i b
   cases h;exact⟨rfl,cs.toList,by simp,Nw _ b⟩
  ·cases h
 ·cases h
 ·rename_i a h2
  cases h;refine⟨rfl,av1 ⟨rfl,?_⟩⟩;cases v<;>first | rfl | (exact absurd rfl (a _)) | (exact absurd rfl (h2 _))
section
variable {w0 : World} {g0 : Gh} {N : Nat} {S : St} {a : Act} {w : World} {E : En}
variable{x:Operand}
theorem Le(h:FS w0 g0 N S a w E)(b:opd S x=some q):(q.1=true->AvR w E (dom S.ob) q.2 (a.eval x)):=by
 cases x with
 | tmp t=>exact(h.tm t q.1 q.2 b).1
 | const v=>exact fun _=>(zH2 b).2
 | func f=>cases b;exact fun _=>av1 ⟨rfl,rfl⟩
 | global g=>cases b
theorem Sl(h:FS w0 g0 N S a w E){κ : Bool}(hκ : κ = true):∀{xs:List Operand} {l:List (Bool×Av)},opds S xs=some l->FX κ l->AN (fun x b=>AvR w E (dom S.ob) b (a.eval x)) xs (l.map (·.2))
 | [],l,hl,hs=>by cases hl;exact .nil
 | x :: r,l,hl,hs=>by
  simp only[opds]at hl;split at hl
  ·rename_i q l' h1 h2
   cases hl;exact .cons (Le h h1 (hs.1 hκ)) (Sl h hκ h2 hs.2)
  ·cases hl
theorem zDf{a:Act}{t:Nat}{b:Bool}(h:a.tmps.getD t undef = .bool b):a.tmps[t]?=some (.bool b):=by
 rw[Array.getD_eq_getD_getElem?]at h;cases e:a.tmps[t]? with
 | none=>rw[e]at h;cases h
 | some v=>rw[e]at h;simp at h;rw[h]
theorem PX(h:FS w0 g0 N S a w E){g:Array Oper}{o:Oper}{κ : Bool}(c:kap S (gtmp g o)=some κ):Region.wanted o (yielded g a.tmps) = κ:=by
 unfold gtmp at c;unfold Region.wanted;split at c
 ·rename_i i
  cases c;rw[i]
 ·rename_i j want i
  rw[i];split at c
  ·rename_i t ht
   simp only[kap]at c;split at c
   ·rename_i k b hget
    cases c;obtain⟨l,m⟩:=h.tm t _ _ hget;cases k with
    | true=>
     have d:=(vl1 (l rfl)).1;have n:=zDf d;simp only[yielded,ht,Option.bind_some,n,Bool.true_and];cases b<;>cases want<;>rfl
    | false=>
     have d:=m rfl;simp only[yielded,ht,Option.bind_some,Bool.false_and];rw[Array.getD_eq_getD_getElem?]at d;cases e:a.tmps[t]? with
     | none=>rfl
     | some v=>rw[e]at d;simp at d;rw[d];rfl
   ·cases c
  ·cases c
end
def Gq(P:Program)(Γ : List (Nat×AE))(w0:World)(g0:Gh):Prop:=∀w g,Kp w0 g0.g w g->BL P Γ w
section
variable {P : Program} {T : Tb} {Γ : List (Nat × AE)} {w0 : World} {g0 : Gh} {N : Nat} {S S' : St} {a : Act} {w : World} {ops : Array Oper} {i : Nat} {o : Oper} {c : Prop} {Q : Exit -> Act -> World -> Prop}
theorem zI0(x:DI P T)(hΓ : Gq P Γ w0 g0)(h:Rel w0 g0 N S a w)(hi:ops[i]?=some o)(b:stp0 N T Γ (gtmp ops o) S o.op o.dst=some (c,S'))(k:c):wpOp P ops Q i (Rel w0 g0 N S') a w:=by
 obtain⟨E,h⟩:=h;unfold stp0 at b;split at b
 ·rename_i κ l hk hl
  split at b
  ·rename_i D hD
   have p:=PX h hk;unfold wpOp;simp only[hi];rw[p];cases κ with
   | true=>
    refine .inl ?_;have hs:FX true l/\D.c:=by
     split at b
     ·split at b
      ·cases b;exact⟨k.1,k.2 rfl⟩
      ·cases b
     ·split at b
      ·cases b
      ·cases b;exact⟨k.1,k.2 rfl⟩
     ·cases b
    refine Oper.wp_mono ?_ (zHK x (hΓ _ _ h.kp) h.ob (Sl h rfl hl hs.1) hD hs.2);rintro z w' ⟨y,r,rfl,s,t,u,v⟩;split at b
    ·rename_i d av j hav
     split at b
     ·rename_i g
      cases b;rw[j];exact⟨r,h.next s t u g (fun _=>v av hav) (fun e=>by cases e)⟩
     ·cases b
    ·rename_i j hav
     split at b
     ·cases b
     ·cases b;rw[j];exact⟨r,h.quiet s t u⟩
    ·cases b
   | false=>
    simp only[Bool.false_eq_true,if_false];have m:(gtmp ops o).isSome=true:=by
     cases hgt:gtmp ops o with
     | none=>rw[hgt]at hk;cases hk
     | some q=>rfl
    have n:obK false S.ob D=S.ob:=by
     unfold obK;cases hn:D.nw with
     | false=>exact zb hD hn
     | true=>rfl
    split at b
    ·rename_i d av j hav
     split at b
     ·rename_i g
      cases b;rw[j,n];exact⟨E,h.next (AV.refl _ _ _) (fun _ h=>h) h.ob g (fun e=>by cases e) (fun _=>rfl)⟩
     ·cases b
    ·rw[m]at b;cases b
    ·cases b
  ·split at b
   ·rename_i d j
    split at b
    ·rename_i g
     cases b;have p:=PX h hk;unfold wpOp;simp only[hi];rw[p];simp only[Bool.false_eq_true,if_false];rw[j];exact⟨E,h.next (AV.refl _ _ _) (fun _ h=>h) h.ob g (fun e=>by cases e) (fun _=>rfl)⟩
    ·cases b
   ·cases b
 ·cases b
theorem zI1{x y z:Operand}(h:Rel w0 g0 N S a w)(hi:ops[i]?=some o)(l:o.op = .pick x y z)(b:stpP N (gtmp ops o) S x y z o.dst=some (c,S'))(j:c):wpOp P ops Q i (Rel w0 g0 N S') a w:=by
 obtain⟨E,h⟩:=h;unfold stpP at b;split at b
 ·rename_i κ cc bc ca p cb q d hk hx hy hz hd
  split at b
  ·rename_i g
   cases b;have m:=PX h hk;unfold wpOp;simp only[hi];rw[m];cases κ with
   | true=>
    refine .inl ?_;have k:=(vl1 (Le h hx (j.1 rfl))).1;unfold Oper.wp execOp;simp only[l,k,asBool,Sem.run_bind,Sem.run_pure,Result.andThen_ok,Oper.upon_value,hd];refine⟨E,h.next (AV.refl _ _ _) (fun _ h=>h) h.ob g (fun _=>av1 ⟨?_,rfl⟩) (fun e=>by cases e)⟩;cases bc with
    | true=>exact(vl1 (Le h hy (j.2.1 rfl rfl))).1
    | false=>exact(vl1 (Le h hz (j.2.2 rfl rfl))).1
   | false=>
    simp only[Bool.false_eq_true,if_false];rw[hd];exact⟨E,h.next (AV.refl _ _ _) (fun _ h=>h) h.ob g (fun e=>by cases e) (fun _=>rfl)⟩
  ·cases b
 ·cases b
theorem qX(e:DI P T)(hΓ : Gq P Γ w0 g0)(h:Rel w0 g0 N S a w)(hi:ops[i]?=some o)(b:stp N T Γ ops S o=some (c,S'))(d:c):wpOp P ops Q i (Rel w0 g0 N S') a w:=by
 unfold stp at b;split at b
 ·rename_i x y z ho
  exact zI1 h hi ho b d
 ·exact zI0 e hΓ h hi b d
def runL(N:Nat)(T:Tb)(Γ : List (Nat×AE))(ops:Array Oper):List Oper->St->(St->Prop)->Prop
 | [],S,K=>K S
 | o :: r,S,K=>match stp N T Γ ops S o with
  | some (c,S')=>c/\runL N T Γ ops r S' K
  | none=>False
theorem Sw(b:DI P T)(hΓ : Gq P Γ w0 g0):∀{l:List Nat} {os:List Oper} {S:St} {K:St->Prop} {a:Act} {w:World},l.map (ops[·]?)=os.map some->Rel w0 g0 N S a w->runL N T Γ ops os S K->
 wpOps P ops (fun e a w=>match e with | .normal=>∃S,K S/\Rel w0 g0 N S a w | e=>Q e a w) l a w
 | [],os,S,K,a,w,hl,h,hr=>by
  cases os with
  | nil=>exact⟨S,hr,h⟩
  | cons _ _=>simp at hl
 | i :: l,os,S,K,a,w,hl,h,hr=>by
  cases os with
  | nil=>simp at hl
  | cons o r=>
   simp only[List.map_cons,List.cons.injEq]at hl;simp only[runL]at hr;split at hr
   ·rename_i c S' hst
    rw[wpOps_cons];exact wpOp_mono (fun a w h=>Sw b hΓ hl.2 h hr.2) (qX b hΓ h hl.1 hst hr.1)
   ·exact hr.elim
def fgt{α : Type}(n:Nat):List (Nat×α)->List (Nat×α)
 | []=>[]
 | (e,x) :: r=>if e<n then(e,x) :: fgt n r else fgt n r
theorem Q7{α : Type}{n d:Nat}{x:α}:∀{l:List (Nat×α)},get (fgt n l) d=some x->get l d=some x
 | [],h=>by cases h
 | (e,y) :: r,h=>by
  simp only[fgt]at h;split at h
  ·simp only[get]at h ⊢;split at h
   ·rename_i b;rw[if_pos b];exact h
   ·rename_i b;rw[if_neg b];exact Q7 h
  ·rename_i hn
   have:=Q7 h;simp only[get];by_cases b:e=d
   ·exfalso;subst b;have a:∀l:List (Nat×α),get (fgt n l) e=none:=by
     intro l
     induction l with
     | nil=>rfl
     | cons q l ih=>
      obtain⟨f,z⟩:=q;simp only[fgt];split
      ·simp only[get];rw[if_neg (by omega)];exact ih
      ·exact ih
    rw[a]at h;cases h
   ·rw[if_neg b];exact this
theorem Rel.fgt(h:Rel w0 g0 N S a w)(n:Nat):Rel w0 g0 N ⟨fgt n S.tm,S.ob⟩ a w:=by
 obtain⟨E,h⟩:=h;exact⟨E,h.kp,fun d c b e=>h.tm d c b (Q7 e),h.ob,h.df,h.sz,h.b0⟩
theorem zDa(c:DI P T)(hΓ : Gq P Γ w0 g0){id:Nat}{n:Nat}{K:St->Prop}(h:Rel w0 g0 N S a w)(d:runL N T Γ ops ops.toList ⟨fgt n S.tm,S.ob⟩ K) :
 (Code.region id ops false).wp P (fun e a w=>match e with | .normal=>∃S,K S/\Rel w0 g0 N S a w | e=>Q e a w) a w:=by
 refine wp_region ?_;refine Sw c hΓ ?_ (h.fgt n) d;apply List.ext_getElem?;intro j;simp only[List.getElem?_map,List.getElem?_range'];by_cases b:j<ops.size
 ·simp[b]
 ·simp[b]
end
end Go.Proofs.YtibhefllijahkaaGreatDoor
