/- A part of the proof. -/
import Derived.Test.YtddigaohmfpepaaGreatDoorF17
set_option linter.unusedVariables false
set_option maxRecDepth 20000
set_option maxHeartbeats 4000000
namespace Go.Proofs.YtddigaohmfpepaaGreatDoor
open Go.RowKit
theorem Ij{j i:Nat}(h:j≠i):(j == i)=false:=by simpa using h
def BI(d:Nat->Nat)(x:Nat->Value):List Nat->Act->Act
 | [],a=>a
 | i :: r,a=>BI d x r (a.put (some (d i)) (x i))
theorem zFv(a:Act)(k:Nat)(u v:Value):(a.put (some k) u).put (some k) v=a.put (some k) v:=by
 unfold Act.put;simp[Array.setIfInBounds_setIfInBounds]
theorem zDx(a:Act){k j:Nat}(u v:Value)(h:k≠j):(a.put (some k) u).put (some j) v=(a.put (some j) v).put (some k) u:=
 Act.put_comm a u v (fun d e b=>h (by injection e with e;injection b with b;omega))
theorem VZ(d:Nat->Nat)(x:Nat->Value)(k:Nat)(v:Value):∀(M:List Nat) (a:Act),(∀i∈M,d i≠k)->(BI d x M a).put (some k) v=BI d x M (a.put (some k) v)
 | [],_,_=>rfl
 | i :: r,a,h=>by
  show(BI d x r (a.put (some (d i)) (x i))).put (some k) v=BI d x r ((a.put (some k) v).put (some (d i)) (x i));rw[VZ d x k v r _ (fun j b=>h j (List.mem_cons_of_mem _ b)),zDx a _ _ (h i List.mem_cons_self)]
theorem YW{d:Nat->Nat}{x y:Nat->Value}:∀{M:List Nat} {a:Act},(∀i∈M,x i=y i)->BI d x M a=BI d y M a
 | [],_,_=>rfl
 | i :: r,a,h=>by
  show BI d x r (a.put (some (d i)) (x i))=BI d y r (a.put (some (d i)) (y i));rw[h i List.mem_cons_self];exact YW (fun j b=>h j (List.mem_cons_of_mem _ b))
def GF(x:Nat->Value)(i:Nat)(v:Value)(j:Nat):Value:=if j=i then v else x j
theorem Va(d:Nat->Nat)(x:Nat->Value)(i:Nat)(v:Value):∀(M:List Nat) (a:Act),i∈M->M.Pairwise (fun p q=>d p≠d q)->(BI d x M a).put (some (d i)) v=BI d (GF x i v) M a
 | [],_,h,_=>by cases h
 | j :: r,a,h,c=>by
  obtain⟨g,k⟩:=List.pairwise_cons.1 c;show(BI d x r (a.put (some (d j)) (x j))).put (some (d i)) v=BI d (GF x i v) r (a.put (some (d j)) (GF x i v j));by_cases e:j=i
  ·subst e;have b:∀p∈r,d p≠d j:=fun p c e=>g p c e.symm
   rw[VZ d x (d j) v r _ b,zFv];have f:GF x j v j=v:=(by unfold GF;rw[if_pos rfl]);rw[f];refine YW (fun p c=>?_);unfold GF;rw[if_neg (fun e=>b p c (by rw[e]))]
  ·have f:GF x i v j=x j:=(by unfold GF;rw[if_neg e]);rw[f];rcases List.mem_cons.1 h with h | h
   ·exact absurd h.symm e
   ·exact Va d x i v r _ h k
def DF(b:Nat->Bool):List Nat->Array Bool->Array Bool
 | [],l=>l
 | i :: r,l=>DF b r (if b i then l.setIfInBounds i true else l)
def Cl(b:Nat->Bool)(i:Nat)(j:Nat):Bool:=j == i || b j
theorem Qt(b:Nat->Bool)(k:Nat):∀(M:List Nat) (l:Array Bool),(DF b M l).setIfInBounds k true=DF b M (l.setIfInBounds k true)
 | [],_=>rfl
 | i :: r,l=>by
  show(DF b r (if b i then l.setIfInBounds i true else l)).setIfInBounds k true=DF b r (if b i then(l.setIfInBounds k true).setIfInBounds i true else l.setIfInBounds k true);rw[Qt b k r];by_cases h:b i
  ·rw[if_pos h,if_pos h];by_cases e:i=k
   ·subst e;rfl
   ·rw[Array.setIfInBounds_comm _ _ e]
  ·rw[if_neg h,if_neg h]
theorem MM{b c:Nat->Bool}:∀{M:List Nat} {l:Array Bool},(∀i∈M,b i=c i)->DF b M l=DF c M l
 | [],_,_=>rfl
 | i :: r,l,h=>by
  show DF b r (if b i then _ else _)=DF c r (if c i then _ else _);rw[h i List.mem_cons_self];exact MM (fun j a=>h j (List.mem_cons_of_mem _ a))
theorem RC(b:Nat->Bool)(k:Nat):∀(M:List Nat) (l:Array Bool),k∈M->(DF b M l).setIfInBounds k true=DF (Cl b k) M l
 | [],_,h=>by cases h
 | i :: r,l,h=>by
  show(DF b r (if b i then l.setIfInBounds i true else l)).setIfInBounds k true=DF (Cl b k) r (if Cl b k i then l.setIfInBounds i true else l);by_cases e:i=k
  ·subst e;have a:Cl b i i=true:=(by unfold Cl;simp);rw[if_pos a,Qt];have f:(if b i then l.setIfInBounds i true else l).setIfInBounds i true=l.setIfInBounds i true:=by
    by_cases c:b i
    ·rw[if_pos c,Array.setIfInBounds_setIfInBounds]
    ·rw[if_neg c]
   rw[f];by_cases d:i∈r
   ·rw[<-RC b i r _ d,Qt,Array.setIfInBounds_setIfInBounds]
   ·refine MM (fun j g=>?_);unfold Cl;have:(j == i)=false:=Ij fun e=>d (e▸g)
    rw[this,Bool.false_or]
  ·have a:Cl b k i=b i:=by
    unfold Cl;have:(i == k)=false:=Ij e;rw[this,Bool.false_or]
   rw[a];rcases List.mem_cons.1 h with h | h
   ·exact absurd h.symm e
   ·exact RC b k r _ h
def P4:List Nat->List (Nat->Bool)
 | []=>[fun _=>false]
 | i :: r=>(P4 r).flatMap fun b=>[b,Cl b i]
theorem Xg(c:Nat->Bool):∀M:List Nat,M.Nodup->∃b∈P4 M,(∀i∈M,b i=c i)/\∀i,i∉M->b i=false
 | [],_=>⟨_,List.mem_singleton.2 rfl,fun i h=>(by cases h),fun _ _=>rfl⟩
 | i :: r,hn=>by
  obtain⟨f,l⟩:=List.nodup_cons.1 hn;obtain⟨b,g,k,d⟩:=Xg c r l;by_cases e:c i
  ·refine⟨Cl b i,List.mem_flatMap.2 ⟨b,g,by simp⟩,fun j a=>?_,fun j a=>?_⟩
   ·unfold Cl;rcases List.mem_cons.1 a with rfl | a
    ·simp[e]
    ·have:(j == i)=false:=Ij fun e=>f (e▸a)
     rw[this,Bool.false_or];exact k j a
   ·unfold Cl;have m:(j == i)=false:=Ij fun e=>a (e▸List.mem_cons_self)
    rw[m,Bool.false_or];exact d j (fun h=>a (List.mem_cons_of_mem _ h))
  ·refine⟨b,List.mem_flatMap.2 ⟨b,g,by simp⟩,fun j a=>?_,fun j a=>?_⟩
   ·rcases List.mem_cons.1 a with rfl | a
    ·rw[d j f];simpa using e
    ·exact k j a
   ·exact d j (fun h=>a (List.mem_cons_of_mem _ h))
theorem XJ(b:Nat->Bool)(i:Nat):∀M:List Nat,M.Nodup->i∈M->b i=false->(M.countP fun j=>!b j)=(M.countP fun j=>!Cl b i j)+1
 | [],_,h,_=>by cases h
 | j :: r,hn,h,hbi=>by
  obtain⟨f,k⟩:=List.nodup_cons.1 hn;rw[List.countP_cons,List.countP_cons];rcases List.mem_cons.1 h with e | a
  ·subst e;have g:(r.countP fun j=>!b j)=r.countP fun j=>!Cl b i j:=by
    refine List.countP_congr fun p l=>?_
    unfold Cl;have:(p == i)=false:=Ij fun e=>f (e▸l)
    rw[this,Bool.false_or]
   have c:Cl b i i=true:=(by unfold Cl;simp);rw[g,hbi,c];simp
  ·have d:(j == i)=false:=Ij fun e=>f (e▸a)
   have c:Cl b i j=b j:=(by unfold Cl;rw[d,Bool.false_or]);have m:=XJ b i r k a hbi;rw[c];omega
def Pn(md:Region.Mode)(ops:Array Oper)(M:List Nat)(D:Nat->List Nat)(l0:Array Bool):Bool:=
 (P4 M).all fun b=>!(M.all fun i=>!b i || (D i).all b) || (M.all b || (!(Region.ready md ops (DF b M l0)).isEmpty && (Region.ready md ops (DF b M l0)).all fun i=>M.contains i && !b i && (D i).all b))
section
variable {P : Program} {md : Region.Mode} {ops : Array Oper} {Q : Exit -> Act -> World -> Prop} {S G : World -> Prop}
variable{M:List Nat}{D:Nat->List Nat}{d:Nat->Nat}{F:Nat->Value->World->Prop}{l0:Array Bool}
theorem zDj{a0:Act}{l:Nat}
 (A:Pn md ops M D l0=true) (hn:M.Nodup) (hd:M.Pairwise (fun p q=>d p≠d q)) (o:∀i∈M,∀j∈D i,j∈M)
 (hF:∀i v w w',F i v w->Below w.heap.size w w'->F i v w') (Z:∀w w',G w->Below w.heap.size w w'->G w')
 (s:∀i∈M,∀x w,S w->G w->(∀j∈D i,F j (x j) w)->∀K:Act->World->Prop,Shut (∀J v w',J=(BI d x M a0).put (some (d i)) v->S w'->F i v w'->Below w.heap.size w w'->K J w')->wpOp P ops Q i K (BI d x M a0) w)
 (B:∀x w,S w->G w->(∀i∈M,F i (x i) w)->wpAnyH P md ops Q S l (DF (fun _=>true) M l0) (BI d x M a0) w) :
 ∀(n:Nat) (b:Nat->Bool),(M.countP fun i=>!b i)=n->(∀i∈M,b i=true->∀j∈D i,b j=true)->∀x w,S w->G w->(∀i∈M,b i=true->F i (x i) w)->wpAnyH P md ops Q S (l+n) (DF b M l0) (BI d x M a0) w:=by
 intro n
 induction n with
 | zero=>
  intro b Y O x w N H E;have m:∀i∈M,b i=true:=fun i hi=>by
   have:=(List.countP_eq_zero.1 Y) i hi;simpa using this
  rw[MM (c:=fun _=>true) m];exact B x w N H (fun i hi=>E i hi (m i hi))
 | succ n ih=>
  intro b Y O x w N H E;obtain⟨c,U,f,bA⟩:=Xg b M hn;have C:=List.all_eq_true.1 A c U;have T:(M.all fun i=>!c i || (D i).all c)=true:=List.all_eq_true.2 fun i hi=>by
   rw[f i hi];by_cases e:b i=true
   ·have:(D i).all c=true:=List.all_eq_true.2 fun j k=>by rw[f j (o i hi j k)];exact O i hi e j k
    rw[this];simp
   ·have:b i=false:=(by simpa using e);rw[this];rfl
  have V:(M.all c)=false:=by
   cases h:M.all c with
   | false=>rfl
   | true=>
    have X:(M.countP fun i=>!b i)=0:=List.countP_eq_zero.2 fun i hi=>by rw[<-f i hi,List.all_eq_true.1 h i hi];simp
    omega
  rw[T,V]at C;simp only[Bool.not_true,Bool.false_or,Bool.and_eq_true]at C;rw[MM (c:=c) (fun i hi=>(f i hi).symm)];refine⟨fun X=>?_,fun i hi=>?_⟩
  ·rw[X]at C;simp at C
  ·have I:=List.all_eq_true.1 C.2 i hi;simp only[Bool.and_eq_true,Bool.not_eq_true']at I;have g:i∈M:=(by simpa using I.1.1);have R:b i=false:=(by rw[<-f i g];exact I.1.2);have t:∀j∈D i,b j=true:=fun j k=>by rw[<-f j (o i g j k)];exact List.all_eq_true.1 I.2 j k
   refine s i g x w N H (fun j k=>E j (o i g j k) (t j k)) _ ?_;intro J v w' ha u L y;refine⟨u,?_⟩;rw[ha,Va d x i v M a0 g hd,RC c i M l0 g];have z:∀j∈M,Cl c i j=Cl b i j:=fun j k=>by unfold Cl;rw[f j k]
   rw[MM (c:=Cl b i) z];refine ih (Cl b i) ?_ ?_ (GF x i v) w' u (Z w w' H y) ?_
   ·have h1:(M.countP fun j=>!b j)=(M.countP fun j=>!Cl b i j)+1:=XJ b i M hn g R;omega
   ·intro p W a j k;unfold Cl at a ⊢;by_cases e:p=i
    ·subst e;rw[t j k];simp
    ·have r:(p == i)=false:=Ij e;rw[r,Bool.false_or]at a;rw[O p W a j k];simp
   ·intro p W a;unfold GF;by_cases e:p=i
    ·subst e;rw[if_pos rfl];exact L
    ·rw[if_neg e];unfold Cl at a;have r:(p == i)=false:=Ij e;rw[r,Bool.false_or]at a;exact hF p _ w w' (E p W a) y
variable{w:World}
theorem zFb{a0:Act}{c:Nat}(n:Nat->Value)
 (e:Pn md ops M D l0=true) (hn:M.Nodup) (m:M.Pairwise (fun p q=>d p≠d q)) (k:∀i∈M,∀j∈D i,j∈M)
 (hF:∀i v w w',F i v w->Below w.heap.size w w'->F i v w') (o:∀w w',G w->Below w.heap.size w w'->G w')
 (b:∀i∈M,∀x w,S w->G w->(∀j∈D i,F j (x j) w)->∀K:Act->World->Prop,Shut (∀l v w',l=(BI d x M a0).put (some (d i)) v->S w'->F i v w'->Below w.heap.size w w'->K l w')->wpOp P ops Q i K (BI d x M a0) w)
 (g:∀x w,S w->G w->(∀i∈M,F i (x i) w)->wpAnyH P md ops Q S c (DF (fun _=>true) M l0) (BI d x M a0) w)
 {a:Act} {f:Nat} (t:a=BI d n M a0) (u:f=c+M.length) (s:S w) (y:G w):wpAnyH P md ops Q S f l0 a w:=by
 subst t u;have e0:DF (fun _=>false) M l0=l0:=by
  clear e hn m k b g
  induction M with
  | nil=>rfl
  | cons i r ih=>exact ih
 have:=zDj (P:=P) (Q:=Q) e hn m k hF o b g M.length (fun _=>false) (by simp[List.countP_true]) (fun i hi h=>by cases h) n w s y (fun i hi h=>by cases h)
 rwa [e0]at this
theorem zFw(a:Act)(k:Nat):a.put (some k) (a.tmps.getD k undef)=a:=by
 unfold Act.put;have:a.tmps.setIfInBounds k (a.tmps.getD k undef)=a.tmps:=by
  refine Array.ext_getElem? fun j=>?_
  rw[Array.getElem?_setIfInBounds];by_cases e:k=j
  ·subst e;by_cases h:k<a.tmps.size
   ·simp[h,Array.getD]
   ·simp[h]
  ·simp[e]
 cases a;simp only[this]
theorem Xh(d:Nat->Nat)(a:Act):∀M:List Nat,BI d (fun i=>a.tmps.getD (d i) undef) M a=a
 | []=>rfl
 | i :: r=>by
  show BI d _ r (a.put (some (d i)) (a.tmps.getD (d i) undef))=a;rw[zFw];exact Xh d a r
theorem QX(M:List Nat)(D:Nat->List Nat)(d:Nat->Nat)(F:Nat->Value->World->Prop)(b:Nat){a:Act}
 (e:Pn md ops M D l0=true) (hn:M.Nodup) (m:M.Pairwise (fun p q=>d p≠d q)) (g:∀i∈M,∀j∈D i,j∈M)
 (hF:∀i v w w',F i v w->Below w.heap.size w w'->F i v w') (k:∀w w',G w->Below w.heap.size w w'->G w') (l:S w) (n:G w)
 (c:∀i∈M,∀x w,S w->G w->(∀j∈D i,F j (x j) w)->∀K:Act->World->Prop,Shut (∀h v w',h=(BI d x M a).put (some (d i)) v->S w'->F i v w'->Below w.heap.size w w'->K h w')->wpOp P ops Q i K (BI d x M a) w)
 (f:∀x w,S w->G w->(∀i∈M,F i (x i) w)->wpAnyH P md ops Q S b (DF (fun _=>true) M l0) (BI d x M a) w):wpAnyH P md ops Q S (b+M.length) l0 a w:=
 zFb (fun i=>a.tmps.getD (d i) undef) e hn m g hF k c f (Xh d a M).symm rfl l n
end
def D2(w:World)(lb:Array Value)(caps:List Value):Prop:=lb.size=caps.length/\∀(k:Nat) (u:Value),caps[k]?=some u->∃B,lb[k]?=some (.pointer (some ⟨B,0,none⟩))/\w.cell? ⟨B,0,none⟩=some u
variable{w w':World}{lb:Array Value}{caps:List Value}
theorem D2.A1(h:D2 w lb caps)(t:Below w.heap.size w w'):D2 w' lb caps:=
 ⟨h.1,fun k u c=>by
  obtain⟨B,b,a⟩:=h.2 k u c;exact⟨B,b,(t.cell (AV a)).trans a⟩⟩
theorem D2.zero:D2 w #[] []:=⟨rfl,fun k u h=>by simp at h⟩
variable{u:Value}
theorem D2.one{B:Nat}(h:w.cell? ⟨B,0,none⟩=some u):D2 w #[.pointer (some ⟨B,0,none⟩)] [u]:=
 ⟨rfl,fun k x a=>by
  match k,a with
  | 0,a=>simp at a;subst a;exact⟨B,rfl,h⟩
  | k+1,a=>simp at a⟩
variable{v:Value}
theorem D2.two{B C:Nat}(h:w.cell? ⟨B,0,none⟩=some u)(b:w.cell? ⟨C,0,none⟩=some v):D2 w #[.pointer (some ⟨B,0,none⟩),.pointer (some ⟨C,0,none⟩)] [u,v]:=
 ⟨rfl,fun k x a=>by
  match k,a with
  | 0,a=>simp at a;subst a;exact⟨B,rfl,h⟩
  | 1,a=>simp at a;subst a;exact⟨C,rfl,b⟩
  | k+2,a=>simp at a⟩
theorem D2.is0(h:D2 w lb []):lb=#[]:=Array.eq_empty_of_size_eq_zero h.1
theorem D2.is1(h:D2 w lb [u]):∃B,lb=#[.pointer (some ⟨B,0,none⟩)]/\w.cell? ⟨B,0,none⟩=some u:=by
 obtain⟨B,a,b⟩:=h.2 0 u rfl;refine⟨B,?_,b⟩;have hs:=h.1;obtain⟨l⟩:=lb
 match l,hs,a with
 | [x],_,a=>simp at a;rw[a]
theorem D2.is2(h:D2 w lb [u,v]):∃B C,lb=#[.pointer (some ⟨B,0,none⟩),.pointer (some ⟨C,0,none⟩)]/\w.cell? ⟨B,0,none⟩=some u/\w.cell? ⟨C,0,none⟩=some v:=by
 obtain⟨B,a,c⟩:=h.2 0 u rfl;obtain⟨C,b,d⟩:=h.2 1 v rfl;refine⟨B,C,?_,c,d⟩;have hs:=h.1;obtain⟨l⟩:=lb
 match l,hs,a,b with
 | [x,y],_,a,b=>simp at a b;rw[a,b]
def QAt(w:World)(p:Nat->Addr)(g i:Nat)(caps:List Value)(v:Value):Prop:=∃lb,v = .agg #[.func (.func g) #[] lb,Af (p i)]/\D2 w lb caps
variable{p:Nat->Addr}
theorem QAt.A1{g i:Nat}(h:QAt w p g i caps v)(t:Below w.heap.size w w'):QAt w' p g i caps v:=by
 obtain⟨b,hv,a⟩:=h;exact⟨b,hv,a.A1 t⟩
variable{s:ByteArray}{t:TypeId}{f:Nat->ByteArray}
theorem zDR(hs:s.size<=maxLen)(a:f 0=s):E3 (w.alloc (.cells #[.string s] t)) (.slice (some ⟨w.heap.size,0,none⟩) 1 1) 1 f:=by
 refine⟨by omega,_,_,rfl,fun i hi=>?_,fun _=>⟨_,_,rfl,fun i hi=>?_⟩⟩
 ·obtain rfl:i=0:=(by omega);rw[a];exact hs
 ·obtain rfl:i=0:=(by omega);rw[a];exact World.cell?_alloc_at _ _ _ _ rfl
theorem Vp{u:ByteArray}(hs:s.size<=maxLen)(c:u.size<=maxLen)(a:f 0=s)(b:f 1=u):E3 (w.alloc (.cells #[.string s,.string u] t)) (.slice (some ⟨w.heap.size,0,none⟩) 2 2) 2 f:=by
 refine⟨by omega,_,_,rfl,fun i hi=>?_,fun _=>⟨_,_,rfl,fun i hi=>?_⟩⟩
 ·rcases(by omega:i=0\/i=1)with rfl | rfl
  ·rw[a];exact hs
  ·rw[b];exact c
 ·rcases(by omega:i=0\/i=1)with rfl | rfl
  ·rw[a];exact World.cell?_alloc_at _ _ _ _ rfl
  ·rw[b];exact World.cell?_alloc_at _ _ _ _ rfl
def Gw(w:World)(p:Nat->Addr)(m:Nat)(g ei:Nat->Nat)(caps:Nat->List Value)(v:Value):Prop:=∃lb:Nat->Array Value,It w p v m g lb ei/\∀k,k<m->D2 w (lb k) (caps k)
variable{g ei:Nat->Nat}{caps:Nat->List Value}
theorem Gw.A1{m:Nat}(h:Gw w p m g ei caps v)(t:Below w.heap.size w w'):Gw w' p m g ei caps v:=by
 obtain⟨d,a,b⟩:=h;exact⟨d,a.A1 t,fun k c=>(b k c).A1 t⟩
variable{a:Array Value}
theorem zHq(c:D2 w a (caps 0)):Gw (w.alloc (.cells #[.func (.func (g 0)) #[] a,Af (p (ei 0))] t)) p 1 g ei caps (.slice (some ⟨w.heap.size,0,none⟩) 1 1):=by
 have b:=AB w (.cells #[.func (.func (g 0)) #[] a,Af (p (ei 0))] t);refine⟨(fun i=>match i with  | _=>a),⟨by omega,_,_,rfl,fun _=>⟨_,_,rfl,fun i hi=>?_⟩⟩,fun i hi=>?_⟩
 ·obtain rfl:i=0:=(by omega);exact⟨World.cell?_alloc_at _ _ _ _ rfl,World.cell?_alloc_at _ _ _ _ rfl⟩
 ·obtain rfl:i=0:=(by omega);exact c.A1 b
theorem zHc{b c:Array Value}(e:D2 w a (caps 0))(f:D2 w b (caps 1))(h:D2 w c (caps 2)):Gw (w.alloc (.cells #[.func (.func (g 0)) #[] a,Af (p (ei 0)),.func (.func (g 1)) #[] b,Af (p (ei 1)),.func (.func (g 2)) #[] c,Af (p (ei 2))] t)) p 3 g ei caps (.slice (some ⟨w.heap.size,0,none⟩) 3 3):=by
 have d:=AB w (.cells #[.func (.func (g 0)) #[] a,Af (p (ei 0)),.func (.func (g 1)) #[] b,Af (p (ei 1)),.func (.func (g 2)) #[] c,Af (p (ei 2))] t);refine⟨(fun i=>match i with | 0=>a | 1=>b | _=>c),⟨by omega,_,_,rfl,fun _=>⟨_,_,rfl,fun i hi=>?_⟩⟩,fun i hi=>?_⟩
 ·rcases(by omega:i=0\/i=1\/i=2)with rfl | rfl | rfl
  all_goals exact⟨World.cell?_alloc_at _ _ _ _ rfl,World.cell?_alloc_at _ _ _ _ rfl⟩
 ·rcases(by omega:i=0\/i=1\/i=2)with rfl | rfl | rfl
  ·exact e.A1 d
  ·exact f.A1 d
  ·exact h.A1 d
theorem zAk(k v1 l m:Value)(lo hi:Nat)(W:A6)(name:ByteArray)(w:World)(h:C7 w lo hi k v1 l m W)(y:W.sn<=8)(z:name.size<=maxLen) :
 Calls Tryz.prog 54 #[Cc k v1 l m W,.string name] w fun e w'=>AJ (BL W name) e/\Below w.heap.size w w':=by
 have J:=A4 h;clear h;have u:=AB w (.cells #[k,v1,A0 W.time,A0 W.next,l,m] 30);obtain⟨N,O,P,Q,R,S⟩:=(At.new w (k) (v1) (A0 W.time) (A0 W.next) (l) (m) 30).c;go_enter Tryz.func54,Tryz.ntmps54;go_wp2_with fail;clear N O P Q R S;generalize w.alloc (.cells #[k,v1,A0 W.time,A0 W.next,l,m] 30)=W0 at u ⊢;refine(ZA k v1 l m lo hi W W0 (J.out.A1 u) y).mono ?_;rintro e I ⟨vd,rfl,g,t,r⟩;have s:∀i,i<W.sn->∃a n c,vd i = .slice a n c:=fun i hi'=>by
  obtain⟨_,K,L,hv,_⟩:=t i hi';exact⟨K,_,L,hv⟩
 obtain⟨F,B,C,D,E,G,H,sc,q⟩:=Vj s name;have o:=A4 q;have d:=A4 (Tv (W:=W) (vd:=vd));have j:=A4 g;have f:=A4 (Pc z);have p:=A9 u r;clear g t s r u q;obtain⟨M,A⟩:∃M,M=W0.heap.size+1:=⟨_,rfl⟩;rw[<-A]at j ⊢;clear A;by_cases b:BL W name
 ·skip;have v:=A4 (show Maps.has (putD (fun i=>DP (W.A2 i).name) (fun i=>Fm (vd i) (W.A2 i)) W.sn) (DP name)=true from(d.out name).2 b);have x:=A4 b;clear b;go_wp2_with (first
   | (at_lookup;refine Oq _ rfl _ _ 149 rfl 9 46 MT L8 (Nm _) M W.sn _ rfl j.out _ _ rfl f.out _ o.out true v.out ?_)
   | go_in)
  go_ret;exact⟨AJ.yes x.out,A9 p (AB I (.cells #[.string F,A0 B,A0 C,A0 D,A0 E,.slice G H sc] 46))⟩
 ·skip;have v:=A4 (show Maps.has (putD (fun i=>DP (W.A2 i).name) (fun i=>Fm (vd i) (W.A2 i)) W.sn) (DP name)=false from by rw[Bool.eq_false_iff];exact fun h=>b ((d.out name).1 h));have x:=A4 b;clear b;go_wp2_with (first
   | (at_lookup;refine Oq _ rfl _ _ 149 rfl 9 46 MT L8 (Nm _) M W.sn _ rfl j.out _ _ rfl f.out _ o.out false v.out ?_)
   | go_in)
  go_ret;exact⟨AJ.no x.out,A9 p (AB I (.cells #[.string F,A0 B,A0 C,A0 D,A0 E,.slice G H sc] 46))⟩
theorem Z3(b v1 d f:Value)(lo hi:Nat)(W:A6)(B:Nat)(name:ByteArray)(w:World)(h:C7 w lo hi b v1 d f W)(o:W.sn<=8)(p:name.size<=maxLen)(m:w.cell? ⟨B,0,none⟩=some (.string name)) :
 Calls Tryz.prog 53 #[Cc b v1 d f W,.pointer (some ⟨B,0,none⟩)] w fun e w'=>AJ (BL W name) e/\Below w.heap.size w w':=by
 have q:=A4 h;clear h;have i:=AB w (.cells #[b,v1,A0 W.time,A0 W.next,d,f] 30);have n:=(i.cell (AV m)).trans m;obtain⟨r,s,u,v,x,y⟩:=(At.new w (b) (v1) (A0 W.time) (A0 W.next) (d) (f) 30).c;go_enter Tryz.func53,Tryz.ntmps53;go_wp2_with fail;clear r s u v x y m n;generalize w.alloc (.cells #[b,v1,A0 W.time,A0 W.next,d,f] 30)=W0 at i ⊢;refine(zAk b v1 d f lo hi W name W0 (q.out.A1 i) o p).mono ?_;rintro e z ⟨⟨t,rfl,j⟩,l⟩;have g:=A9 i l;by_cases a:BL W name
 ·obtain rfl:t=true:=j.2 a;have k:=A4 a;clear j a;go_wp2;go_ret;exact⟨AJ.yes k.out,g⟩
 ·obtain rfl:t=false:=BQ j a;have k:=A4 a;clear j a;go_wp2;go_ret;exact⟨AJ.no k.out,g⟩
theorem Yz(p:Nat->Addr)(b:ByteArray)(w:World)(k:D8 w p) :
 Calls Tryz.prog 19 #[.string b] w fun e w'=>∃j:Nat,e = .returned (.agg #[.func (.func 53) #[] #[.pointer (some ⟨j,0,none⟩)],Af (p 2)])/\w'.cell? ⟨j,0,none⟩=some (.string b)/\Below w.heap.size w w':=by
 have d:=AB w (.cells #[.string b] 9);have i:=AB (w.alloc (.cells #[.string b] 9)) (.cells #[.nilFunc,.nilIface] 61);have l:=A9 (d) i;have c0:(w.alloc (.cells #[.string b] 9)).cell? ⟨w.heap.size,0,none⟩=some (.string b):=World.cell?_alloc_at _ _ _ _ rfl;have o:((w.alloc (.cells #[.string b] 9)).alloc (.cells #[.nilFunc,.nilIface] 61)).cell? ⟨0,0,none⟩=some (Af (p 2)):=(k.A1 l).cell 2 (by omega);have f:=AB (w.alloc (.cells #[.string b] 9)) (.cells #[.func (.func 53) #[] #[.pointer (some ⟨w.heap.size,0,none⟩)],Af (p 2)] 61);have h:=A9 (d) f;have g:=A4 ((f.cell (AV c0)).trans c0);clear c0;go_enter Tryz.func19,Tryz.ntmps19;have m:=fun (n:World) (a:Addr)=>run_store Tryz.prog n a (.func (.func 53) #[] #[.pointer (some ⟨w.heap.size,0,none⟩)]) .plain rfl
 go_wp2_with fail;have c:=Ad.new (w.alloc (.cells #[.string b] 9)) (.func (.func 53) #[] #[.pointer (some ⟨w.heap.size,0,none⟩)]) (Af (p 2)) 61;rw[World.size_alloc]at c;refine bodyPost_ret (v:=.agg #[.func (.func 53) #[] #[.pointer (some ⟨w.heap.size,0,none⟩)],Af (p 2)]) (by simp[results,Tryz.results19,go_sem,c.1.1,c.2.1]) rfl ⟨_,rfl,g.out,h⟩
theorem zCE(s:Aa)(a:Option Addr)(c:Nat)(j k:Nat)(set name:ByteArray)(w:World)(g:w.cell? ⟨j,0,none⟩=some (.string set))(i:w.cell? ⟨k,0,none⟩=some (.string name)) :
 Calls Tryz.prog 110 #[.agg #[A0 s.id,.string s.name,.string s.set,A0 s.A8,A0 s.time,A0 s.rs,A0 s.rb,.slice a s.dn c],.pointer (some ⟨j,0,none⟩),.pointer (some ⟨k,0,none⟩)] w fun e w'=>AJ (s.set=set/\s.name=name) e/\Below w.heap.size w w':=by
 have f:=AB w (.cells #[A0 s.id,.string s.name,.string s.set,A0 s.A8,A0 s.time,A0 s.rs,A0 s.rb,.slice a s.dn c] 41);have n:=(f.cell (AV g)).trans g;have o:=(f.cell (AV i)).trans i;clear g i;obtain⟨⟨⟨p,-⟩,⟨q,-⟩,⟨r,-⟩,⟨t,-⟩⟩,⟨u,-⟩,⟨v,-⟩,⟨x,-⟩,⟨y,-⟩⟩:=DX.new w (A0 s.id) (.string s.name) (.string s.set) (A0 s.A8) (A0 s.time) (A0 s.rs) (A0 s.rb) (.slice a s.dn c) 41;by_cases b:s.set=set
 ·by_cases d:s.name=name
  ·skip;have l:=LP b;have m:=LP d;have H:=A4 (And.intro b d);clear b d;go_enter Tryz.func110,Tryz.ntmps110;go_wp2;go_ret;exact⟨AJ.yes H.out,f⟩
  ·skip;have l:=LP b;have m:=Mx d;have H:=A4 (d);clear b d;go_enter Tryz.func110,Tryz.ntmps110;go_wp2;go_ret;exact⟨AJ.no fun h=>H.out h.2,f⟩
 ·skip;have l:=Mx b;have H:=A4 (b);clear b;go_enter Tryz.func110,Tryz.ntmps110;go_wp2;go_ret;exact⟨AJ.no fun h=>H.out h.1,f⟩
theorem zBT(b v1 d f:Value)(lo hi:Nat)(W:A6)(set name:ByteArray)(w:World)(h:C7 w lo hi b v1 d f W)(hn:W.pn<=20) :
 Calls Tryz.prog 56 #[Cc b v1 d f W,.string set,.string name] w fun e w'=>AJ (∃i,i<W.pn/\(W.A3 i).set=set/\(W.A3 i).name=name) e/\Below w.heap.size w w':=by
 have q:=A4 h;clear h;have s:=AB w (.cells #[b,v1,A0 W.time,A0 W.next,d,f] 30);have o:=AB (w.alloc (.cells #[b,v1,A0 W.time,A0 W.next,d,f] 30)) (.cells #[.string set] 9);have n:=AB ((w.alloc (.cells #[b,v1,A0 W.time,A0 W.next,d,f] 30)).alloc (.cells #[.string set] 9)) (.cells #[.string name] 9);have c0:((w.alloc (.cells #[b,v1,A0 W.time,A0 W.next,d,f] 30)).alloc (.cells #[.string set] 9)).cell? ⟨(w.alloc (.cells #[b,v1,A0 W.time,A0 W.next,d,f] 30)).heap.size,0,none⟩=some (.string set):=World.cell?_alloc_at _ _ _ _ rfl;have c1:(((w.alloc (.cells #[b,v1,A0 W.time,A0 W.next,d,f] 30)).alloc (.cells #[.string set] 9)).alloc (.cells #[.string name] 9)).cell? ⟨((w.alloc (.cells #[b,v1,A0 W.time,A0 W.next,d,f] 30)).alloc (.cells #[.string set] 9)).heap.size,0,none⟩=some (.string name):=World.cell?_alloc_at _ _ _ _ rfl;replace c0:=(n.cell (AV c0)).trans c0;rw[World.size_alloc]at c0;rw[World.size_alloc,World.size_alloc]at c1;have l:=A9 (A9 s o) n;have u:=((At.new w (b) (v1) (A0 W.time) (A0 W.next) (d) (f) 30).A1 o).A1 n;obtain⟨v,x,y,z,A,B⟩:=u.c;have j:=A4 c0;have k:=A4 c1;clear c0 c1;go_enter Tryz.func56,Tryz.ntmps56;go_wp2_with fail;clear v x y z A B;generalize ((w.alloc (.cells #[b,v1,A0 W.time,A0 W.next,d,f] 30)).alloc (.cells #[.string set] 9)).alloc (.cells #[.string name] 9)=W1 at l j k ⊢;refine(zCF 110 #[.pointer (some ⟨w.heap.size+1,0,none⟩),.pointer (some ⟨w.heap.size+1+1,0,none⟩)] (enters_of Tryz.func110 (by kernel_rfl) rfl) (fun i=>(W.A3 i).set=set/\(W.A3 i).name=name) _ W.pn lo hi W.A3 W1 (q.out.A3.A1 l) (by omega) (fun i hi' a c w' g C=>zCE (W.A3 i) a c _ _ set name w' ((g.cell (AV j.out)).trans j.out) ((g.cell (AV k.out)).trans k.out))).mono ?_;rintro e D ⟨⟨t,rfl,p⟩,m⟩;have r:=A4 p;clear p;go_wp2;go_ret;exact⟨⟨t,rfl,r.out⟩,A9 l m⟩
theorem zDJ(b v1 d f:Value)(lo hi:Nat)(W:A6)(p q:Nat)(set name:ByteArray)(w:World)(h:C7 w lo hi b v1 d f W)(hn:W.pn<=20)(m:w.cell? ⟨p,0,none⟩=some (.string set))(n:w.cell? ⟨q,0,none⟩=some (.string name)) :
 Calls Tryz.prog 55 #[Cc b v1 d f W,.pointer (some ⟨p,0,none⟩),.pointer (some ⟨q,0,none⟩)] w fun e w'=>AJ (¬∃i,i<W.pn/\(W.A3 i).set=set/\(W.A3 i).name=name) e/\Below w.heap.size w w':=by
 have r:=A4 h;clear h;have j:=AB w (.cells #[b,v1,A0 W.time,A0 W.next,d,f] 30);have s:=(j.cell (AV m)).trans m;have u:=(j.cell (AV n)).trans n;obtain⟨v,x,y,z,A,B⟩:=(At.new w (b) (v1) (A0 W.time) (A0 W.next) (d) (f) 30).c;clear m n;go_enter Tryz.func55,Tryz.ntmps55;go_wp2_with fail;clear v x y z A B s u;generalize w.alloc (.cells #[b,v1,A0 W.time,A0 W.next,d,f] 30)=W0 at j ⊢;refine(zBT b v1 d f lo hi W set name W0 (r.out.A1 j) hn).mono ?_;rintro e C ⟨⟨t,rfl,k⟩,o⟩;have g:=A9 j o;by_cases a:∃i,i<W.pn/\(W.A3 i).set=set/\(W.A3 i).name=name
 ·obtain rfl:t=true:=k.2 a;have l:=A4 a;clear k a;go_wp2;go_ret;exact⟨AJ.no (fun h=>h l.out),g⟩
 ·obtain rfl:t=false:=BQ k a;have l:=A4 a;clear k a;go_wp2;go_ret;exact⟨AJ.yes l.out,g⟩
def Iw(W:A6):Prop:=W.pn<20/\W.time<900000/\W.next<900000
theorem zDE(d v1 f k:Value)(lo hi:Nat)(W:A6)(w:World)(h:C7 w lo hi d v1 f k W) :
 Calls Tryz.prog 57 #[Cc d v1 f k W] w fun e w'=>AJ (Iw W) e/\Below w.heap.size w w':=by
 obtain⟨q,j,sc,rfl,-,-⟩:=id h.A3;unfold maxLen at q;clear h;have b:=AB w (.cells #[d,v1,A0 W.time,A0 W.next,f,.slice j W.pn sc] 30);obtain⟨r,s,t,u,v,x⟩:=(At.new w d v1 (A0 W.time) (A0 W.next) f (.slice j W.pn sc) 30).c;by_cases a:W.pn<20;rotate_left
 ·have n:¬(W.pn:Int)<20:=(by omega);have H:=A4 a;clear a;go_enter Tryz.func57,Tryz.ntmps57;go_wp2;go_ret;exact⟨AJ.no fun h=>H.out h.1,b⟩
 have n:(W.pn:Int)<20:=by omega
 have l:=A4 a;clear a;by_cases g:W.time<900000;rotate_left
 ·have H:=A4 g;go_enter Tryz.func57,Tryz.ntmps57;go_wp2;go_ret;exact⟨AJ.no fun h=>by have o:=H.out;have p:=h.2.1;omega,b⟩
 have m:=A4 g;by_cases i:W.next<900000
 ·have H:=A4 i;go_enter Tryz.func57,Tryz.ntmps57;go_wp2;go_ret;exact⟨AJ.yes ⟨l.out,m.out,H.out⟩,b⟩
 ·have H:=A4 i;go_enter Tryz.func57,Tryz.ntmps57;go_wp2;go_ret;exact⟨AJ.no fun h=>by have o:=H.out;have p:=h.2.2;omega,b⟩
theorem zDF(p:Nat->Addr)(b:ByteArray)(s1:ByteArray)(w:World)(n:D8 w p) :
 Calls Tryz.prog 20 #[.string b,.string s1] w fun e w'=>∃l m:Nat,e = .returned (.agg #[.func (.func 55) #[] #[.pointer (some ⟨l,0,none⟩),.pointer (some ⟨m,0,none⟩)],Af (p 3)])/\w'.cell? ⟨l,0,none⟩=some (.string b)/\w'.cell? ⟨m,0,none⟩=some (.string s1)/\Below w.heap.size w w':=by
 have g:=AB w (.cells #[.string b] 9);have d:=AB (w.alloc (.cells #[.string b] 9)) (.cells #[.string s1] 9);have k:=AB ((w.alloc (.cells #[.string b] 9)).alloc (.cells #[.string s1] 9)) (.cells #[.nilFunc,.nilIface] 61);have o:=A9 (A9 (g) d) k;have c0:(w.alloc (.cells #[.string b] 9)).cell? ⟨w.heap.size,0,none⟩=some (.string b):=World.cell?_alloc_at _ _ _ _ rfl;replace c0:=(d.cell (AV c0)).trans c0;have c1:((w.alloc (.cells #[.string b] 9)).alloc (.cells #[.string s1] 9)).cell? ⟨(w.alloc (.cells #[.string b] 9)).heap.size,0,none⟩=some (.string s1):=World.cell?_alloc_at _ _ _ _ rfl;rw[World.size_alloc]at c1;have s:(((w.alloc (.cells #[.string b] 9)).alloc (.cells #[.string s1] 9)).alloc (.cells #[.nilFunc,.nilIface] 61)).cell? ⟨1,0,none⟩=some (Af (p 3)):=(n.A1 o).cell 3 (by omega);have f:=AB ((w.alloc (.cells #[.string b] 9)).alloc (.cells #[.string s1] 9)) (.cells #[.func (.func 55) #[] #[.pointer (some ⟨w.heap.size,0,none⟩),.pointer (some ⟨w.heap.size+1,0,none⟩)],Af (p 3)] 61);have j:=A9 (A9 (g) d) f;have h:=A4 ((f.cell (AV c0)).trans c0);clear c0;have i:=A4 ((f.cell (AV c1)).trans c1);clear c1;go_enter Tryz.func20,Tryz.ntmps20;have q:=fun (r:World) (a:Addr)=>run_store Tryz.prog r a (.func (.func 55) #[] #[.pointer (some ⟨w.heap.size,0,none⟩),.pointer (some ⟨w.heap.size+1,0,none⟩)]) .plain rfl
 go_wp2_with fail;have c:=Ad.new ((w.alloc (.cells #[.string b] 9)).alloc (.cells #[.string s1] 9)) (.func (.func 55) #[] #[.pointer (some ⟨w.heap.size,0,none⟩),.pointer (some ⟨w.heap.size+1,0,none⟩)]) (Af (p 3)) 61;rw[World.size_alloc,World.size_alloc]at c;refine bodyPost_ret (v:=.agg #[.func (.func 55) #[] #[.pointer (some ⟨w.heap.size,0,none⟩),.pointer (some ⟨w.heap.size+1,0,none⟩)],Af (p 3)]) (by simp[results,Tryz.results20,go_sem,c.1.1,c.2.1]) rfl ⟨_,_,rfl,h.out,i.out,j⟩
theorem zDA(p:Nat->Addr)(w:World)(g:D8 w p) :
 Calls Tryz.prog 21 #[] w fun e w'=>e = .returned (.agg #[.func (.func 57) #[] #[],Af (p 4)])/\Below w.heap.size w w':=by
 have d:=AB w (.cells #[.nilFunc,.nilIface] 61);have h:=d;have k:(w.alloc (.cells #[.nilFunc,.nilIface] 61)).cell? ⟨2,0,none⟩=some (Af (p 4)):=(g.A1 h).cell 4 (by omega);have f:=AB w (.cells #[.func (.func 57) #[] #[],Af (p 4)] 61);have c:=f;go_enter Tryz.func21,Tryz.ntmps21;have i:=fun (j:World) (a:Addr)=>run_store Tryz.prog j a (.func (.func 57) #[] #[]) .plain rfl
 go_wp2_with fail;have b:=Ad.new w (.func (.func 57) #[] #[]) (Af (p 4)) 61;skip;refine bodyPost_ret (v:=.agg #[.func (.func 57) #[] #[],Af (p 4)]) (by simp[results,Tryz.results21,go_sem,b.1.1,b.2.1]) rfl ⟨rfl,c⟩
theorem ZG(p:Nat->Addr)(u v1 y z:Value)(lo hi:Nat)(W:A6)(set:ByteArray)(name:ByteArray)(o:Bm)(w:World)(hE:D8 w p)(h:C7 w lo hi u v1 y z W)(fB:G4 W)(b1:Ap W.pool<=1048576)(b2:W.sn<=1048576)(b3:W.pn<=1048576)(b4:JX W)(bA:set.size<=maxLen)(iA:name.size<=maxLen)
 (cB:∀P B1 C w' z0 z1 z2 z3,w'.cell? ⟨P,0,none⟩=some (.string set)->P<C->w'.cell? ⟨B1,0,none⟩=some (.string name)->B1<C->DE W->¬(∃i,i<2/\8000<((fun i=>match i with | 0=>set | _=>name) i).size)->¬(∃i,i<1/\¬BX ((fun i=>match i with  | _=>name) i))->(∀j,j<3->(fun i=>match i with | 0=>BL W set | 1=>¬∃i,i<W.pn/\(W.A3 i).set=set/\(W.A3 i).name=name | _=>Iw W) j)->C<w'.heap.size->Below w.heap.size w w'->D5 w' (C+1) w'.heap.size z0 z1 z2 z3 W->Bb w' C z0 z1 (A0 W.time) (A0 W.next) z2 z3 (A0 0) (A0 0) .nilIface->Calls Tryz.prog 22 #[.pointer (some ⟨C,0,none⟩),.pointer (some ⟨P,0,none⟩),.pointer (some ⟨B1,0,none⟩)] w' (IU p o C w')) :
 Calls Tryz.prog 5 #[Cc u v1 y z W,.string set,.string name] w fun e w'=>∃r,FN W (∃i,i<2/\8000<((fun i=>match i with | 0=>set | _=>name) i).size) (∃i,i<1/\¬BX ((fun i=>match i with  | _=>name) i)) 3 (fun i=>match i with | 0=>BL W set | 1=>¬∃i,i<W.pn/\(W.A3 i).set=set/\(W.A3 i).name=name | _=>Iw W) (fun i=>match i with | 0=>2 | 1=>3 | _=>4) r/\Iv (Ez r o) w e w':=by
 have Hp:=AQ h;have HE:=AQ hE;have bC:=AQ cB;have fC:=AQ fB;have L:=AQ bA;have m:=AQ iA;clear h hE cB fB;have vA:=AB w (.cells #[u,v1,A0 W.time,A0 W.next,y,z] 30);have dA:=AB (w.alloc (.cells #[u,v1,A0 W.time,A0 W.next,y,z] 30)) (.cells #[.string set] 9);have R:=AB ((w.alloc (.cells #[u,v1,A0 W.time,A0 W.next,y,z] 30)).alloc (.cells #[.string set] 9)) (.cells #[.string name] 9);have N:=AB (((w.alloc (.cells #[u,v1,A0 W.time,A0 W.next,y,z] 30)).alloc (.cells #[.string set] 9)).alloc (.cells #[.string name] 9)) (.cells #[A5,A5,A0 0,A0 0,A5,A5,A0 0,A0 0,A0 0] 34);have hb:=A9 (A9 (A9 (vA) dA) R) N;have HX:=AQ ((((At.new w (u) (v1) (A0 W.time) (A0 W.next) (y) (z) 30).A1 dA).A1 R).A1 N);have c0:((w.alloc (.cells #[u,v1,A0 W.time,A0 W.next,y,z] 30)).alloc (.cells #[.string set] 9)).cell? ⟨(w.alloc (.cells #[u,v1,A0 W.time,A0 W.next,y,z] 30)).heap.size,0,none⟩=some (.string set):=World.cell?_alloc_at _ _ _ _ rfl;rw[World.size_alloc]at c0;replace c0:=(R.cell (AV c0)).trans c0;replace c0:=(N.cell (AV c0)).trans c0;have nA:=AQ c0;clear c0;have c1:(((w.alloc (.cells #[u,v1,A0 W.time,A0 W.next,y,z] 30)).alloc (.cells #[.string set] 9)).alloc (.cells #[.string name] 9)).cell? ⟨((w.alloc (.cells #[u,v1,A0 W.time,A0 W.next,y,z] 30)).alloc (.cells #[.string set] 9)).heap.size,0,none⟩=some (.string name):=World.cell?_alloc_at _ _ _ _ rfl;rw[World.size_alloc,World.size_alloc]at c1;replace c1:=(N.cell (AV c1)).trans c1;have oA:=AQ c1;clear c1;have hr:=Bb.new (((w.alloc (.cells #[u,v1,A0 W.time,A0 W.next,y,z] 30)).alloc (.cells #[.string set] 9)).alloc (.cells #[.string name] 9)) (A5) (A5) (A0 0) (A0 0) (A5) (A5) (A0 0) (A0 0) (A0 0) 34;rw[World.size_alloc,World.size_alloc,World.size_alloc]at hr;have HR:=AQ hr;clear hr;have hz:((((w.alloc (.cells #[u,v1,A0 W.time,A0 W.next,y,z] 30)).alloc (.cells #[.string set] 9)).alloc (.cells #[.string name] 9)).alloc (.cells #[A5,A5,A0 0,A0 0,A5,A5,A0 0,A0 0,A0 0] 34)).heap.size=w.heap.size+4:=by rw[World.size_alloc,World.size_alloc,World.size_alloc,World.size_alloc]
 go_enter Tryz.func5,Tryz.ntmps5;go_upto_region 1 with fail;generalize ((((w.alloc (.cells #[u,v1,A0 W.time,A0 W.next,y,z] 30)).alloc (.cells #[.string set] 9)).alloc (.cells #[.string name] 9)).alloc (.cells #[A5,A5,A0 0,A0 0,A5,A5,A0 0,A0 0,A0 0] 34))=W1 at hb HX HR hz nA oA ⊢;clear vA dA R N;obtain⟨x0,x1,x2,x3,x4,x5⟩:=HX.out.c;have k0:=nA.out;have k1:=oA.out;have a:=AQ (show ∀w',Below (w.heap.size+1+1+1) W1 w'->(fun w'=>w'.cell? ⟨w.heap.size,0,none⟩=some (u)/\w'.cell? ⟨w.heap.size,1,none⟩=some (v1)/\w'.cell? ⟨w.heap.size,2,none⟩=some (A0 W.time)/\w'.cell? ⟨w.heap.size,3,none⟩=some (A0 W.next)/\w'.cell? ⟨w.heap.size,4,none⟩=some (y)/\w'.cell? ⟨w.heap.size,5,none⟩=some (z)/\w'.cell? ⟨w.heap.size+1,0,none⟩=some (.string set)/\w'.cell? ⟨w.heap.size+1+1,0,none⟩=some (.string name)/\Below (w.heap.size+1+1+1) W1 w') w' from fun w' b=>⟨(b.cell (p:=⟨w.heap.size,0,none⟩) (by show w.heap.size<_;omega)).trans x0,(b.cell (p:=⟨w.heap.size,1,none⟩) (by show w.heap.size<_;omega)).trans x1,(b.cell (p:=⟨w.heap.size,2,none⟩) (by show w.heap.size<_;omega)).trans x2,(b.cell (p:=⟨w.heap.size,3,none⟩) (by show w.heap.size<_;omega)).trans x3,(b.cell (p:=⟨w.heap.size,4,none⟩) (by show w.heap.size<_;omega)).trans x4,(b.cell (p:=⟨w.heap.size,5,none⟩) (by show w.heap.size<_;omega)).trans x5,(b.cell (p:=⟨w.heap.size+1,0,none⟩) (by show w.heap.size+1<_;omega)).trans k0,(b.cell (p:=⟨w.heap.size+1+1,0,none⟩) (by show w.heap.size+1+1<_;omega)).trans k1,b⟩);have s:w.heap.size+1+1+1<=W1.heap.size:=by omega
 clear x0 x1 x2 x3 x4 x5 k0 k1;refine wp_region_held_drew (S:=(fun w'=>w'.cell? ⟨w.heap.size,0,none⟩=some (u)/\w'.cell? ⟨w.heap.size,1,none⟩=some (v1)/\w'.cell? ⟨w.heap.size,2,none⟩=some (A0 W.time)/\w'.cell? ⟨w.heap.size,3,none⟩=some (A0 W.next)/\w'.cell? ⟨w.heap.size,4,none⟩=some (y)/\w'.cell? ⟨w.heap.size,5,none⟩=some (z)/\w'.cell? ⟨w.heap.size+1,0,none⟩=some (.string set)/\w'.cell? ⟨w.heap.size+1+1,0,none⟩=some (.string name)/\Below (w.heap.size+1+1+1) W1 w')) (by kernel_rfl) (a.out _ ((Below.refl _ _).drew.mono s)) (fun hHeld=>?_);have lC:Below W1.heap.size W1 W1.drew:=(Below.refl _ _).drew;refine tk 0 (h:=?_);refine tk 1 (h:=?_);refine tk 3 (h:=?_);refine tk 5 (h:=?_);refine tk 7 (h:=?_);refine tk 8 (h:=?_);refine tk 12 (h:=?_);refine tk 14 (h:=?_);refine QX [2,4,6,9,10,11] (fun i=>if i=11 then [6,9,10] else []) (fun i=>i+7) (fun i v w'=>(i=2->E3 w' v 2 (fun i=>match i with | 0=>set | _=>name))/\(i=4->E3 w' v 1 (fun i=>match i with  | _=>name))/\(i=6->QAt w' p 53 2 [.string set] v)/\(i=9->QAt w' p 55 3 [.string set,.string name] v)/\(i=10->QAt w' p 57 4 [] v)/\(i=11->Gw w' p 3 (fun i=>match i with | 0=>53 | 1=>55 | _=>57) (fun i=>match i with | 0=>2 | 1=>3 | _=>4) (fun i=>match i with | 0=>[.string set] | 1=>[.string set,.string name] | _=>[]) v)) 3 (G:=fun w'=>Below W1.heap.size W1 w') (by kernel_rfl) (by decide) (by decide) (by decide) ?_ (fun _ _ h t=>A9 h t) (by assumption) lC ?_ ?_
 ·intro i v w' bF hf t;exact⟨fun e=>(hf.1 e).A1 t,fun e=>(hf.2.1 e).A1 t,fun e=>(hf.2.2.1 e).A1 t,fun e=>(hf.2.2.2.1 e).A1 t,fun e=>(hf.2.2.2.2.1 e).A1 t,fun e=>(hf.2.2.2.2.2 e).A1 t⟩
 ·intro i hi x O hS F hD K hK;simp only[List.mem_cons,List.not_mem_nil,or_false]at hi;rcases hi with rfl | rfl | rfl | rfl | rfl | rfl
  ·refine wpOp_step (EC rfl) (fun K' f=>?_);simp only[BI,Act.put,Nat.reduceAdd,s1,s2,s3];have A:=AB O (.cells #[.string set,.string name] 9);go_simp;refine f _ _ (hK.out _ _ _ ?_ (a.out _ ((A9 F A).mono s)) ⟨fun _=>Vp L.out m.out rfl rfl,fun e=>absurd e (by decide),fun e=>absurd e (by decide),fun e=>absurd e (by decide),fun e=>absurd e (by decide),fun e=>absurd e (by decide)⟩ A);simp only[BI,Act.put,Nat.reduceAdd,s1,s2,s3]
  ·refine wpOp_step (EC rfl) (fun K' f=>?_);simp only[BI,Act.put,Nat.reduceAdd,s1,s2,s3];have A:=AB O (.cells #[.string name] 9);go_simp;refine f _ _ (hK.out _ _ _ ?_ (a.out _ ((A9 F A).mono s)) ⟨fun e=>absurd e (by decide),fun _=>zDR m.out rfl,fun e=>absurd e (by decide),fun e=>absurd e (by decide),fun e=>absurd e (by decide),fun e=>absurd e (by decide)⟩ A);simp only[BI,Act.put,Nat.reduceAdd,s1,s2,s3]
  ·refine wpOp_step (EC rfl) (fun K' f=>?_);simp only[BI,Act.put,Nat.reduceAdd,s1,s2,s3];go_simp;go_at_call 19;refine(Yz p set O (HE.out.A1 (A9 hb F))).mono ?_;rintro e w3 ⟨P,rfl,d,l⟩;refine f _ _ (hK.out _ _ w3 ?_ (a.out _ ((A9 F l).mono s)) ⟨fun e=>absurd e (by decide),fun e=>absurd e (by decide),fun _=>⟨_,rfl,D2.one d⟩,fun e=>absurd e (by decide),fun e=>absurd e (by decide),fun e=>absurd e (by decide)⟩ l);simp only[BI,Act.put,Nat.reduceAdd,s1,s2,s3]
  ·refine wpOp_step (EC rfl) (fun K' f=>?_);simp only[BI,Act.put,Nat.reduceAdd,s1,s2,s3];go_simp;go_at_call 20;refine(zDF p set name O (HE.out.A1 (A9 hb F))).mono ?_;rintro e w3 ⟨P,B1,rfl,d,I,l⟩;refine f _ _ (hK.out _ _ w3 ?_ (a.out _ ((A9 F l).mono s)) ⟨fun e=>absurd e (by decide),fun e=>absurd e (by decide),fun e=>absurd e (by decide),fun _=>⟨_,rfl,D2.two d I⟩,fun e=>absurd e (by decide),fun e=>absurd e (by decide)⟩ l);simp only[BI,Act.put,Nat.reduceAdd,s1,s2,s3]
  ·refine wpOp_step (EC rfl) (fun K' f=>?_);simp only[BI,Act.put,Nat.reduceAdd,s1,s2,s3];go_simp;go_at_call 21;refine(zDA p  O (HE.out.A1 (A9 hb F))).mono ?_;rintro e w3 ⟨rfl,l⟩;refine f _ _ (hK.out _ _ w3 ?_ (a.out _ ((A9 F l).mono s)) ⟨fun e=>absurd e (by decide),fun e=>absurd e (by decide),fun e=>absurd e (by decide),fun e=>absurd e (by decide),fun _=>⟨_,rfl,D2.zero⟩,fun e=>absurd e (by decide)⟩ l);simp only[BI,Act.put,Nat.reduceAdd,s1,s2,s3]
  ·refine wpOp_step (EC rfl) (fun K' f=>?_);simp only[BI,Act.put,Nat.reduceAdd,s1,s2,s3];obtain⟨gB,e0,eA⟩:=(hD 6 (by decide)).2.2.1 rfl;obtain⟨iB,e1,fA⟩:=(hD 9 (by decide)).2.2.2.1 rfl;obtain⟨jB,e2,gA⟩:=(hD 10 (by decide)).2.2.2.2.1 rfl;simp only[e0,e1,e2];have A:=AB O (.cells #[.func (.func 53) #[] gB,Af (p 2),.func (.func 55) #[] iB,Af (p 3),.func (.func 57) #[] jB,Af (p 4)] 61);have hA:Gw (O.alloc (.cells #[.func (.func 53) #[] gB,Af (p 2),.func (.func 55) #[] iB,Af (p 3),.func (.func 57) #[] jB,Af (p 4)] 61)) p 3 (fun i=>match i with | 0=>53 | 1=>55 | _=>57) (fun i=>match i with | 0=>2 | 1=>3 | _=>4) (fun i=>match i with | 0=>[.string set] | 1=>[.string set,.string name] | _=>[]) (.slice (some ⟨O.heap.size,0,none⟩) 3 3):=zHc (g:=(fun i=>match i with | 0=>53 | 1=>55 | _=>57)) (ei:=(fun i=>match i with | 0=>2 | 1=>3 | _=>4)) (caps:=(fun i=>match i with | 0=>[.string set] | 1=>[.string set,.string name] | _=>[])) eA fA gA;go_simp;refine f _ _ (hK.out _ _ _ ?_ (a.out _ ((A9 F A).mono s)) ⟨fun e=>absurd e (by decide),fun e=>absurd e (by decide),fun e=>absurd e (by decide),fun e=>absurd e (by decide),fun e=>absurd e (by decide),fun _=>hA⟩ A);simp only[BI,Act.put,Nat.reduceAdd,s1,s2,s3,e0,e1,e2]
 ·intro x O hS F hF;have Q:=(hF 2 (by decide)).1 rfl;obtain⟨-,ta,tc,et,-,-⟩:=id Q;have hN:=(hF 4 (by decide)).2.1 rfl;obtain⟨-,na,nc,en,-,-⟩:=id hN;obtain⟨lb,hA,Z⟩:=(hF 11 (by decide)).2.2.2.2.2 rfl;obtain⟨-,qa,qc,eq,-⟩:=id hA;simp only[BI,DF,if_true,Act.put,Nat.reduceAdd,s1,s2,s3,et,en,eq];rw[et]at Q;rw[en]at hN;rw[eq]at hA;have b:=A9 hb F;have dC:=AQ Q;have cC:=AQ hN;have aC:=AQ hA;have J:=AQ Z;clear Q hN hA Z hF;refine tk 13 (h:=?_);refine rd [15] (rc (fun K hK=>?_) .nil);go_simp;go_at_call 24;refine(qH p _ _ _ 22 #[.pointer (some ⟨w.heap.size+1,0,none⟩),.pointer (some ⟨w.heap.size+1+1,0,none⟩)] 2 1 3 (fun i=>match i with | 0=>set | _=>name) (fun i=>match i with  | _=>name) (fun i=>match i with | 0=>53 | 1=>55 | _=>57) lb (fun i=>match i with | 0=>2 | 1=>3 | _=>4) (fun i=>match i with | 0=>BL W set | 1=>¬∃i,i<W.pn/\(W.A3 i).set=set/\(W.A3 i).name=name | _=>Iw W) o _ _ _ _ lo hi W O (HE.out.A1 b) (Hp.out.A1 b) fC.out b1 b2 b3 b4 dC.out cC.out aC.out ?_ ?_ (enters_of Tryz.func22 (by kernel_rfl) rfl) ?_ ?_).mono ?_
  ·intro i hi;rcases(by omega:i=0\/i=1\/i=2)with rfl | rfl | rfl
   all_goals decide
  ·intro i hi;rcases(by omega:i=0\/i=1\/i=2)with rfl | rfl | rfl
   ·exact enters_of Tryz.func53 (by kernel_rfl) rfl
   ·exact enters_of Tryz.func55 (by kernel_rfl) rfl
   ·exact enters_of Tryz.func57 (by kernel_rfl) rfl
  ·intro i hi' w' D hI iE;have hW:=(Hp.out.A1 b).A1 D;have h8:=hI.Aq.A2.1;have iC:=hI.Aq.A3.1;rcases(by omega:i=0\/i=1\/i=2)with rfl | rfl | rfl
   ·obtain⟨P,M,d⟩:=(J.out 0 (by decide)).is1;replace d:=(D.cell (AV d)).trans d;rw[M];exact Z3 u v1 y z lo hi W P set w' hW h8 bA d
   ·obtain⟨P,B1,M,d,I⟩:=(J.out 1 (by decide)).is2;replace d:=(D.cell (AV d)).trans d;replace I:=(D.cell (AV I)).trans I;rw[M];exact zDJ u v1 y z lo hi W P B1 set name w' hW iC d I
   ·have M:=(J.out 2 (by decide)).is0;rw[M];exact zDE u v1 y z lo hi W w' hW
  ·intro C w' z0 z1 z2 z3 hC D jC hI hl oC hq E aB;exact bC.out (w.heap.size+1) (w.heap.size+1+1) C w' z0 z1 z2 z3 ((D.cell (AV hS.2.2.2.2.2.2.1)).trans hS.2.2.2.2.2.2.1) (by have:=F.size;omega) ((D.cell (AV hS.2.2.2.2.2.2.2.1)).trans hS.2.2.2.2.2.2.2.1) (by have:=F.size;omega) hI hl oC hq jC (A9 b D) E aB
  rintro e w3 ⟨r,aA,z0,z1,z2,z3,rfl,E,l⟩;obtain⟨n0,T,n1,U,n2,V,n3,X,rfl,rfl,rfl,rfl⟩:=E.form;have H:=A9 F l;have pA:=AQ (HR.out.A1 H);have Y:=AQ E;have rA:=AQ aA;clear E aA;generalize eB:Ez r o=oo at Y ⊢;have eC:=AQ eB;clear eB
  (try go_wp2_with fail)
  refine hK.out _ _ (a.out _ (H.mono s)) ?_;clear hK K hHeld;intro hHeld
  try simp only[Act.put,s1,s2,s3]
  refine rd [16] (rc (fun K hK=>?_) .nil);obtain⟨⟨r0,g0⟩,⟨r1,g1⟩,⟨r2,g2⟩,⟨r3,g3⟩,⟨r4,g4⟩,⟨r5,g5⟩,⟨r6,g6⟩,⟨r7,g7⟩,⟨r8,g8⟩⟩:=pA.out;go_simp
  (try go_wp2_with fail)
  have Q:=AC.put9 w3 (w.heap.size+1+1+1) (.slice n0 oo.world.pool.n T) (.slice n1 oo.world.pool.hn U) (A0 oo.world.time) (A0 oo.world.next) (.slice n2 oo.world.sn V) (.slice n3 oo.world.pn X) (A0 oo.id) (A0 oo.many) (A0 oo.code);have nC:Below (w.heap.size+1+1+1) W1 (((((((((w3.setCell ⟨w.heap.size+1+1+1,0,none⟩ (.slice n0 oo.world.pool.n T)).setCell ⟨w.heap.size+1+1+1,1,none⟩ (.slice n1 oo.world.pool.hn U)).setCell ⟨w.heap.size+1+1+1,2,none⟩ (A0 oo.world.time)).setCell ⟨w.heap.size+1+1+1,3,none⟩ (A0 oo.world.next)).setCell ⟨w.heap.size+1+1+1,4,none⟩ (.slice n2 oo.world.sn V)).setCell ⟨w.heap.size+1+1+1,5,none⟩ (.slice n3 oo.world.pn X)).setCell ⟨w.heap.size+1+1+1,6,none⟩ (A0 oo.id)).setCell ⟨w.heap.size+1+1+1,7,none⟩ (A0 oo.many)).setCell ⟨w.heap.size+1+1+1,8,none⟩ (A0 oo.code)):=(H.mono s).trans (Q.A1 (B:=w.heap.size+1+1+1) (by have:=H.size;omega) (fun k e=>by omega));refine hK.out _ _ (a.out _ nC) ?_;clear hK K hHeld r0 r1 r2 r3 r4 r5 r6 r7 r8 g0 g1 g2 g3 g4 g5 g6 g7 g8;intro hHeld
  try simp only[Act.put,s1,s2,s3]
  refine wpAnyH_done (by kernel_rfl) ?_ _;go_wp2_with fail;have q:=pA.out.put (.slice n0 oo.world.pool.n T) (.slice n1 oo.world.pool.hn U) (A0 oo.world.time) (A0 oo.world.next) (.slice n2 oo.world.sn V) (.slice n3 oo.world.pn X) (A0 oo.id) (A0 oo.many) (A0 oo.code);have bB:=A9 hb H;have rC:=Q.size;have mE:=H.size;refine bodyPost_ret (v:=.agg #[.slice n0 oo.world.pool.n T,.slice n1 oo.world.pool.hn U,A0 oo.world.time,A0 oo.world.next,.slice n2 oo.world.sn V,.slice n3 oo.world.pn X,A0 oo.id,A0 oo.many,A0 oo.code]) (by simp[results,Tryz.results5,go_sem,q.1.1,q.2.1.1,q.2.2.1.1,q.2.2.2.1.1,q.2.2.2.2.1.1,q.2.2.2.2.2.1.1,q.2.2.2.2.2.2.1.1,q.2.2.2.2.2.2.2.1.1,q.2.2.2.2.2.2.2.2.1]) rfl ⟨r,rA.out,?_⟩;rw[eC.out];refine⟨_,_,_,_,rfl,?_,?_⟩
  ·exact(Y.out.AD Q (fun k e=>by have:=F.size;omega)).wide (by have:=F.size;omega) rC
  ·exact bB.trans (Q.A1 (B:=w.heap.size) bB.size (fun k e=>by omega))
theorem zAV(s:Ab)(a:Option Addr)(c B:Nat)(name:ByteArray)(w:World)(d:w.cell? ⟨B,0,none⟩=some (.string name)) :
 Calls Tryz.prog 82 #[.agg #[.string s.name,A0 s.origin,A0 s.A8,A0 s.rs,A0 s.rb,.slice a s.dn c],.pointer (some ⟨B,0,none⟩)] w fun e w'=>AJ (s.name=name) e/\Below w.heap.size w w':=by
 have f:=AB w (.cells #[.string s.name,A0 s.origin,A0 s.A8,A0 s.rs,A0 s.rb,.slice a s.dn c] 46);have h:=(f.cell (AV d)).trans d;clear d;obtain⟨i,j,k,l,m,n⟩:=(At.new w (.string s.name) (A0 s.origin) (A0 s.A8) (A0 s.rs) (A0 s.rb) (.slice a s.dn c) 46).c;by_cases b:s.name=name
 ·skip;have g:=LP b;have H:=A4 b;clear b;go_enter Tryz.func82,Tryz.ntmps82;go_wp2;go_ret;exact⟨AJ.yes H.out,f⟩
 ·skip;have g:=Mx b;have H:=A4 b;clear b;go_enter Tryz.func82,Tryz.ntmps82;go_wp2;go_ret;exact⟨AJ.no H.out,f⟩
variable{k:Nat}
theorem zEk{n:Nat}{f:Nat->Ab}{name:ByteArray}{e:Ending}(hn:(f k).name=name)(c:∀j,j<k->(f j).name≠name)(d:k<n)
 (g:(∃i:Nat,i<n/\(f i).name=name/\(∀j,j<i->¬(f j).name=name)/\e = .returned (A0 (i:Int)))\/((∀j,j<n->¬(f j).name=name)/\e = .returned (A0 (-1)))):e = .returned (A0 (k:Int)):=by
 rcases g with⟨i,hi,a,b,rfl⟩ | ⟨a,_⟩
 ·obtain rfl:i=k:=by
   rcases Nat.lt_trichotomy i k with h | h | h
   ·exact absurd a (c i h)
   ·exact h
   ·exact absurd hn (b k h)
  rfl
 ·exact absurd hn (a k d)
theorem Qx(C lo hi n k q:Nat)(t:Option Addr)(f:Nat->Ab)(name:ByteArray)(w:World)(x:w.cell? ⟨C,4,none⟩=some (.slice t n q))(u:EJ w lo hi (.slice t n q) n f)(hn:n<=8)(y:k<n)(g:(f k).name=name)(d:∀j,j<k->(f j).name≠name) :
 Calls Tryz.prog 36 #[.pointer (some ⟨C,0,none⟩),.string name] w fun e w'=>(∃b off,t=some ⟨b,off,none⟩/\e = .returned (.pointer (some ⟨b,off+k*6,none⟩)))/\Below w.heap.size w w':=by
 have B:=A4 u;have A:=A4 g;have z:=A4 d;obtain⟨b,off,vd,rfl,-⟩:=u.cells y;clear u g d;have r:=AB w (.cells #[.string name] 9);have c0:(w.alloc (.cells #[.string name] 9)).cell? ⟨w.heap.size,0,none⟩=some (.string name):=World.cell?_alloc_at _ _ _ _ rfl;have m:=(r.cell (AV x)).trans x;have s:=A4 c0;have F:(k:Int)<(n:Int):=by omega
 clear c0 x;go_enter Tryz.func36,Tryz.ntmps36;go_wp2_with fail;generalize w.alloc (.cells #[.string name] 9)=W1 at r m s ⊢;have D:=A4 (show ∀w',Below W1.heap.size W1 w'->Calls Tryz.prog 81 #[.slice (some ⟨b,off,none⟩) n q,.func (.func 82) #[] #[.pointer (some ⟨w.heap.size,0,none⟩)]] w' fun e o=>e = .returned (A0 (k:Int))/\Below w'.heap.size w' o from fun w' p=>by
  refine(zCI 82 #[.pointer (some ⟨w.heap.size,0,none⟩)] (enters_of Tryz.func82 (by kernel_rfl) rfl) (fun i=>(f i).name=name) _ n lo hi f w' ((B.out.A1 r).A1 p) (by omega) (fun i hi' a c o v I=>zAV (f i) a c _ name o (((A9 p v).cell (AV s.out)).trans s.out))).mono ?_;rintro e H ⟨G,l⟩;exact⟨zEk A.out z.out y G,l⟩)
 go_region_held3 (fun w'=>w'.cell? ⟨C,4,none⟩=some (.slice (some ⟨b,off,none⟩) n q)) (go_keep)
  (first | (go_at_call 81;refine(D.out _ (Below.refl _ _).drew).mono ?_;rintro e H ⟨rfl,l⟩;have h:=Cp l;have E:=(h.cell (AV m)).trans m))
 go_wp2;go_ret;exact⟨⟨b,off,rfl,rfl⟩,A9 r h⟩
structure zHs (p:Prop):Prop where
 out:p
theorem zF0{A B:Prop}(f:zHs A->B)(h:A):B:=f ⟨h⟩
theorem zBx(p:Nat->Addr)(C k:Nat)(z0 z1 z2 z3:Value)(W:A6)(set name:ByteArray)(w:World)(h8:W.sn<=8)(mC:0<=W.time)(lC:0<=W.next)(J:Iw W)(hk:k<W.sn)(A:(W.A2 k).name=set)(x:∀j,j<k->(W.A2 j).name≠set)(iA:set.size<=maxLen)(jA:name.size<=maxLen)(kC:C<w.heap.size)
 (ho:D5 w (C+1) w.heap.size z0 z1 z2 z3 W) (hC:Bb w C z0 z1 (A0 W.time) (A0 W.next) z2 z3 (A0 0) (A0 0) .nilIface) :
 Calls Tryz.prog 23 #[.pointer (some ⟨C,0,none⟩),.string set,.string name] w (IU p ⟨Co W k name set,W.next,0,0⟩ C w):=by
 have Ho:=A4 ho;have HC:=A4 hC;have Hn:=A4 A;have Hf:=A4 x;obtain⟨l0,lA,l1,mA,l2,L,l3,fB,rfl,rfl,rfl,rfl⟩:=ho.form;obtain⟨i,d,vd,rfl,-⟩:=ho.own.at.A2.cells hk;obtain⟨r1,r2,r3⟩:=J;have sA:=A4 iA;have tA:=A4 jA;clear ho hC A x iA jA;have nC:IntKind.i64.wrap (W.time+1)=W.time+1:=wrap_small (by omega) (by omega);have oC:IntKind.i64.wrap (W.next+1)=W.next+1:=wrap_small (by omega) (by omega);obtain⟨-,-,-,c3,c4,-,-,-,-⟩:=HC.out.c;have IX:=A4 (show ∀w',Below w.heap.size w w'->Calls Tryz.prog 36 #[.pointer (some ⟨C,0,none⟩),.string set] w' fun e gB=>e = .returned (.pointer (some ⟨i,d+k*6,none⟩))/\Below w'.heap.size w' gB from fun w' dA=>by
  refine(Qx C (C+1) w.heap.size W.sn k L _ W.A2 set w' ((dA.cell (AV c4)).trans c4) (Ho.out.own.at.A2.A1 dA) h8 hk Hn.out Hf.out).mono ?_;rintro e s ⟨⟨b,off,e1,rfl⟩,E⟩;simp only[Option.some.injEq,Addr.mk.injEq,and_true]at e1;obtain⟨rfl,rfl⟩:=e1;exact⟨rfl,E⟩)
 clear c4;go_enter Tryz.func23,Tryz.ntmps23;go_wp2_with fail;go_region_held3 (fun w'=>w'.cell? ⟨C,3,none⟩=some (A0 W.next)) (go_keep)
  (first | (go_at_call 36;refine(IX.out _ (Below.refl _ _).drew).mono ?_;rintro e s ⟨rfl,E⟩;have u:=Cp E;have eA:=(u.cell (AV c3)).trans c3))
 go_wp2_with fail;have aB:=A4 (Ho.out.A1 u);have G:=A4 (HC.out.A1 u);have pC:=u.size;clear c3 eA E IX Ho HC;obtain⟨⟨x2,-⟩,⟨x5,-⟩⟩:=(⟨G.out.2.2.1,G.out.2.2.2.2.2.1⟩:AO s C 2 _/\AO s C 5 _);obtain⟨P,Q,R,fA,F⟩:=aB.out;have H:Below s.heap.size s s.drew:=(Below.refl _ _).drew;obtain⟨dv,nb,l,jC,kA,g,cap,D,gA,t,oB,aA⟩:=zBG s.drew (C+1) s.heap.size (fA.A1 H) (fun j hj=>by have:=F j hj;omega) (Nat.le_refl _) (by show C+1<=s.heap.size;omega) hk r1 name set tA.out sA.out 28;obtain⟨Y,Z,rfl⟩:∃a c,dv = .slice a (W.A2 k).dn c:=by obtain⟨_,a,c,h,_⟩:=l.dead;exact⟨a,c,h⟩
 have pB:i<s.heap.size:=kA;have r:C≠i:=by omega
 have f:i≠C:=by omega
 have y:=A4 (show ∀w',Below s.drew.heap.size s.drew w'->(fun w':World=>w'.cell? ⟨C,2,none⟩=some (A0 W.time)/\w'.cell? ⟨i,d+k*6+2,none⟩=some (A0 (W.A2 k).A8)/\w'.cell? ⟨i,d+k*6+3,none⟩=some (A0 (W.A2 k).rs)/\w'.cell? ⟨i,d+k*6+4,none⟩=some (A0 (W.A2 k).rb)/\w'.cell? ⟨i,d+k*6+5,none⟩=some (.slice Y (W.A2 k).dn Z)) w' from fun w' hb=>⟨(hb.cell (p:=⟨C,2,none⟩) (AV x2)).trans x2,(l.c2.A1 hb).1,(l.c3.A1 hb).1,(l.c4.A1 hb).1,(l.c5.A1 hb).1⟩);have m:=(G.out.A1 H).AD t (fun h=>by omega);have q:∀{o v},AO s.drew i o v->AO D i o v:=fun h=>h.AD t (fun h=>h.2.2 rfl)
 have O:=A4 (show(fun w':World=>w'.cell? ⟨C,2,none⟩=some (A0 W.time)/\w'.cell? ⟨i,d+k*6+2,none⟩=some (A0 (W.A2 k).A8)/\w'.cell? ⟨i,d+k*6+3,none⟩=some (A0 (W.A2 k).rs)/\w'.cell? ⟨i,d+k*6+4,none⟩=some (A0 (W.A2 k).rb)/\w'.cell? ⟨i,d+k*6+5,none⟩=some (.slice Y (W.A2 k).dn Z)) D from⟨m.2.2.1.1,(q l.c2).1,(q l.c3).1,(q l.c4).1,(q l.c5).1⟩);have T:=A4 (show(fun w':World=>w'.cell? ⟨C,2,none⟩=some (A0 W.time)/\w'.cell? ⟨i,d+k*6+2,none⟩=some (A0 (W.A2 k).A8)/\w'.cell? ⟨i,d+k*6+3,none⟩=some (A0 (W.A2 k).rs)/\w'.cell? ⟨i,d+k*6+4,none⟩=some (A0 (W.A2 k).rb)/\w'.cell? ⟨i,d+k*6+5,none⟩=some (.slice Y (W.A2 k).dn Z)) (D.setCell ⟨C,5,none⟩ (.slice (some ⟨g,0,none⟩) (W.pn+1) cap))from⟨(m.2.2.1.other _ (Or.inr (by decide))).1,((q l.c2).other _ (Or.inl r)).1,((q l.c3).other _ (Or.inl r)).1,((q l.c4).other _ (Or.inl r)).1,((q l.c5).other _ (Or.inl r)).1⟩);have N:=A4 m;have U:=A4 (q l.c2);have V:=A4 (q l.c5);have pA:=A4 (aA.own (show C+1<=s.heap.size+1 by omega) (show s.heap.size<=D.heap.size from t.size));have X:=A4 (show AC (fun j=>C+1<=j/\j<s.heap.size/\j≠i) s D from⟨t.os,t.tape,t.output,t.size,t.block⟩);have HR:=A4 gA;have z:=A4 (AB s.drew (.cells #[A0 W.next,.string name,.string set,A0 (W.A2 k).A8,A0 W.time,A0 (W.A2 k).rs,A0 (W.A2 k).rb,.slice Y (W.A2 k).dn Z] 41));have M:s.drew.cell? ⟨C,5,none⟩=some (.slice l3 W.pn fB):=x5;have X5:=A4 ((z.out.cell (AV M)).trans M);obtain⟨y5,g5⟩:=m.2.2.2.2.2.1;clear gA aA t l fA F kA m q x2 x5;refine wp_region_held_drew (S:=(fun w':World=>w'.cell? ⟨C,2,none⟩=some (A0 W.time)/\w'.cell? ⟨i,d+k*6+2,none⟩=some (A0 (W.A2 k).A8)/\w'.cell? ⟨i,d+k*6+3,none⟩=some (A0 (W.A2 k).rs)/\w'.cell? ⟨i,d+k*6+4,none⟩=some (A0 (W.A2 k).rb)/\w'.cell? ⟨i,d+k*6+5,none⟩=some (.slice Y (W.A2 k).dn Z))) (by kernel_rfl) (y.out _ (Below.refl _ _)) (fun hHeld=>?_);generalize s.drew=q0 at hHeld y HR z M X5 H ⊢
 refine' zF0 (fun hfin=>_) _
 rotate_left
 ·skip;refine tk 0 (h:=tk 1 (h:=tk 2 (h:=tk 3 (h:=tk 4 (h:=tk 6 (h:=tk 7 (h:=tk 8 (h:=tk 9 (h:=tk 10 (h:=tk 11 (h:=tk 12 (h:=tk 13 (h:=tk 14 (h:=tk 15 (h:=tk 16 (h:=tk 17 (h:=tk 18 (h:=tk 19 (h:=tk 20 (h:=tk 21 (h:=tk 22 (h:=tk 23 (h:=tk 24 (h:=tk 25 (h:=tk 26 (h:=?_))))))))))))))))))))))))));refine rd [5,27] (rc (fun K hK=>?_) (rc (fun K hK=>?_) .nil))
  ·go_simp
   (try go_wp2_with fail)
   refine hK.out _ _ (y.out _ (Below.refl _ _)) ?_;clear hK K;intro hHeld
   try simp only[Act.put,s1,s2,s3]
   refine rd [27] (rc (fun K hK=>?_) .nil);go_simp
   (try go_wp2_with fail)
   refine hK.out _ _ (y.out _ z.out) ?_;clear hK K;intro hHeld
   try simp only[Act.put,s1,s2,s3]
   refine rd [28] (rc (fun K hK=>?_) .nil);refine Rg rfl (.tmp 21) (.tmp 43) 28 rfl _ _ _ rfl rfl HR.out ?_
   (try go_wp2_with fail)
   refine hK.out _ _ (O.out) ?_;clear hK K;intro hHeld
   try simp only[Act.put,s1,s2,s3]
   refine tk 29 (h:=tk 30 (h:=tk 31 (h:=?_)));refine rd [32] (rc (fun K hK=>?_) .nil);go_simp
   (try go_wp2_with fail)
   refine hK.out _ _ (T.out) ?_;clear hK K;intro hHeld
   try simp only[Act.put,s1,s2,s3]
   refine wpAnyH_done (by kernel_rfl) ?_ _;exact hfin.out
  ·go_simp
   (try go_wp2_with fail)
   refine hK.out _ _ (y.out _ z.out) ?_;clear hK K;intro hHeld
   try simp only[Act.put,s1,s2,s3]
   refine rd [5] (rc (fun K hK=>?_) .nil);have jB:=X5.out;go_simp
   (try go_wp2_with fail)
   refine hK.out _ _ (y.out _ z.out) ?_;clear hK K;intro hHeld
   try simp only[Act.put,s1,s2,s3]
   clear jB;refine rd [28] (rc (fun K hK=>?_) .nil);refine Rg rfl (.tmp 21) (.tmp 43) 28 rfl _ _ _ rfl rfl HR.out ?_
   (try go_wp2_with fail)
   refine hK.out _ _ (O.out) ?_;clear hK K;intro hHeld
   try simp only[Act.put,s1,s2,s3]
   refine tk 29 (h:=tk 30 (h:=tk 31 (h:=?_)));refine rd [32] (rc (fun K hK=>?_) .nil);go_simp
   (try go_wp2_with fail)
   refine hK.out _ _ (T.out) ?_;clear hK K;intro hHeld
   try simp only[Act.put,s1,s2,s3]
   refine wpAnyH_done (by kernel_rfl) ?_ _;exact hfin.out
 obtain⟨-,-,⟨y2,g2⟩,⟨y3,g3⟩,-,-,⟨y6,g6⟩,-,-⟩:=N.out;obtain⟨t2,tC⟩:=U.out;obtain⟨t5,vC⟩:=V.out;go_wp2_with fail;have m:=N.out;have I:Bb ((((((D.setCell ⟨C,5,none⟩ (.slice (some ⟨g,0,none⟩) (W.pn+1) cap)).setCell ⟨i,d+k*6+2,none⟩ (A0 W.next)).setCell ⟨i,d+k*6+5,none⟩ (A5)).setCell ⟨C,6,none⟩ (A0 W.next)).setCell ⟨C,2,none⟩ (A0 (W.time+1))).setCell ⟨C,3,none⟩ (A0 (W.next+1))) C (.slice l0 W.pool.n lA) (.slice l1 W.pool.hn mA) (A0 (W.time+1)) (A0 (W.next+1)) (.slice (some ⟨i,d,none⟩) W.sn L) (.slice (some ⟨g,0,none⟩) (W.pn+1) cap) (A0 W.next) (A0 0) .nilIface:=⟨((((((m.1.other _ (Or.inr (by decide))).other _ (Or.inl f)).other _ (Or.inl f)).other _ (Or.inr (by decide))).other _ (Or.inr (by decide))).other _ (Or.inr (by decide))),((((((m.2.1.other _ (Or.inr (by decide))).other _ (Or.inl f)).other _ (Or.inl f)).other _ (Or.inr (by decide))).other _ (Or.inr (by decide))).other _ (Or.inr (by decide))),((((((m.2.2.1.other _ (Or.inr (by decide))).other _ (Or.inl f)).other _ (Or.inl f)).other _ (Or.inr (by decide))).set _).other _ (Or.inr (by decide))),((((((m.2.2.2.1.other _ (Or.inr (by decide))).other _ (Or.inl f)).other _ (Or.inl f)).other _ (Or.inr (by decide))).other _ (Or.inr (by decide))).set _),((((((m.2.2.2.2.1.other _ (Or.inr (by decide))).other _ (Or.inl f)).other _ (Or.inl f)).other _ (Or.inr (by decide))).other _ (Or.inr (by decide))).other _ (Or.inr (by decide))),((((((m.2.2.2.2.2.1.set _).other _ (Or.inl f)).other _ (Or.inl f)).other _ (Or.inr (by decide))).other _ (Or.inr (by decide))).other _ (Or.inr (by decide))),((((((m.2.2.2.2.2.2.1.other _ (Or.inr (by decide))).other _ (Or.inl f)).other _ (Or.inl f)).set _).other _ (Or.inr (by decide))).other _ (Or.inr (by decide))),((((((m.2.2.2.2.2.2.2.1.other _ (Or.inr (by decide))).other _ (Or.inl f)).other _ (Or.inl f)).other _ (Or.inr (by decide))).other _ (Or.inr (by decide))).other _ (Or.inr (by decide))),((((((m.2.2.2.2.2.2.2.2.other _ (Or.inr (by decide))).other _ (Or.inl f)).other _ (Or.inl f)).other _ (Or.inr (by decide))).other _ (Or.inr (by decide))).other _ (Or.inr (by decide)))⟩;have bB:EL ((((((D.setCell ⟨C,5,none⟩ (.slice (some ⟨g,0,none⟩) (W.pn+1) cap)).setCell ⟨i,d+k*6+2,none⟩ (A0 W.next)).setCell ⟨i,d+k*6+5,none⟩ (A5)).setCell ⟨C,6,none⟩ (A0 W.next)).setCell ⟨C,2,none⟩ (A0 (W.time+1))).setCell ⟨C,3,none⟩ (A0 (W.next+1))) (C+1) D.heap.size (.slice l0 W.pool.n lA) (.slice l1 W.pool.hn mA) (.slice (some ⟨i,d,none⟩) W.sn L) (.slice (some ⟨g,0,none⟩) (W.pn+1) cap) (Co W k name set):=by
  rw[Yy D 5 (d+k*6+2) _ _ r,Yy _ 5 (d+k*6+5) _ _ r];exact pA.out.AD ((((AC.put _ C 5 _).trans (AC.put _ C 6 _)).trans (AC.put _ C 2 _)).trans (AC.put _ C 3 _)) (fun j e=>by omega)
 have bA:AC (fun j=>C<=j) D ((((((D.setCell ⟨C,5,none⟩ (.slice (some ⟨g,0,none⟩) (W.pn+1) cap)).setCell ⟨i,d+k*6+2,none⟩ (A0 W.next)).setCell ⟨i,d+k*6+5,none⟩ (A5)).setCell ⟨C,6,none⟩ (A0 W.next)).setCell ⟨C,2,none⟩ (A0 (W.time+1))).setCell ⟨C,3,none⟩ (A0 (W.next+1))):=(((((AC.put _ C 5 _).mono (fun j e=>by omega)).trans ((AC.put _ i _ _).mono (fun j e=>by omega))).trans ((AC.put _ i _ _).mono (fun j e=>by omega))).trans ((AC.put _ C 6 _).mono (fun j e=>by omega))).trans (((AC.put _ C 2 _).mono (fun j e=>by omega)).trans ((AC.put _ C 3 _).mono (fun j e=>by omega)));have rC:=X.out.size;have eB:=bA.size;go_end0;refine⟨⟨_,rfl⟩,?_,by omega,Or.inl ⟨rfl,_,_,_,_,I,bB.wide (Nat.le_refl _) eB⟩⟩;exact(u.mono (by omega)).trans ((X.out.A1 (B:=C) (by omega) (fun j h=>by omega)).trans (bA.A1 (B:=C) (by omega) (fun j h=>h)))
theorem zCW(p:Nat->Addr)(C k r s:Nat)(m n o q:Value)(W:A6)(set name:ByteArray)(w:World)(D:W.sn<=8)(l:0<=W.time)(f:0<=W.next)(c:Iw W)(E:k<W.sn)(b:(W.A2 k).name=set)(a:∀j,j<k->(W.A2 j).name≠set)(g:set.size<=maxLen)(i:name.size<=maxLen)(d:C<w.heap.size)
 (F:w.cell? ⟨r,0,none⟩=some (.string set)) (G:w.cell? ⟨s,0,none⟩=some (.string name)) (u:D5 w (C+1) w.heap.size m n o q W) (t:Bb w C m n (A0 W.time) (A0 W.next) o q (A0 0) (A0 0) .nilIface) :
 Calls Tryz.prog 22 #[.pointer (some ⟨C,0,none⟩),.pointer (some ⟨r,0,none⟩),.pointer (some ⟨s,0,none⟩)] w (IU p ⟨Co W k name set,W.next,0,0⟩ C w):=by
 have H:=A4 (zBx p C k m n o q W set name w D l f c E b a g i d u t);clear u t b a c;go_enter Tryz.func22,Tryz.ntmps22;go_wp2_with fail;refine H.out.mono ?_;rintro e w' ⟨⟨v,rfl⟩,x⟩;have y:=A4 x;clear x;go_wp2_with fail;go_end0;refine⟨⟨_,rfl⟩,?_⟩;obtain⟨z,A,B⟩:=y.out;refine⟨z,A,?_⟩;rcases B with⟨-,h⟩ | h
 ·exact Or.inl ⟨rfl,h⟩
 ·exact Or.inr h
theorem zD8(p:Nat->Addr)(l v1 m n:Value)(lo hi:Nat)(W:A6)(set:ByteArray)(name:ByteArray)(w:World)(B:D8 w p)(h:C7 w lo hi l v1 m n W)(d:G4 W)(v:Ap W.pool<=1048576)(x:W.sn<=1048576)(y:W.pn<=1048576)(z:JX W)(b:set.size<=maxLen)(a:name.size<=maxLen) :
 Calls Tryz.prog 5 #[Cc l v1 m n W,.string set,.string name] w fun e w'=>∃r o,FN W (∃i,i<2/\8000<((fun i=>match i with | 0=>set | _=>name) i).size) (∃i,i<1/\¬BX ((fun i=>match i with  | _=>name) i)) 3 (fun i=>match i with | 0=>BL W set | 1=>¬∃i,i<W.pn/\(W.A3 i).set=set/\(W.A3 i).name=name | _=>Iw W) (fun i=>match i with | 0=>2 | 1=>3 | _=>4) r/\(r=none->∃k,Gs W set k/\o=⟨Co W k name set,W.next,0,0⟩)/\Iv (Ez r o) w e w':=by
 by_cases hs:BL W set
 ·obtain⟨k,j⟩:=Qh hs;refine(ZG p l v1 m n lo hi W set name ⟨Co W k name set,W.next,0,0⟩ w B h d v x y z b a ?_).mono ?_
  ·intro t u C w' G H I J E _ F _ g _ _ s c K D A;have L:=g.Aq.time;have hn:=g.Aq.next;exact zCW p C k t u G H I J W set name w' g.Aq.A2.1 (by have:=L.1;omega) (by have:=hn.1;omega) (s 2 (by omega)) j.1 j.2.1 j.2.2 b a c E F D A
  ·rintro e w' ⟨r,f,q⟩;exact⟨r,_,f,fun _=>⟨k,j,rfl⟩,q⟩
 ·refine(ZG p l v1 m n lo hi W set name (BP 0) w B h d v x y z b a ?_).mono ?_
  ·intro t u C w' G H I J E _ F _ g _ _ s c K D A;exact absurd (s 0 (by omega)) hs
  ·rintro e w' ⟨r,f,q⟩;exact⟨r,_,f,fun e=>absurd ((e▸f).all 0 (by omega)) hs,q⟩
def lwD(p:A7)(xs xb:Int)(k:Nat):ByteArray:=if Nil (BZ p xs xb k) (Bg p xs xb k)then⟨#[]⟩else(p.s (BZ p xs xb k).toNat).data
theorem QN{p:A7}{xs xb:Int}(h:Nil xs xb):lwD p xs xb k=⟨#[]⟩:=by
 have hn:Nil (BV p xs xb k) (Bj p xs xb k):=⟨if_pos h,if_pos h⟩;exact if_pos ⟨if_pos hn,if_pos hn⟩
theorem QM{p:A7}{xs xb:Int}(hn:Nil (BV p xs xb k) (Bj p xs xb k)):lwD p xs xb k=⟨#[]⟩:=if_pos ⟨if_pos hn,if_pos hn⟩
end Go.Proofs.YtddigaohmfpepaaGreatDoor
