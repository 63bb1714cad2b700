/- A part of the proof. -/
import Derived.Test.YtibhefllijahkaaGreatDoorF6
import Derived.Orders
set_option linter.unusedVariables false
set_option maxRecDepth 20000
set_option maxHeartbeats 4000000
namespace Go.Proofs.YtibhefllijahkaaGreatDoor
open Go.RowKit
set_option linter.unusedSimpArgs false
structure Tc where
 rd:List Nat
 d:Option Nat
 k:Tk
def tc0:Tc:=⟨[],none,⟨[],[],[],[]⟩⟩
def tmpsOf:List Operand->List Nat
 | []=>[]
 | .tmp t :: r=>t :: tmpsOf r
 | _ :: r=>tmpsOf r
def LV:Option (Option Nat×Bool)->List Nat
 | some (some t,_)=>[t]
 | _=>[]
def tcAt(T:Tb)(Γ : List (Nat×AE))(ops:Array Oper)(S:St)(o:Oper):Tc:=
 match opds S o.op.operands.toList with
 | some l=>⟨tmpsOf o.op.operands.toList ++ LV (gtmp ops o),o.dst,tks T Γ S.ob o.op o.dst (l.map (·.2))⟩
 | none=>tc0
def Fx(a b:List Nat):Bool:=a.all fun x=>!b.contains x
def ind(x y:Tc):Bool:=
 (match x.d with | some d=>!y.rd.contains d && y.d != some d | none=>true) &&
 (match y.d with | some d=>!x.rd.contains d | none=>true) &&
 (Fx x.k.wr y.k.tc && Fx x.k.wr y.k.sh && Fx x.k.sw y.k.tc) && (Fx y.k.wr x.k.tc && Fx y.k.wr x.k.sh && Fx y.k.sw x.k.tc)
variable{j:Nat}
theorem Lx{a b:List Nat}(h:Fx a b=true)(c:j∈a)(d:j∈b):False:=by
 unfold Fx at h;rw[List.all_eq_true]at h;have:=h j c;simp[d]at this
def SV(x y:Tk):Prop:=Fx x.wr y.tc=true/\Fx x.wr y.sh=true/\Fx x.sw y.tc=true
theorem zFV{x y:Tc}(h:ind x y=true):(∀t,x.d=some t->t∉y.rd/\y.d≠some t)/\(∀t,y.d=some t->t∉x.rd)/\SV x.k y.k/\SV y.k x.k:=by
 unfold ind at h;simp only[Bool.and_eq_true]at h;obtain⟨⟨⟨l,m⟩,⟨a,b⟩,c⟩,⟨g,i⟩,j⟩:=h;refine⟨fun t e=>?_,fun t e=>?_,⟨a,b,c⟩,⟨g,i,j⟩⟩
 ·rw[e]at l;simpa using l
 ·rw[e]at m;simpa using m
variable{ob us:List (Nat×Ob)}
theorem Sft.agr{x y:Tk}(h:SV x y)(hs:Sft ob x.wr x.sw us):P9 y.tc y.sh ob (puts ob us):=by
 refine⟨fun j d=>?_,fun j d=>?_⟩
 ·have c:∀q∈us,q.1≠j:=fun q a e=>by
   subst e;rcases hs q a with b | b
   ·exact Lx h.1 b d
   ·exact Lx h.2.2 b.1 d
  clear hs
  induction us generalizing ob with
  | nil=>rfl
  | cons q r ih=>
   show get (puts (put ob q.1 q.2) r) j=_;rw[ih (fun q a=>c q (List.mem_cons_of_mem _ a)),B8,if_neg (c q (List.mem_cons_self ..))]
 ·have i:∀q∈us,q.1=j->shp (some q.2)=shp (get ob j):=fun q a e=>by
   subst e;rcases hs q a with b | b
   ·exact(Lx h.2.1 b d).elim
   ·exact b.2
  clear hs;have key:∀(us:List (Nat×Ob)) (ob':List (Nat×Ob)),shp (get ob' j)=shp (get ob j)->(∀q∈us,q.1=j->shp (some q.2)=shp (get ob j))->shp (get (puts ob' us) j)=shp (get ob j):=by
   intro us
   induction us with
   | nil=>intro ob' g _;exact g
   | cons q r ih=>
    intro ob' g a;refine ih (put ob' q.1 q.2) ?_ (fun p k=>a p (List.mem_cons_of_mem _ k));rw[B8];split
    ·rename_i e;exact a q (List.mem_cons_self ..) e
    ·exact g
  exact key us ob rfl i
variable{dst:Option Nat}
theorem zIw{T:Tb}{Γ : List (Nat×AE)}{op:Op}{l:List Av}(h:j∈(tks T Γ ob op dst l).wr\/j∈(tks T Γ ob op dst l).sw):j∈(tks T Γ ob op dst l).tc:=by
 have b:j∈KC (hdC l)->j∈l.flatMap Av.ids:=fun a=>by
  match l,a with
  | .m false [x] :: r,a=>
   simp only[hdC]at a;cases x<;>simp only[KC]at a<;>first | (cases a;done) | skip
   simp[Av.ids,Cv.ids]at a ⊢;exact .inl a
  | [],a=>cases a
  | .t _ :: _,a=>cases a
  | .m true _ :: _,a=>cases a
  | .m false [] :: _,a=>cases a
  | .m false (_ :: _ :: _) :: _,a=>cases a
 unfold tks at h ⊢;split at h<;>(try dsimp only at h ⊢)
 case h_5=>
  split at h
  ·rename_i d
   rw[if_pos d];rcases h with h | h
   ·exact List.mem_append_right _ h
   ·exact List.mem_append_left _ (b h)
  ·rcases h with h | h<;>cases h
 case h_8=>
  rcases h with h | h
  ·rcases List.mem_append.1 h with h | h
   ·exact List.mem_append_left _ (List.mem_append_left _ h)
   ·exact List.mem_append_right _ h
  ·split at h
   ·exact List.mem_append_left _ (List.mem_append_right _ h)
   ·cases h
 case h_9=>
  split at h
  ·rename_i c
   rw[if_pos c];rcases h with h | h
   ·exact List.mem_append_right _ h
   ·cases h
  ·rename_i c
   rw[if_neg c];rcases h with h | h
   ·exact h
   ·cases h
 all_goals
  rcases h with h | h
  ·first | exact h | (cases h;done)
  ·cases h
def Sim(S S':St):Prop:=(∀d,get S'.tm d=get S.tm d)/\∀i,get S'.ob i=get S.ob i
theorem Sim.refl(S:St):Sim S S:=⟨fun _=>rfl,fun _=>rfl⟩
variable{S S1 S2:St}
theorem Sim.trans(h:Sim S S1)(a:Sim S1 S2):Sim S S2:=⟨fun d=>(a.1 d).trans (h.1 d),fun i=>(a.2 i).trans (h.2 i)⟩
theorem Sim.symm(h:Sim S S1):Sim S1 S:=⟨fun d=>(h.1 d).symm,fun i=>(h.2 i).symm⟩
theorem Rel.sim{w0:World}{g0:Gh}{N:Nat}{S':St}{a:Act}{w:World}(h:Rel w0 g0 N S a w)(hs:Sim S S'):Rel w0 g0 N S' a w:=by
 obtain⟨E,h⟩:=h;have b:dom S'.ob=dom S.ob:=by funext i;unfold dom;rw[hs.2]
 exact⟨E,h.kp,fun d c e j=>by rw[b];exact h.tm d c e (by rw[<-hs.1];exact j),fun i o hi=>by rw[b];exact h.ob i o (by rw[<-hs.2];exact hi),h.df,h.sz,fun B g=>by rw[b];exact h.b0 B g⟩
def entry(tm:List (Nat×Bool×Av))(dst:Option Nat)(x:Bool×Av):List (Nat×Bool×Av):=
 match dst with
 | some d=>put tm d x
 | none=>tm
theorem NJ{x:Operand}(h:∀t,x = .tmp t->get S2.tm t=get S.tm t):opd S2 x=opd S x:=by
 cases x with
 | tmp t=>exact h t rfl
 | _=>rfl
theorem NZ{S S2:St}:∀{l:List Operand},(∀t∈tmpsOf l,get S2.tm t=get S.tm t)->opds S2 l=opds S l
 | [],_=>rfl
 | x :: r,h=>by
  simp only[opds];rw[NJ (S:=S) (S2:=S2) (x:=x) (fun t e=>h t (by subst e;simp[tmpsOf])),NZ (S:=S) (S2:=S2) (l:=r) (fun t a=>h t (by cases x<;>simp[tmpsOf,a]))]
theorem PY{gt:Option (Option Nat×Bool)}(h:∀t∈LV gt,get S2.tm t=get S.tm t):kap S2 gt=kap S gt:=by
 cases gt with
 | none=>rfl
 | some q=>
  obtain⟨t,a⟩:=q;cases t with
  | none=>rfl
  | some t=>simp only[kap];rw[h t (by simp[LV])]
section
variable {N : Nat} {T : Tb} {Γ : List (Nat × AE)} {ops : Array Oper}
variable{o:Oper}
theorem Qx{c:Prop}(h:stp N T Γ ops S o=some (c,S1)) :
 ∃x us,S1=⟨entry S.tm o.dst x,puts S.ob us⟩/\Sft S.ob (tcAt T Γ ops S o).k.wr (tcAt T Γ ops S o).k.sw us/\(tcAt T Γ ops S o).d=o.dst/\
  ∀S2,(∀t∈(tcAt T Γ ops S o).rd,get S2.tm t=get S.tm t)->P9 (tcAt T Γ ops S o).k.tc (tcAt T Γ ops S o).k.sh S.ob S2.ob->stp N T Γ ops S2 o=some (c,⟨entry S2.tm o.dst x,puts S2.ob us⟩)/\tcAt T Γ ops S2 o=tcAt T Γ ops S o:=by
 obtain⟨dst,op,ty,pos,a,guard⟩:=o;by_cases V:∃x y z,op = .pick x y z
 ·obtain⟨x,y,z,rfl⟩:=V;simp only[stp]at h;unfold stpP at h;split at h
  ·rename_i κ cc bc ca p cb q d hx hy hz hk
   split at h
   ·rename_i n
    cases h;have s:opds S [x,y,z]=some [(cc,.m false [.v (.bool bc)]),(ca,.m false [.v (.bool p)]),(cb,.m false [.v (.bool q)])]:=(by simp only[opds,hx,hy,hz]);refine⟨_,[],rfl,Sft.nil,?_,fun S2 A C=>?_⟩
    ·simp only[tcAt,Op.operands,s]
    ·simp only[tcAt,Op.operands,s]at A C ⊢;have w:opds S2 [x,y,z]=opds S [x,y,z]:=NZ (fun t b=>A t (List.mem_append_left _ b));have r:=PY (S:=S) (S2:=S2) (gt:=gtmp ops ⟨some d,.pick x y z,ty,pos,a,guard⟩) (fun t b=>A t (List.mem_append_right _ b));rw[w,s];refine⟨?_,by simp only[R0 C.1]⟩;simp only[opds]at w;have L:opd S2 x=opd S x:=NJ (fun t e=>A t (List.mem_append_left _ (by subst e;simp[tmpsOf])));have M:opd S2 y=opd S y:=NJ (fun t e=>A t (List.mem_append_left _ (by subst e;cases x<;>simp[tmpsOf])));have O:opd S2 z=opd S z:=NJ (fun t e=>A t (List.mem_append_left _ (by subst e;cases x<;>cases y<;>simp[tmpsOf])));simp only[stp,stpP,r,hk,L,hx,M,hy,O,hz,if_pos n];rfl
   ·cases h
  ·cases h
 ·have G:∀S,stp N T Γ ops S ⟨dst,op,ty,pos,a,guard⟩=stp0 N T Γ (gtmp ops ⟨dst,op,ty,pos,a,guard⟩) S op dst:=by
   intro S;unfold stp;split
   ·rename_i x y z w;exact absurd ⟨x,y,z,w⟩ V
   ·rfl
  rw[G]at h;unfold stp0 at h;split at h
  ·rename_i κ l hk hl
   split at h
   ·rename_i D I
    obtain⟨us,A,C,H⟩:=YI I;have F:∀S2:St,(∀t∈(tcAt T Γ ops S ⟨dst,op,ty,pos,a,guard⟩).rd,get S2.tm t=get S.tm t)->P9 (tcAt T Γ ops S ⟨dst,op,ty,pos,a,guard⟩).k.tc (tcAt T Γ ops S ⟨dst,op,ty,pos,a,guard⟩).k.sh S.ob S2.ob->
     kap S2 (gtmp ops ⟨dst,op,ty,pos,a,guard⟩)=some κ/\opds S2 op.operands.toList=some l/\B6 T Γ dst S2.ob op (l.map (·.2))=some ⟨D.c,D.av,puts S2.ob us,D.nw⟩/\tcAt T Γ ops S2 ⟨dst,op,ty,pos,a,guard⟩=tcAt T Γ ops S ⟨dst,op,ty,pos,a,guard⟩:=fun S2 i g=>by
     simp only[tcAt,hl]at i g;have w:opds S2 op.operands.toList=some l:=(by rw[NZ (S:=S) (S2:=S2) (fun t b=>i t (List.mem_append_left _ b)),hl]);have r:kap S2 (gtmp ops ⟨dst,op,ty,pos,a,guard⟩)=some κ:=(by rw[PY (S:=S) (S2:=S2) (fun t b=>i t (List.mem_append_right _ b)),hk]);exact⟨r,w,H S2.ob g,by simp only[tcAt,w,hl,R0 g.1]⟩
    have u:(tcAt T Γ ops S ⟨dst,op,ty,pos,a,guard⟩).k=tks T Γ S.ob op dst (l.map (·.2)):=(by simp only[tcAt,hl]);have E:(tcAt T Γ ops S ⟨dst,op,ty,pos,a,guard⟩).d=dst:=(by simp only[tcAt,hl]);rw[u];split at h
    ·rename_i d av B
     split at h
     ·rename_i n
      cases h;refine⟨(κ,av),bif κ || !D.nw then us else [],?_,?_,E,fun S2 i g=>?_⟩
      ·unfold obK;cases κ || !D.nw
       ·rfl
       ·simp only[cond_true];rw[A];rfl
      ·cases κ || !D.nw
       ·exact Sft.nil
       ·exact C
      ·obtain⟨P,Q,R,U⟩:=F S2 i (by rw[u];exact g);refine⟨?_,U⟩;rw[G];simp only[stp0,P,Q,R,B,if_pos n,obK];cases κ || !D.nw<;>rfl
     ·cases h
    ·rename_i B
     split at h
     ·cases h
     ·rename_i J
      cases h;refine⟨(true,.t []),us,by rw[A];rfl,C,E,fun S2 i g=>?_⟩;obtain⟨P,Q,R,U⟩:=F S2 i (by rw[u];exact g);refine⟨?_,U⟩;rw[G];simp only[stp0,P,Q,R,B,if_neg J];rfl
    ·cases h
   ·rename_i I
    have u:(tcAt T Γ ops S ⟨dst,op,ty,pos,a,guard⟩).k=tks T Γ S.ob op dst (l.map (·.2)):=(by simp only[tcAt,hl]);split at h
    ·rename_i d
     split at h
     ·rename_i n
      cases h;refine⟨(false,.m false [.v (.bool false)]),[],rfl,Sft.nil,by simp only[tcAt,hl],fun S2 i g=>?_⟩;rw[u]at g;simp only[tcAt,hl]at i;have w:opds S2 op.operands.toList=some l:=(by rw[NZ (S:=S) (S2:=S2) (fun t b=>i t (List.mem_append_left _ b)),hl]);have r:kap S2 (gtmp ops ⟨some d,op,ty,pos,a,guard⟩)=some false:=(by rw[PY (S:=S) (S2:=S2) (fun t b=>i t (List.mem_append_right _ b)),hk]);have b:=R0 g.1;have hn:B6 T Γ (some d) S2.ob op (l.map (·.2))=none:=by
       cases e:B6 T Γ (some d) S2.ob op (l.map (·.2))with
       | none=>rfl
       | some D=>
        obtain⟨us,-,-,H⟩:=YI e;have:=H S.ob (by rw[b];exact⟨fun j K=>(g.1 j K).symm,fun j K=>(g.2 j K).symm⟩);rw[I]at this;cases this
      refine⟨?_,by simp only[tcAt,w,hl,b]⟩;rw[G];simp only[stp0,r,w,hn,if_pos n];rfl
     ·cases h
    ·cases h
  ·cases h
theorem Mk{i:Nat}:∀{us:List (Nat×Ob)} {ob:List (Nat×Ob)},(∀q∈us,q.1≠i)->get (puts ob us) i=get ob i
 | [],ob,_=>rfl
 | q :: r,ob,h=>by
  have a:=Mk (us:=r) (ob:=put ob q.1 q.2) (i:=i) (fun x b=>h x (List.mem_cons_of_mem _ b));show get (puts (put ob q.1 q.2) r) i=_;rw[a,B8,if_neg (h q (List.mem_cons_self ..))]
theorem Rr{i:Nat}{ob':List (Nat×Ob)}(h:get ob' i=get ob i):∀us,get (puts ob' us) i=get (puts ob us) i:=fun us=>
 Agr.puts (L:=[i]) (ob:=ob) (ob':=ob') (fun j a=>by simp at a;subst a;exact h) us i (by simp)
theorem T6(h:j∈(tcAt T Γ ops S o).k.wr\/j∈(tcAt T Γ ops S o).k.sw):j∈(tcAt T Γ ops S o).k.tc:=by
 unfold tcAt at *;split at h
 ·exact zIw h
 ·rcases h with h | h<;>cases h
theorem Sft.tc(h:Sft S.ob (tcAt T Γ ops S o).k.wr (tcAt T Γ ops S o).k.sw us):∀q∈us,q.1∈(tcAt T Γ ops S o).k.tc:=fun q a=>T6 ((h q a).imp_right fun h=>h.1)
theorem IH{tm:List (Nat×Bool×Av)}{x:Bool×Av}{t:Nat}(h:dst≠some t):get (entry tm dst x) t=get tm t:=by
 cases dst with
 | none=>rfl
 | some d=>simp only[entry];rw[B8,if_neg (fun e=>h (by rw[e]))]
theorem zGq{x y:Oper}{c1 c2:Prop}(R:stp N T Γ ops S x=some (c1,S1))(U:stp N T Γ ops S1 y=some (c2,S2))(hi:ind (tcAt T Γ ops S x) (tcAt T Γ ops S1 y)=true) :
 ∃c m,stp N T Γ ops S y=some (c2,c)/\stp N T Γ ops c x=some (c1,m)/\Sim S2 m/\tcAt T Γ ops S y=tcAt T Γ ops S1 y/\tcAt T Γ ops c x=tcAt T Γ ops S x:=by
 obtain⟨n,a,M,I,F,l1⟩:=Qx R;obtain⟨s,l,O,J,G,l2⟩:=Qx U;subst M;obtain⟨H,V,w,W⟩:=zFV hi;have B:∀t∈(tcAt T Γ ops ⟨entry S.tm x.dst n,puts S.ob a⟩ y).rd,x.dst≠some t:=fun t d e=>(H t (F.trans e)).1 d
 have C:∀t∈(tcAt T Γ ops S x).rd,y.dst≠some t:=fun t d e=>V t (G.trans e) d
 have A:∀t,x.dst=some t->y.dst≠some t:=fun t e L=>(H t (F.trans e)).2 (G.trans L)
 obtain⟨E,K⟩:=I.agr w;obtain⟨P,Q⟩:=l2 S (fun t d=>(IH (B t d)).symm) ⟨fun j z=>(E j z).symm,fun j z=>(K j z).symm⟩;have D:Sft S.ob (tcAt T Γ ops ⟨entry S.tm x.dst n,puts S.ob a⟩ y).k.wr (tcAt T Γ ops ⟨entry S.tm x.dst n,puts S.ob a⟩ y).k.sw l:=fun q o=>by
  rcases J q o with h | h
  ·exact .inl h
  ·refine .inr ⟨h.1,h.2.trans ?_⟩;show shp (get (puts S.ob a) q.1)=_;rw[E q.1 (T6 (.inr h.1))]
 obtain⟨Y,Z⟩:=l1 ⟨entry S.tm y.dst s,puts S.ob l⟩ (fun t d=>IH (C t d)) (D.agr W);refine⟨_,_,P,Y,?_,Q,Z⟩;subst O;refine⟨fun t=>?_,fun i=>?_⟩
 ·show get (entry (entry S.tm y.dst s) x.dst n) t=get (entry (entry S.tm x.dst n) y.dst s) t;by_cases g:x.dst=some t
  ·have b:=A t g;rw[IH b,g];simp only[entry];rw[B8,B8,if_pos rfl,if_pos rfl]
  ·rw[IH g];by_cases b:y.dst=some t
   ·rw[b];simp only[entry];rw[B8,B8,if_pos rfl,if_pos rfl]
   ·rw[IH b,IH b,IH g]
 ·show get (puts (puts S.ob l) a) i=get (puts (puts S.ob a) l) i;by_cases g:∃q∈a,q.1=i
  ·obtain⟨q,o,rfl⟩:=g;have b:∀r∈l,r.1≠q.1:=fun r X e=>by
    have u:=J.tc r X;rw[e]at u;rcases I q o with v | v
    ·exact Lx w.1 v u
    ·exact Lx w.2.2 v.1 u
   rw[Mk b];exact Rr (Mk b) a
  ·have p:∀q∈a,q.1≠i:=fun q o e=>g ⟨q,o,e⟩
   rw[Mk p];exact(Rr (Mk p) l).symm
theorem zI2{c:Prop}(h:stp N T Γ ops S o=some (c,S1))(hs:Sim S S2):∃d,stp N T Γ ops S2 o=some (c,d)/\Sim S1 d/\tcAt T Γ ops S2 o=tcAt T Γ ops S o:=by
 obtain⟨a,l,rfl,n,m,k⟩:=Qx h;obtain⟨e,g⟩:=k S2 (fun t _=>hs.1 t) ⟨fun j _=>hs.2 j,fun j _=>by rw[hs.2]⟩;refine⟨_,e,⟨fun t=>?_,fun i=>Rr (hs.2 i) l⟩,g⟩;by_cases b:o.dst=some t
 ·show get (entry S2.tm o.dst a) t=get (entry S.tm o.dst a) t;rw[b];simp only[entry];rw[B8,B8,if_pos rfl,if_pos rfl]
 ·show get (entry S2.tm o.dst a) t=get (entry S.tm o.dst a) t;rw[IH b,IH b];exact hs.1 t
def F8(N:Nat)(T:Tb)(Γ : List (Nat×AE))(ops:Array Oper)(tcf:Nat->Tc)(K:St->Prop):List Nat->St->Prop
 | [],S=>∃S',K S'/\Sim S' S
 | i :: l,S=>∃o c S1,ops[i]?=some o/\stp N T Γ ops S o=some (c,S1)/\c/\tcAt T Γ ops S o=tcf i/\F8 N T Γ ops tcf K l S1
variable{K:St->Prop}
theorem F8.sim{a:Nat->Tc}:∀{l:List Nat} {S S2:St},F8 N T Γ ops a K l S->Sim S S2->F8 N T Γ ops a K l S2
 | [],S,S2,⟨S',hk,hs⟩,h=>⟨S',hk,hs.trans h⟩
 | i :: l,S,S2,⟨o,c,S1,h1,h2,h3,h4,h5⟩,h=>by
  obtain⟨b,d,e,g⟩:=zI2 h2 h;exact⟨o,c,b,h1,d,h3,g.trans h4,h5.sim e⟩
theorem F8.pull{a:Nat->Tc}{K:St->Prop}{i:Nat}{l2:List Nat}:∀{l1:List Nat} {S:St},(∀j∈l1,ind (a j) (a i)=true)->F8 N T Γ ops a K (l1 ++ i :: l2) S->F8 N T Γ ops a K (i :: (l1 ++ l2)) S
 | [],S,_,h=>h
 | j :: l1,S,hind,⟨o,c,S1,h1,h2,h3,h4,h5⟩=>by
  obtain⟨o',c',S2,g,l,m,e,n⟩:=F8.pull (fun k p=>hind k (List.mem_cons_of_mem _ p)) h5;obtain⟨b,d,q,r,s,t,u⟩:=zGq h2 l (by rw[h4,e];exact hind j (List.mem_cons_self ..));exact⟨o',c',b,g,q,m,t.trans e,o,c,d,h1,r,h3,u.trans h4,n.sim s⟩
end
def KV(acc:List Nat)(es:List Edge)(s:Nat):Nat:=
 match es with
 | []=>s
 | e :: r=>KV acc r (if Region.binds .any e then s ||| 2 ^ e.on ||| acc.getD e.on 0 else s)
def G8:List Oper->List Nat->List Nat
 | [],acc=>acc
 | o :: r,acc=>G8 r (acc ++ [KV acc o.after.toList 0])
theorem YD{acc:List Nat}{j:Nat}:∀{es:List Edge} {s:Nat},(KV acc es s).testBit j=true->s.testBit j=true\/∃e∈es,Region.binds .any e=true/\(e.on=j\/(acc.getD e.on 0).testBit j=true)
 | [],s,h=>.inl h
 | e :: r,s,h=>by
  simp only[KV]at h;rcases YD h with a | ⟨d,b,g⟩
  ·split at a
   ·rename_i c
    simp only[Nat.testBit_or,Bool.or_eq_true,Nat.testBit_two_pow,decide_eq_true_eq]at a;rcases a with(a | a) | a
    ·exact .inl a
    ·exact .inr ⟨e,List.mem_cons_self ..,c,.inl a⟩
    ·exact .inr ⟨e,List.mem_cons_self ..,c,.inr a⟩
   ·exact .inl a
  ·exact .inr ⟨d,List.mem_cons_of_mem _ b,g⟩
theorem RN:∀{os:List Oper} {acc:List Nat} {i:Nat},i<acc.length->(G8 os acc)[i]?=acc[i]?
 | [],acc,i,h=>rfl
 | o :: r,acc,i,h=>by
  simp only[G8];rw[RN (by simp;omega),List.getElem?_append_left h]
theorem Xh:∀{os:List Oper} {acc:List Nat} {i:Nat} {o:Oper},os[i]?=some o->∃a,(G8 os acc)[acc.length+i]?=some (KV a o.after.toList 0)/\∀k m,a[k]?=some m->k<acc.length+i/\(G8 os acc)[k]?=some m
 | [],acc,i,o,h=>by simp at h
 | x :: r,acc,i,o,h=>by
  cases i with
  | zero=>
   simp at h;subst h;refine⟨acc,?_,fun k m b=>?_⟩
   ·simp only[G8];rw[RN (by simp)];simp
   ·have c:=(List.getElem?_eq_some_iff.1 b).1;simp only[G8];refine⟨by omega,?_⟩;rw[RN (by simp;omega),List.getElem?_append_left c];exact b
  | succ i=>
   obtain⟨a,d,e⟩:=Xh (os:=r) (acc:=acc ++ [KV acc x.after.toList 0]) (i:=i) (o:=o) (by simpa using h);simp only[List.length_append,List.length_cons,List.length_nil]at d e;exact⟨a,by simp only[G8];rw[<-d];congr 1;omega,fun k m b=>by obtain⟨j,g⟩:=e k m b;exact⟨by omega,by simp only[G8];exact g⟩⟩
def bef(ms:List Nat)(i j:Nat):Bool:=(ms.getD i 0).testBit j
def N9(ms:List Nat)(ts:List Tc)(i:Nat)(x:Tc):Nat->List Tc->Bool
 | _,[]=>true
 | j,y :: r=>(decide (i<=j) || bef ms i j || ind y x) && N9 ms ts i x (j+1) r
def chk(ops:List Oper)(ts:List Tc):Bool:=
 (ops.zipIdx.all fun q=>q.1.after.toList.all fun e=>!Region.binds .any e || decide (e.on<q.2)) &&
 (ts.zipIdx.all fun q=>N9 (G8 ops []) ts q.2 q.1 0 ts)
theorem YG{ms:List Nat}{ts:List Tc}{i:Nat}{x:Tc}:∀{r:List Tc} {k:Nat},N9 ms ts i x k r=true->∀j y,r[j]?=some y->k+j<i->bef ms i (k+j)=true\/ind y x=true
 | [],k,h,j,y,hj,_=>by simp at hj
 | z :: r,k,h,j,y,hj,hlt=>by
  simp only[N9,Bool.and_eq_true,Bool.or_eq_true,decide_eq_true_eq]at h;cases j with
  | zero=>
   simp at hj;subst hj;rcases h.1 with(a | a) | a
   ·omega
   ·exact .inl a
   ·exact .inr a
  | succ j=>
   have:=YG h.2 j y (by simpa using hj) (by omega)
   rwa [show k+(j+1)=k+1+j by omega]
section
variable {P : Program} {N : Nat} {T : Tb} {Γ : List (Nat × AE)} {ops : Array Oper} {w0 : World} {g0 : Gh} {Q : Exit -> Act -> World -> Prop}
def Lst(listed:Array Bool)(i:Nat):Prop:=listed.getD i false=true
def Zd(ops:Array Oper)(listed:Array Bool):Prop:=∀i o,ops[i]?=some o->Lst listed i->∀e∈o.after,Region.binds .any e=true->Lst listed e.on
variable{a:Array Bool}
theorem zAZ(s:Zd ops a):∀(i:Nat) {j:Nat} {o:Oper},ops[i]?=some o->(∀e∈o.after,Region.binds .any e=true->Lst a e.on)->bef (G8 ops.toList []) i j=true->Lst a j:=by
 intro i
 induction i using Nat.strongRecOn with
 | _ i ih=>
  intro j o p t h;obtain⟨c,l,n⟩:=Xh (os:=ops.toList) (acc:=[]) (i:=i) (o:=o) (by simpa using p);simp only[List.length_nil,Nat.zero_add]at l n;unfold bef at h;rw[List.getD_eq_getElem?_getD,l]at h;simp only[Option.getD_some]at h;rcases YD h with b | ⟨e,u,k,b⟩
  ·simp at b
  ·have g:=t e (by simpa using u) k;rcases b with b | b
   ·rw[<-b];exact g
   ·cases hk:c[e.on]? with
    | none=>rw[List.getD_eq_getElem?_getD,hk]at b;simp at b
    | some m=>
     rw[List.getD_eq_getElem?_getD,hk]at b;obtain⟨q,r⟩:=n _ _ hk;have d:e.on<ops.size:=by
      have:=(Array.getElem?_eq_some_iff.1 p).1;omega
     refine ih e.on q (o:=ops[e.on]) (Array.getElem?_eq_getElem d) (s e.on _ (Array.getElem?_eq_getElem d) g) ?_;unfold bef;rw[List.getD_eq_getElem?_getD,r];exact b
def DB(ops:Array Oper)(listed:Array Bool):List Nat:=(List.range ops.size).filter fun i=>!listed.getD i true
variable{i:Nat}
theorem M8:i∈DB ops a↔i<ops.size/\a.getD i true=false:=by
 unfold DB;simp
theorem Lst.iff(hs:a.size=ops.size)(hi:i<ops.size):Lst a i↔a.getD i true=true:=by
 unfold Lst;have:i<a.size:=by omega
 simp[Array.getD_eq_getD_getElem?,this]
theorem zGV(hs:a.size=ops.size){l1 l2:List Nat}(h:DB ops a=l1 ++ i :: l2):DB ops (a.setIfInBounds i true)=l1 ++ l2/\∀j∈l1,j<i:=by
 have g:List.Pairwise (· < ·) (DB ops a):=List.Pairwise.filter _ List.pairwise_lt_range;rw[h,List.pairwise_append,List.pairwise_cons]at g;have l:∀j∈l1,j<i:=fun j c=>g.2.2 j c i (List.mem_cons_self ..)
 have m:∀j∈l2,i<j:=g.2.1.1;refine⟨?_,l⟩;have e:DB ops (a.setIfInBounds i true)=(DB ops a).filter (fun k=>decide (k≠i)):=by
  unfold DB;rw[List.filter_filter];apply List.filter_congr;intro k n;rw[List.mem_range]at n;have d:k<a.size:=(by omega);simp only[Array.getD_eq_getD_getElem?,Array.getElem?_setIfInBounds];by_cases b:i=k
  ·subst b;simp[d]
  ·simp[b,fun h=>b (Eq.symm h),d];intro;exact fun h=>b h.symm
 rw[e,h,List.filter_append,List.filter_cons];simp only[ne_eq,not_true_eq_false,decide_false,Bool.false_eq_true,if_false];rw[List.filter_eq_self.2 (fun j c=>by have:=l j c;simp;omega),List.filter_eq_self.2 (fun j c=>by have:=m j c;simp;omega)]
variable{K:St->Prop}
theorem zIJ(hT:DI P T)(hΓ : Gq P Γ w0 g0){ts:List Tc}(g:chk ops.toList ts=true)(aA:ts.length=ops.size) :
 ∀(d:Nat) (b:Array Bool) (S:St) (a:Act) (w:World),b.size=ops.size->(DB ops b).length<=d->Zd ops b->F8 N T Γ ops (fun i=>ts.getD i tc0) K (DB ops b) S->Rel w0 g0 N S a w->
  wpAny P .any ops (fun e a w=>match e with | .normal=>∃S,K S/\Rel w0 g0 N S a w | e=>Q e a w) d b a w:=by
 unfold chk at g;rw[Bool.and_eq_true,List.all_eq_true,List.all_eq_true]at g;have m:∀i o,ops[i]?=some o->∀e∈o.after,Region.binds .any e=true->e.on<i:=fun i o n e y x=>by
  have B:=g.1 (o,i) (by rw[List.mem_iff_getElem?];exact⟨i,by simp[List.getElem?_zipIdx,n]⟩);rw[List.all_eq_true]at B;have:=B e (by simpa using y);simp only[x,Bool.not_true,Bool.false_or,decide_eq_true_eq]at this;exact this
 have t:∀(b:Array Bool) (S:St) (a:Act) (w:World),DB ops b = []->F8 N T Γ ops (fun i=>ts.getD i tc0) K (DB ops b) S->Rel w0 g0 N S a w->∃S,K S/\Rel w0 g0 N S a w:=fun b S a w L u h=>by
  rw[L]at u;obtain⟨S',D,hs⟩:=u;exact⟨S',D,h.sim hs.symm⟩
 intro d
 induction d with
 | zero=>
  intro b S a w hs O M u h;have L:DB ops b = []:=List.length_eq_zero_iff.1 (by omega);refine⟨?_,t b S a w L u h⟩;rw[List.eq_nil_iff_forall_not_mem];intro i hi;obtain⟨B,o,n,_⟩:=mem_ready.1 hi;have:i∈DB ops b:=M8.2 ⟨(Array.getElem?_eq_some_iff.1 n).1,B⟩;rw[L]at this;cases this
 | succ d ih=>
  intro b S a w hs O M u h;refine⟨fun W=>?_,fun i hi=>?_⟩
  ·cases hres:DB ops b with
   | nil=>exact t b S a w hres u h
   | cons i l=>
    exfalso;have hi:i∈DB ops b:=(by rw[hres];exact List.mem_cons_self ..);obtain⟨q,A⟩:=M8.1 hi;have H:∀k,k<i->Lst b k:=fun k D=>by
     rw[Lst.iff hs (by omega)];cases hg:b.getD k true with
     | true=>rfl
     | false=>
      have E:k∈DB ops b:=M8.2 ⟨by omega,hg⟩;have V:List.Pairwise (· < ·) (DB ops b):=List.Pairwise.filter _ List.pairwise_lt_range;rw[hres]at E V;rw[List.pairwise_cons]at V;rcases List.mem_cons.1 E with e | e
      ·omega
      ·have:=V.1 k e;omega
    have:i∈Region.ready .any ops b:=mem_ready.2 ⟨A,ops[i],Array.getElem?_eq_getElem q,fun e y x=>H _ (m i _ (Array.getElem?_eq_getElem q) e y x)⟩;rw[W]at this;cases this
  ·obtain⟨A,o,n,s⟩:=mem_ready.1 hi;have q:=(Array.getElem?_eq_some_iff.1 n).1;have G:i∈DB ops b:=M8.2 ⟨q,A⟩;obtain⟨l1,l2,r⟩:=List.append_of_mem G;obtain⟨v,U⟩:=zGV hs r;rw[r]at u;obtain⟨o',c,S1,X,g2,g3,g4,g5⟩:=F8.pull (fun j Z=>by
    have jA:=U j Z;have I:ts[i]?=some ts[i]:=List.getElem?_eq_getElem (by omega);have J:ts[j]?=some ts[j]:=List.getElem?_eq_getElem (by omega);have B:=g.2 (ts[i],i) (by rw[List.mem_iff_getElem?];exact⟨i,by simp[List.getElem?_zipIdx,I]⟩);have C:=YG B j ts[j] J (by omega);rw[Nat.zero_add]at C;simp only[List.getD_eq_getElem?_getD,I,J,Option.getD_some];rcases C with C | C
    ·exfalso;have Y:=zAZ M i n s C;have R:j∈DB ops b:=(by rw[r];exact List.mem_append_left _ Z);rw[Lst.iff hs (by omega),(M8.1 R).2]at Y;cases Y
    ·exact C) u
   rw[n]at X;cases X;refine wpOp_mono (fun a' w' h'=>?_) (qX hT hΓ h n g2 g3);refine ih (b.setIfInBounds i true) S1 a' w' (by simpa using hs) ?_ ?_ (by rw[v];exact g5) h'
   ·rw[v];rw[r]at O;simp at O ⊢;omega
   ·intro k ok z D e y x;unfold Lst at *;simp only[Array.getD_eq_getD_getElem?,Array.getElem?_setIfInBounds]at D ⊢;by_cases F:i=k
    ·subst F;rw[n]at z;cases z;have:=s e y x;by_cases p:i=e.on
     ·have:=m i o n e y x;omega
     ·rw[if_neg p];simpa[Array.getD_eq_getD_getElem?]using this
    ·rw[if_neg F]at D;have:=M k ok z (by simpa[Lst,Array.getD_eq_getD_getElem?]using D) e y x;by_cases p:i=e.on
     ·rw[if_pos p,if_pos (show i<b.size by omega)];rfl
     ·rw[if_neg p];simpa[Lst,Array.getD_eq_getD_getElem?]using this
def runT(N:Nat)(T:Tb)(Γ : List (Nat×AE))(ops:Array Oper):List Oper->St->List Tc->(St->List Tc->Prop)->Prop
 | [],S,tr,K=>K S tr
 | o :: r,S,tr,K=>match stp N T Γ ops S o with
  | some (c,S')=>c/\runT N T Γ ops r S' (tr ++ [tcAt T Γ ops S o]) K
  | none=>False
theorem Sx{K:St->List Tc->Prop}:∀{os:List Oper} {S:St} {tr:List Tc} {n:Nat},ops.toList.drop n=os->n<=ops.size->tr.length=n->runT N T Γ ops os S tr K->
 ∃ts,ts.length=ops.size/\(∀i,i<n->ts[i]?=tr[i]?)/\F8 N T Γ ops (fun i=>ts.getD i tc0) (fun S=>K S ts) (List.range' n (ops.size - n)) S
 | [],S,tr,n,hos,hn,ht,h=>by
  have:ops.size - n=0:=by
   have:=congrArg List.length hos;simpa using this
  rw[this];exact⟨tr,by omega,fun _ _=>rfl,S,h,Sim.refl _⟩
 | o :: r,S,tr,n,hos,hn,ht,h=>by
  simp only[runT]at h;split at h
  ·rename_i c S' hst
   have b:ops.size - n=r.length+1:=by
    have:=congrArg List.length hos;simpa using this
   have j:ops.toList.drop (n+1)=r:=by
    rw[<-List.drop_drop,hos];rfl
   have g:ops[n]?=some o:=by
    have:(ops.toList.drop n)[0]?=some o:=(by rw[hos];rfl);rw[List.getElem?_drop]at this;simpa using this
   obtain⟨ts,d,a,e⟩:=Sx (os:=r) (S:=S') (tr:=tr ++ [tcAt T Γ ops S o]) (n:=n+1) j (by omega) (by simp[ht]) h.2;refine⟨ts,d,fun i hi=>?_,?_⟩
   ·rw[a i (by omega),List.getElem?_append_left (by omega)]
   ·rw[show ops.size - n=(ops.size - (n+1))+1 by omega,List.range'_succ];refine⟨o,c,S',g,hst,h.1,?_,e⟩;have:=a n (by omega);rw[List.getElem?_append_right (by omega),ht]at this;simp only[Nat.sub_self,List.getElem?_cons_zero]at this;show _=ts.getD n _;rw[List.getD_eq_getElem?_getD,this];rfl
  ·exact h.elim
variable{w:World}
theorem Rel.drew{a:Act}(h:Rel w0 g0 N S a w):Rel w0 g0 N S a w.drew:=by
 obtain⟨E,h⟩:=h;have d:AV (dom S.ob) w E w.drew E:=⟨Kp.drew _ _,fun _ _=>rfl,fun _ _=>rfl⟩;exact⟨E,h.quiet d (fun _ h=>h) (fun j b c=>ObR.ext d (fun _ h=>h) (by unfold dom;rw[c];rfl) (X:=fun _=>False) (fun _ _ _=>⟨rfl,rfl⟩) (fun _ _ x=>x.elim) (fun _ _ _ _ x=>x.elim) (h.ob j b c))⟩
theorem zFH(y:DI P T)(hΓ : Gq P Γ w0 g0)(z:P.follows .mixedOrders=true){id n:Nat}{a:Act}(h:Rel w0 g0 N S a w)(r:runT N T Γ ops ops.toList ⟨fgt n S.tm,S.ob⟩ [] (fun S ts=>chk ops.toList ts=true/\K S)) :
 (Code.region id ops true).wp P (fun e a w=>match e with | .normal=>∃S,K S/\Rel w0 g0 N S a w | e=>Q e a w) a w:=by
 obtain⟨ts,x,-,g⟩:=Sx (n:=0) (by simp) (Nat.zero_le _) rfl r;by_cases d:chk ops.toList ts=true
 ·refine wp_region_any z ?_;have b:DB ops (Array.replicate ops.size false)=List.range' 0 (ops.size - 0):=by
   unfold DB;rw[List.filter_eq_self.2 (fun i hi=>by rw[List.mem_range]at hi;simp[Array.getD_eq_getD_getElem?,hi]),Nat.sub_zero,List.range_eq_range']
  have p:F8 N T Γ ops (fun i=>ts.getD i tc0) K (List.range' 0 (ops.size - 0)) ⟨Go.Proofs.YtibhefllijahkaaGreatDoor.fgt n S.tm,S.ob⟩:=by
   generalize List.range' 0 (ops.size - 0)=l at g;generalize (⟨Go.Proofs.YtibhefllijahkaaGreatDoor.fgt n S.tm,S.ob⟩:St)=S0 at g;clear r b
   induction l generalizing S0 with
   | nil=>obtain⟨S',⟨_,q⟩,hs⟩:=g;exact⟨S',q,hs⟩
   | cons i l ih=>obtain⟨o,c,j,s,t,u,v,m⟩:=g;exact⟨o,c,j,s,t,u,v,ih j m⟩
  exact zIJ y hΓ d x ops.size _ _ a w.drew (by simp) (by rw[b];simp) (fun i o _ k=>by unfold Lst at k;rw[Array.getD_eq_getD_getElem?,Array.getElem?_replicate]at k;split at k<;>simp at k) (by rw[b];exact p) (h.drew.fgt n)
 ·exfalso;apply d;clear d;generalize List.range' 0 (ops.size - 0)=l at g;generalize (⟨Go.Proofs.YtibhefllijahkaaGreatDoor.fgt n S.tm,S.ob⟩:St)=S0 at g;clear r
  induction l generalizing S0 with
  | nil=>obtain⟨S',⟨q,_⟩,_⟩:=g;exact q
  | cons i l ih=>obtain⟨o,c,j,s,t,u,v,m⟩:=g;exact ih j m
end
def TrE:Tr->Tr->Prop
 | .v x,.v y=>x=y
 | .s fl k n f,.s fl' k' n' f'=>(fl=fl'\/(fl = .o/\fl' = .z))/\k=k'/\n=n'/\∀i j,i<n->j<k->TrE (f i j) (f' i j)
 | .v x,.s fl' k' n' f'=>x = .slice none 0 0/\n'=0
 | _,_=>False
theorem TrE.refl:∀(T:Tr),TrE T T
 | .v x=>rfl
 | .s fl k n f=>⟨.inl rfl,rfl,rfl,fun i j _ _=>TrE.refl (f i j)⟩
variable{T:Tr}
theorem TrE.of_eq{S:Tr}(h:S=T):TrE S T:=h▸TrE.refl S
theorem Bs.ok_oz{s:Bs}{fl a:Fl}{e:Nat}(h:fl=a\/(fl = .o/\a = .z))(b:s.ok fl e):s.ok a e:=by
 rcases h with rfl | ⟨rfl,rfl⟩
 ·exact b
 ·cases s with
  | fz r=>exact .inr (b.resolve_left (by simp))
  | ow o l=>exact b
variable{w:World}{g:Nat->Bs}
theorem Sh.e:∀{T T':Tr} {u:Value},TrE T T'->Sh w g T u->Sh w g T' u
 | .v x,.v y,u,h,hs=>by cases h;exact hs
 | .s fl k n f,.s fl' k' n' f',u,h,hs=>by
  obtain⟨l,rfl,rfl,A⟩:=h;obtain⟨a,c,e,hn,z⟩:=hs;refine⟨a,c,e,hn,fun p=>?_⟩;obtain⟨b,o,r,t,m,d⟩:=z p;exact⟨b,o,r,t,Bs.ok_oz l m,fun i j hi q=>let ⟨u,hu,hs⟩:=d i j hi q;⟨u,hu,hs.e (A i j hi q)⟩⟩
 | .v x,.s ..,u,h,hs=>by
  obtain⟨rfl,rfl⟩:=h;exact⟨none,0,hs.1,Nat.le_refl _,fun p=>by omega⟩
 | .s ..,.v x,u,h,hs=>h.elim
variable{u:Value}
theorem By.e{B:Nat}{T':Tr}(h:TrE T T')(hs:Sh w g T u)(a:By w g B j T u):By w g B j T' u:=by
 cases T with
 | v x=>cases T' with
  | v y=>trivial
  | s fl k n f=>
   obtain⟨rfl,rfl⟩:=h;cases fl with
   | o=>exact⟨none,0,hs.1,fun c=>by omega⟩
   | b=>trivial
   | z=>trivial
 | s fl k n f=>cases T' with
  | v y=>trivial
  | s fl' k' n' f'=>
   obtain⟨rfl | ⟨rfl,rfl⟩,rfl,rfl,_⟩:=h
   ·cases fl<;>exact a
   ·trivial
def sg:List (Nat×Nat)->Nat->Nat
 | [],j=>j
 | (a,b) :: r,j=>if a=j then b else sg r j
def CvE(ρ : List (Nat×Nat)):Cv->Cv->Prop
 | .s fl k n f,.s fl' k' n' f'=>TrE (.s fl k n f) (.s fl' k' n' f')
 | .q fl k n f a j,.q fl' k' n' f' a' j'=>TrE (.s fl k n f) (.s fl' k' n' f')/\a=a'/\j=j'
 | .v x,.v y=>x=y
 | .h i,.h j=>i=sg ρ j
 | .v x,.h j=>x = .slice none 0 0/\100000<=sg ρ j
 | .p i o,.p j q=>i=sg ρ j/\o=q
 | .e i k a j,.e i' k' a' j'=>i=sg ρ i'/\k=k'/\a=a'/\j=j'
 | _,_=>False
def Bs.rnm(τ : Nat->Nat):Bs->Bs
 | .ow (.nm i) l=>.ow (.nm (τ i)) l
 | s=>s
def En.rnm(E:En)(ρ : List (Nat×Nat))(τ : Nat->Nat):En:=⟨fun b=>(E.g b).rnm τ,fun i=>E.bl (sg ρ i),fun i=>E.hv (sg ρ i)⟩
variable{τ:Nat->Nat}
theorem Bs.ok_rnm{s:Bs}{fl:Fl}{e:Nat}(h:s.ok fl e):(s.rnm τ).ok fl e:=by
 cases s with
 | fz r=>exact h
 | ow o l=>cases o<;>exact h
theorem Sh.rnm:∀{T:Tr} {u:Value},Sh w g T u->Sh w (fun b=>(g b).rnm τ) T u
 | .v x,u,hs=>hs
 | .s fl k n f,u,hs=>by
  obtain⟨a,c,e,hn,q⟩:=hs;refine⟨a,c,e,hn,fun l=>?_⟩;obtain⟨b,o,m,p,h,d⟩:=q l;exact⟨b,o,m,p,Bs.ok_rnm h,fun i j hi r=>let ⟨u,hu,hs⟩:=d i j hi r;⟨u,hu,hs.rnm⟩⟩
theorem By.rnm{B:Nat}(i:By w g B j T u):By w (fun b=>(g b).rnm τ) B j T u:=by
 cases T with
 | v x=>trivial
 | s fl k n f=>cases fl with
  | o=>
   obtain⟨a,c,e,h⟩:=i;exact⟨a,c,e,fun d=>let ⟨b,h1,h2,h3⟩:=h d;⟨b,h1,by simp only[h2,Bs.rnm],h3⟩⟩
  | b=>trivial
  | z=>trivial
theorem Kp.rnm{w':World}{g':Nat->Bs}(h:Kp w g w' g'):Kp w g w' (fun b=>(g' b).rnm τ):=by
 refine⟨h.os,h.tape,h.output,h.size,fun b r d e=>?_,fun b o k d e=>?_⟩
 ·obtain⟨c,a⟩:=h.fz b r d e;exact⟨c,by simp only[a,Bs.rnm]⟩
 ·obtain⟨c,⟨o',m,a,l⟩ | a⟩:=h.ow b o k d e
  ·refine⟨c,.inl ?_⟩;cases o' with
   | nm i=>exact⟨.nm (τ i),m,by simp only[a,Bs.rnm],l⟩
   | tl b j=>exact⟨.tl b j,m,by simp only[a,Bs.rnm],l⟩
  ·exact⟨c,.inr (by simp only[a,Bs.rnm])⟩
def inD(ob:List (Nat×Ob))(l:List Nat):Bool:=l.all fun i=>(get ob i).isSome
section
variable {ρ : List (Nat × Nat)} {τ : Nat -> Nat}
variable{E:En}{D D':Nat->Prop}
theorem CvR.e(A:∀i,100000<=i->E.hv i = .slice none 0 0){x y:Cv}(h:CvE ρ x y)(d:∀i∈y.ids,D' i)(a:CvR w E D x u):CvR w (E.rnm ρ τ) D' y u:=by
 cases x<;>cases y<;>simp only[CvE]at h
 case v.v=>cases h;exact a
 case s.s=>exact Sh.rnm (Sh.e h a)
 case h.h=>cases h;exact⟨d _ (by simp[Cv.ids]),a.2⟩
 case v.h=>
  obtain⟨rfl,h⟩:=h;exact⟨d _ (by simp[Cv.ids]),a.1.trans (A _ h).symm,a.1▸a.2⟩
 case p.p=>obtain⟨rfl,rfl⟩:=h;exact⟨d _ (by simp[Cv.ids]),a.2⟩
 case e.e=>obtain⟨rfl,rfl,rfl,rfl⟩:=h;exact⟨d _ (by simp[Cv.ids]),a.2⟩
 case q.q=>
  obtain⟨h,rfl,rfl⟩:=h;obtain⟨B,b,o,e,hs⟩:=a;obtain⟨l,rfl,rfl,F⟩:=h;obtain⟨r,c',t,hn,C⟩:=hs;refine⟨B,b,o,e,Sh.rnm ⟨r,c',t,hn,fun z=>?_⟩⟩;obtain⟨b',o',g,k,m,c⟩:=C z;exact⟨b',o',g,k,Bs.ok_oz l m,fun i j hi n=>let ⟨u,hu,hs⟩:=c i j hi n;⟨u,hu,hs.e (F i j hi n)⟩⟩
def CsE(ρ : List (Nat×Nat)):List Cv->List Cv->Prop
 | [],[]=>True
 | x :: r,y :: s=>CvE ρ x y/\CsE ρ r s
 | _,_=>False
theorem CsR.e{w:World}{E:En}(a:∀i,100000<=i->E.hv i = .slice none 0 0){D D':Nat->Prop}:∀{l m:List Cv} {us:List Value},CsE ρ l m->(∀i∈m.flatMap Cv.ids,D' i)->CsR w E D l us->CsR w (E.rnm ρ τ) D' m us
 | [],[],us,_,_,h=>by cases h;exact AN.nil
 | x :: r,y :: s,us,h,hd,hx=>by
  cases hx with
  | cons h1 t=>exact AN.cons (h1.e a h.1 (fun i hi=>hd i (by simp[hi]))) (CsR.e a h.2 (fun i hi=>hd i (by simp at hi ⊢;exact .inr hi)) t)
 | [],_ :: _,us,h,_,_=>h.elim
 | _ :: _,[],us,h,_,_=>h.elim
def AvE(ρ : List (Nat×Nat)):Av->Av->Prop
 | .m g l,.m g' l'=>g=g'/\CsE ρ l l'
 | _,_=>False
def Av.tup:Av->Bool
 | .t _=>true
 | _=>false
theorem AvR.e(b:∀i,100000<=i->E.hv i = .slice none 0 0){x y:Av}(h:AvE ρ x y)(j:y.tup=false)(c:∀i∈y.ids,D' i)(d:AvR w E D x u):AvR w (E.rnm ρ τ) D' y u:=by
 cases y with
 | t l=>cases j
 | m g' l'=>
  cases x with
  | t l=>exact h.elim
  | m g l=>
   obtain⟨rfl,h⟩:=h;cases g with
   | true=>obtain⟨cs,e,a⟩:=d;exact⟨cs,e,a.e b h c⟩
   | false=>
    obtain⟨x,rfl,a⟩:=d
    match l',h with
    | [y],h=>exact⟨y,rfl,a.e b h.1 (fun i hi=>c i (by simp[Av.ids,hi]))⟩
    | y :: z :: r,h=>exact h.2.elim
def ObE(ρ : List (Nat×Nat)):Ob->Ob->Prop
 | .var l,.var l'=>CsE ρ l l'
 | .row k n f,.row k' n' f'=>TrE (.s .o k n f) (.s .o k' n' f')
 | .dead,.dead=>True
 | .tl k n f,.tl k' n' f'=>TrE (.s .o k n f) (.s .o k' n' f')
 | _,_=>False
def Ob.ids:Ob->List Nat
 | .var l=>l.flatMap Cv.ids
 | _=>[]
theorem ObR.e(x:∀i,100000<=i->E.hv i = .slice none 0 0){i:Nat}(hi:τ (sg ρ i)=i){o o':Ob}(h:ObE ρ o o')(y:∀j∈o'.ids,D' j)(v:ObR w E D (sg ρ i) o):ObR w (E.rnm ρ τ) D' i o':=by
 cases o<;>cases o'<;>simp only[ObE]at h
 case var.var=>
  obtain⟨l,c,t,m,k⟩:=v;exact⟨by simp only[En.rnm,l,Bs.rnm,hi],c,t,m,k.e x h y⟩
 case row.row=>
  obtain⟨-,rfl,rfl,n⟩:=h;obtain⟨a,cap,hv,hn,k⟩:=v;refine⟨a,cap,hv,hn,fun q=>?_⟩;obtain⟨r,l,c,t,m,s,b⟩:=k q;exact⟨r,by simp only[En.rnm,l,Bs.rnm,hi],c,t,m,s,fun p j g d=>let ⟨u,hu,hs,ht⟩:=b p j g d;⟨u,hu,Sh.rnm (hs.e (n p j g d)),By.rnm (ht.e (n p j g d) hs)⟩⟩
 case dead.dead=>trivial
 case tl.tl=>
  obtain⟨-,rfl,rfl,n⟩:=h;obtain⟨a,cap,hv,hn,k⟩:=v;refine⟨a,cap,hv,hn,fun q=>?_⟩;obtain⟨r,l,c,t,m,s,b⟩:=k q;exact⟨r,by simp only[En.rnm,l,Bs.rnm,hi],c,t,m,s,fun p j g d=>let ⟨u,hu,hs⟩:=b p j g d;⟨u,hu,Sh.rnm (hs.e (n p j g d))⟩⟩
end
def tmW(ρ : List (Nat×Nat))(tm:List (Nat×Bool×Av))(ob':List (Nat×Ob)):List (Nat×Bool×Av)->Prop
 | []=>True
 | q :: r=>(match get tm q.1 with
  | some x=>x.1=q.2.1/\AvE ρ x.2 q.2.2
  | none=>False)/\q.2.2.tup=false/\inD ob' q.2.2.ids=true/\tmW ρ tm ob' r
def nin(a:Nat):List Nat->Prop
 | []=>True
 | b :: r=>a≠b/\nin a r
def ST:Ob->Nat->Prop
 | .row _ n _,i=>n=0/\100000<=i
 | _,_=>False
def bdO:List (Nat×Ob)->Prop
 | []=>True
 | q :: r=>q.1<100000/\bdO r
theorem U7:∀{l:List (Nat×Ob)},bdO l->∀{i:Nat},100000<=i->get l i=none
 | [],_,_,_=>rfl
 | q :: r,⟨h,h'⟩,i,hi=>by
  obtain⟨a,x⟩:=q;simp only[get];rw[if_neg (fun e=>by simp only at h;omega),U7 h' hi]
def obW(ρ : List (Nat×Nat))(ob ob':List (Nat×Ob)):List (Nat×Ob)->List Nat->Prop
 | [],_=>True
 | q :: r,l=>(match get ob (sg ρ q.1)with
  | some x=>ObE ρ x q.2
  | none=>ST q.2 (sg ρ q.1))/\inD ob' q.2.ids=true/\nin (sg ρ q.1) l/\obW ρ ob ob' r (sg ρ q.1 :: l)
def dB0(ob:List (Nat×Ob)):Bool:=(get ob 0).isSome
def hpC:Cv->Cv->List (Nat×Nat)->List (Nat×Nat)
 | .h i,.h j,r=>(j,i) :: r
 | .v _,.h j,r=>(j,100000+j) :: r
 | _,_,r=>r
def hpL:List Cv->List Cv->List (Nat×Nat)->List (Nat×Nat)
 | x :: l,y :: m,r=>hpC x y (hpL l m r)
 | _,_,r=>r
def hpA:Option (Bool×Av)->Av->List (Nat×Nat)->List (Nat×Nat)
 | some (_,.m _ l),.m _ m,r=>hpL l m r
 | _,_,r=>r
def hpV:Option Ob->Ob->List (Nat×Nat)->List (Nat×Nat)
 | some (.var l),.var m,r=>hpL l m r
 | _,_,r=>r
def hpT(tm:List (Nat×Bool×Av)):List (Nat×Bool×Av)->List (Nat×Nat)->List (Nat×Nat)
 | [],r=>r
 | q :: l,r=>hpA (get tm q.1) q.2.2 (hpT tm l r)
def hpO(ob:List (Nat×Ob)):List (Nat×Ob)->List (Nat×Nat)
 | []=>[]
 | q :: l=>hpV (get ob q.1) q.2 (hpO ob l)
def StR(ρ : List (Nat×Nat))(S S':St):Prop:=tmW ρ S.tm S'.ob S'.tm/\obW ρ S.ob S'.ob S'.ob []/\bdO S.ob/\sg ρ 0=0/\(dB0 S.ob=true->dB0 S'.ob=true)
def StW(S S':St):Prop:=StR (hpT S.tm S'.tm (hpO S.ob S'.ob)) S S'
theorem T7{ρ : List (Nat×Nat)}{tm:List (Nat×Bool×Av)}{ob':List (Nat×Ob)}:∀{l:List (Nat×Bool×Av)},tmW ρ tm ob' l->∀q∈l,(∃x,get tm q.1=some x/\x.1=q.2.1/\AvE ρ x.2 q.2.2)/\q.2.2.tup=false/\inD ob' q.2.2.ids=true
 | [],_,q,hq=>by cases hq
 | p :: r,⟨h1,h2,h3,h4⟩,q,hq=>by
  cases hq with
  | head=>
   refine⟨?_,h2,h3⟩;cases hg:get tm p.1 with
   | none=>rw[hg]at h1;exact h1.elim
   | some x=>rw[hg]at h1;exact⟨x,rfl,h1⟩
  | tail _ hm=>exact T7 h4 q hm
theorem Si{ρ : List (Nat×Nat)}{ob ob':List (Nat×Ob)}:∀{l:List (Nat×Ob)} {m:List Nat},obW ρ ob ob' l m->∀q∈l,((∃x,get ob (sg ρ q.1)=some x/\ObE ρ x q.2)\/ST q.2 (sg ρ q.1))/\inD ob' q.2.ids=true
 | [],_,_,q,hq=>by cases hq
 | p :: r,m,⟨h1,h2,_,h3⟩,q,hq=>by
  cases hq with
  | head=>
   refine⟨?_,h2⟩;cases hg:get ob (sg ρ p.1)with
   | none=>rw[hg]at h1;exact .inr h1
   | some x=>rw[hg]at h1;exact .inl ⟨x,rfl,h1⟩
  | tail _ hm=>exact Si h3 q hm
theorem TC{a:Nat}:∀{l:List Nat},nin a l->a∉l
 | [],_=>by simp
 | b :: r,⟨h,h'⟩=>by simp[h,TC h']
theorem Pk{ρ : List (Nat×Nat)}{ob ob':List (Nat×Ob)}:∀{l:List (Nat×Ob)} {m:List Nat},obW ρ ob ob' l m->∀q∈l,sg ρ q.1∉m
 | [],_,_,q,hq=>by cases hq
 | p :: r,m,⟨_,_,h2,h3⟩,q,hq=>by
  cases hq with
  | head=>exact TC h2
  | tail _ hm=>exact fun h=>Pk h3 q hm (List.mem_cons_of_mem _ h)
theorem TJ{ρ : List (Nat×Nat)}{ob ob':List (Nat×Ob)}:∀{l:List (Nat×Ob)} {m:List Nat},obW ρ ob ob' l m->∀q∈l,∀b∈l,sg ρ q.1=sg ρ b.1->q=b
 | [],_,_,q,hq=>by cases hq
 | p :: r,m,⟨_,_,h2,h3⟩,q,hq=>fun b a e=>by
  cases hq with
  | head=>cases a with
   | head=>rfl
   | tail _ hm=>exact(Pk h3 b hm (e▸List.mem_cons_self ..)).elim
  | tail _ hm=>cases a with
   | head=>exact(Pk h3 q hm (e▸List.mem_cons_self ..)).elim
   | tail _ hm'=>exact TJ h3 q hm b hm' e
theorem Zt{l:List Nat}(h:inD ob l=true):∀i∈l,dom ob i:=fun i hi=>by
 unfold inD at h;rw[List.all_eq_true]at h;exact h i hi
section
variable {P : Program} {T : Tb} {Γ : List (Nat × AE)} {w0 : World} {g0 : Gh} {N n : Nat}
theorem Rel.weak{S':St}{a:Act}(h:Rel w0 g0 N S a w)(C:StW S S'):Rel w0 g0 N S' a w:=by
 obtain⟨E,h⟩:=h;unfold StW at C;generalize hpT S.tm S'.tm (hpO S.ob S'.ob) = ρ at C;obtain⟨D,m,F,G,H⟩:=C;have A:∀i,dom S.ob i->¬100000<=i:=fun i hi h=>by unfold dom at hi;rw[U7 F h]at hi;cases hi
 obtain⟨E,v⟩:∃I:En,I=⟨E.g,E.bl,fun i=>if 100000<=i then .slice none 0 0 else E.hv i⟩/\FS w0 g0 N S a w I:=by
  have p:AV (dom S.ob) w E w ⟨E.g,E.bl,fun i=>if 100000<=i then .slice none 0 0 else E.hv i⟩:=⟨Kp.refl _ _,fun _ _=>rfl,fun i hi=>if_neg (A i hi)⟩;exact⟨_,rfl,h.kp,fun d c s r=>⟨fun z=>((h.tm d c s r).1 z).ext p (fun _ h=>h),(h.tm d c s r).2⟩,fun i o hi=>ObR.ext p (fun _ h=>h) (by unfold dom;rw[hi];rfl) (X:=fun _=>False) (fun _ _ _=>⟨rfl,rfl⟩) (fun _ _ x=>x.elim) (fun _ _ _ _ x=>x.elim) (h.ob i o hi),h.df,h.sz,h.b0⟩
 obtain⟨v,h⟩:=v;have y:∀i,100000<=i->E.hv i = .slice none 0 0:=fun i hi=>by rw[v];exact if_pos hi
 obtain⟨τ,hτ⟩:∃τ : Nat->Nat,∀q∈S'.ob,τ (sg ρ q.1)=q.1:=by
  refine⟨fun i=>@dite _ (∃q∈S'.ob,sg ρ q.1=i) (Classical.propDecidable _) (fun h=>(Classical.choose h).1) (fun _=>0),fun q J=>?_⟩;have p:∃Q∈S'.ob,sg ρ Q.1=sg ρ q.1:=⟨q,J,rfl⟩;simp only[dif_pos p];have b:=Classical.choose_spec p;rw[TJ m _ b.1 q J b.2]
 refine⟨E.rnm ρ τ,h.kp.rnm (τ:=τ),fun d c s r=>?_,fun i o hi=>?_,h.df,h.sz,fun B P=>let ⟨b,j⟩:=h.b0 B P;⟨H b,by show E.bl (sg ρ 0)=B;rw[G];exact j⟩⟩
 ·obtain⟨⟨x,b,j,u⟩,M,O⟩:=T7 D _ (Ly r);obtain⟨c0,t⟩:=x;obtain⟨K,L⟩:=h.tm d c0 t b;simp only at j;subst j;exact⟨fun z=>(K z).e y u M (Zt O),L⟩
 ·obtain⟨⟨x,b,j⟩ | b,u⟩:=Si m _ (Ly hi)
  ·exact(h.ob _ x b).e y (hτ _ (Ly hi)) j (Zt u)
  ·cases o with
   | row k n f=>
    obtain⟨rfl,b⟩:=b;exact⟨none,0,y _ b,Nat.le_refl _,fun R=>by omega⟩
   | var l=>exact b.elim
   | dead=>exact b.elim
   | tl k n f=>exact b.elim
def ev(N:Nat)(T:Tb)(Γ : List (Nat×AE))(n:Nat):Code->St->(Exit->St->Prop)->Prop
 | .skip,S,K=>K .normal S
 | .region _ ops false,S,K=>runL N T Γ ops ops.toList ⟨fgt n S.tm,S.ob⟩ (K .normal)
 | .region _ ops true,S,K=>runT N T Γ ops ops.toList ⟨fgt n S.tm,S.ob⟩ [] (fun S ts=>chk ops.toList ts=true/\K .normal S)
 | .seq a b,S,K=>ev N T Γ n a S (fun e S=>match e with
  | .normal=>ev N T Γ n b S K
  | e=>K e S)
 | .cond c a b,S,K=>match opd S c with
  | some (cc,.m false [.v (.bool t)])=>cc=true/\(t=true->ev N T Γ n a S K)/\(t=false->ev N T Γ n b S K)
  | _=>False
 | .block id c,S,K=>ev N T Γ n c S (fun e S=>match e with
  | .exit i=>if i=id then K .normal S else K (.exit i) S
  | e=>K e S)
 | .loop c,S,K=>∃(I:Nat->St->Prop) (m:Nat) (S0:St),StW S S0/\I m S0/\∀m S,I m S->ev N T Γ n c S (fun e S'=>match e with
  | .normal=>∃m' S'',StW S' S''/\m'<m/\I m' S''
  | e=>K e S')
 | .exit id,S,K=>K (.exit id) S
 | .ret,S,K=>K .ret S
 | _,_,_=>False
def post(w0:World)(g0:Gh)(N:Nat)(K:Exit->St->Prop):Exit->Act->World->Prop
 | .normal,a,w=>∃S,K .normal S/\Rel w0 g0 N S a w
 | .exit i,a,w=>∃S,K (.exit i) S/\Rel w0 g0 N S a w
 | .ret,a,w=>∃S,K .ret S/\Rel w0 g0 N S a w
 | _,_,_=>False
theorem GQ(p:DI P T)(hΓ : Gq P Γ w0 g0)(r:P.follows .mixedOrders=true):∀{c:Code} {S:St} {K:Exit->St->Prop} {a:Act} {w:World},ev N T Γ n c S K->Rel w0 g0 N S a w->c.wp P (post w0 g0 N K) a w
 | .skip,S,K,a,w,h,hr=>wp_skip ⟨S,h,hr⟩
 | .region id ops false,S,K,a,w,h,hr=>wp_mono (zDa (Q:=post w0 g0 N K) p hΓ hr h) (fun e a w d=>by cases e<;>exact d)
 | .region id ops true,S,K,a,w,h,hr=>wp_mono (zFH (Q:=post w0 g0 N K) p hΓ r hr h) (fun e a w d=>by cases e<;>exact d)
 | .seq x y,S,K,a,w,h,hr=>by
  refine wp_seq (wp_mono (GQ p hΓ r (c:=x) h hr) (fun e a w d=>?_));cases e with
  | normal=>obtain⟨S',j,o⟩:=d;exact GQ p hΓ r j o
  | _=>exact d
 | .cond c x y,S,K,a,w,h,hr=>by
  simp only[ev]at h;split at h
  ·rename_i Y t hc
   obtain⟨rfl,j,o⟩:=h;obtain⟨E,z⟩:=hr;have U:=(vl1 (Le z hc rfl)).1;exact wp_cond_split U (fun H=>GQ p hΓ r (j H) ⟨E,z⟩) (fun H=>GQ p hΓ r (o H) ⟨E,z⟩)
  ·exact h.elim
 | .block id c,S,K,a,w,h,hr=>by
  refine wp_block (wp_mono (GQ p hΓ r (c:=c) h hr) (fun e a w d=>?_));cases e with
  | exit i=>
   obtain⟨S',j,o⟩:=d;simp only[Exit.inBlock];simp only at j;by_cases hi:i=id
   ·rw[if_pos hi]at j ⊢;exact⟨S',j,o⟩
   ·rw[if_neg hi]at j ⊢;exact⟨S',j,o⟩
  | _=>exact d
 | .loop c,S,K,a,w,h,hr=>by
  obtain⟨I,m,L,R,j,o⟩:=h;have key:∀(m:Nat) (S:St) (a:Act) (w:World),I m S->Rel w0 g0 N S a w->(Code.loop c).wp P (post w0 g0 N K) a w:=by
   intro m S a w A C b k cs;have key:∀(m:Nat) (S:St) (a:Act) (w:World),I m S->Rel w0 g0 N S a w->∃e s w',post w0 g0 N K e s w'/\Arrives P (lone (b.at a (.code c :: .inLoop c :: k)) cs w) b k cs e s w':=by
    intro m
    induction m using Nat.strongRecOn with
    | _ m ih=>
     intro S a w A C;obtain⟨e,v,J,d,g⟩:=GQ p hΓ r (c:=c) (o m S A) C b (.inLoop c :: k) cs;cases e with
     | normal=>
      obtain⟨S',⟨W,u,V,F,B⟩,D⟩:=d;obtain⟨O,M,X,G,q⟩:=ih W F u v J B (D.weak V);exact⟨O,M,X,G,.of_steps (Steps.trans g (.one step_inLoop)) q⟩
     | exit id=>exact⟨.exit id,v,J,d,.pass (x:=.inLoop c) rfl (fun _ _=>.inl (by simp)) g⟩
     | goto l=>exact d.elim
     | ret=>exact⟨.ret,v,J,d,.pass (x:=.inLoop c) rfl (fun _ _=>.inl (by simp)) g⟩
     | panic ch=>exact d.elim
     | outgrown=>exact d.elim
   obtain⟨e,s,w',d,g⟩:=key m S a w A C;exact⟨e,s,w',d,.of_steps (.one step_loop) g⟩
  exact key m L a w j (hr.weak R)
 | .exit id,S,K,a,w,h,hr=>wp_exit ⟨S,h,hr⟩
 | .ret,S,K,a,w,h,hr=>wp_ret ⟨S,h,hr⟩
 | .rangeFunc ..,S,K,a,w,h,hr=>h.elim
 | .scope ..,S,K,a,w,h,hr=>h.elim
 | .label ..,S,K,a,w,h,hr=>h.elim
 | .goto ..,S,K,a,w,h,hr=>h.elim
 | .refuse ..,S,K,a,w,h,hr=>h.elim
end
end Go.Proofs.YtibhefllijahkaaGreatDoor
