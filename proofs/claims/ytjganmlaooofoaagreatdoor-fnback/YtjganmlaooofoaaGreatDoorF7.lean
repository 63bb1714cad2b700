/- A part of the proof. -/
import Derived.Test.YtjganmlaooofoaaGreatDoorF6
import Derived.Orders
set_option linter.unusedVariables false
set_option maxRecDepth 20000
set_option maxHeartbeats 4000000
namespace Go.Proofs.YtjganmlaooofoaaGreatDoor
open Go.RowKit
set_option linter.unusedSimpArgs false
structure Tc where
 rd:List Nat
 d:Option Nat
 k:Tk
def tc0:Tc:=⟨[],none,⟨[],[],[],[]⟩⟩
def tmpsOf:List Operand->List Nat
 | []=>[]
 | .tmp t :: r=>t :: tmpsOf r
 | _ :: r=>tmpsOf r
def zAy:Option (Option Nat×Bool)->List Nat
 | some (some t,_)=>[t]
 | _=>[]
def tcAt(T:Tb)(Γ : List (Nat×zX))(ops:Array Oper)(S:St)(o:Oper):Tc:=
 match opds S o.op.operands.toList with
 | some l=>⟨tmpsOf o.op.operands.toList ++ zAy (gtmp ops o),o.dst,tks T Γ S.ob o.op o.dst (l.map (·.2))⟩
 | none=>tc0
def zMc(a b:List Nat):Bool:=a.all fun x=>!b.contains x
def ind(x y:Tc):Bool:=
 (match x.d with | some d=>!y.rd.contains d && y.d != some d | none=>true) &&
 (match y.d with | some d=>!x.rd.contains d | none=>true) &&
 (zMc x.k.wr y.k.tc && zMc x.k.wr y.k.sh && zMc x.k.sw y.k.tc) && (zMc y.k.wr x.k.tc && zMc y.k.wr x.k.sh && zMc y.k.sw x.k.tc)
theorem zJq{a b:List Nat}(h:zMc a b=true){j:Nat}(ha:j∈a)(hb:j∈b):False:=by
 unfold zMc at h;rw[List.all_eq_true]at h;have:=h j ha;simp[hb]at this
def zci(x y:Tk):Prop:=zMc x.wr y.tc=true/\zMc x.wr y.sh=true/\zMc x.sw y.tc=true
theorem zYW{x y:Tc}(h:ind x y=true):(∀t,x.d=some t->t∉y.rd/\y.d≠some t)/\(∀t,y.d=some t->t∉x.rd)/\zci x.k y.k/\zci y.k x.k:=by
 unfold ind at h;simp only[Bool.and_eq_true]at h;obtain⟨⟨⟨ha,hb⟩,⟨aA,bA⟩,cA⟩,⟨dA,eA⟩,fA⟩:=h;refine⟨fun t e=>?_,fun t e=>?_,⟨aA,bA,cA⟩,⟨dA,eA,fA⟩⟩
 ·rw[e]at ha;simpa using ha
 ·rw[e]at hb;simpa using hb
theorem Sft.agr{ob:List (Nat×Ob)}{x y:Tk}(h:zci x y){us:List (Nat×Ob)}(hs:Sft ob x.wr x.sw us):zaa y.tc y.sh ob (puts ob us):=by
 refine⟨fun j hj=>?_,fun j hj=>?_⟩
 ·have aA:∀q∈us,q.1≠j:=fun q hq e=>by
   subst e;rcases hs q hq with h1 | h1
   ·exact zJq h.1 h1 hj
   ·exact zJq h.2.2 h1.1 hj
  clear hs
  induction us generalizing ob with
  | nil=>rfl
  | cons q r ih=>
   show get (puts (put ob q.1 q.2) r) j=_;rw[ih (fun q hq=>aA q (List.mem_cons_of_mem _ hq)),ze,if_neg (aA q (List.mem_cons_self ..))]
 ·have bA:∀q∈us,q.1=j->shp (some q.2)=shp (get ob j):=fun q hq e=>by
   subst e;rcases hs q hq with h1 | h1
   ·exact(zJq h.2.1 h1 hj).elim
   ·exact h1.2
  clear hs;have key:∀(us:List (Nat×Ob)) (ob':List (Nat×Ob)),shp (get ob' j)=shp (get ob j)->(∀q∈us,q.1=j->shp (some q.2)=shp (get ob j))->shp (get (puts ob' us) j)=shp (get ob j):=by
   intro us
   induction us with
   | nil=>intro ob' h0 _;exact h0
   | cons q r ih=>
    intro ob' h0 hq;refine ih (put ob' q.1 q.2) ?_ (fun p hp=>hq p (List.mem_cons_of_mem _ hp));rw[ze];split
    ·rename_i e;exact hq q (List.mem_cons_self ..) e
    ·exact h0
  exact key us ob rfl bA
theorem zdP{T:Tb}{Γ : List (Nat×zX)}{dst:Option Nat}{ob:List (Nat×Ob)}{op:Op}{l:List Av}{j:Nat}(h:j∈(tks T Γ ob op dst l).wr\/j∈(tks T Γ ob op dst l).sw):j∈(tks T Γ ob op dst l).tc:=by
 have aA:j∈zWV (hdC l)->j∈l.flatMap Av.ids:=fun hj=>by
  match l,hj with
  | .m false [x] :: r,hj=>
   simp only[hdC]at hj;cases x<;>simp only[zWV]at hj<;>first | (cases hj;done) | skip
   simp[Av.ids,Cv.ids]at hj ⊢;exact .inl hj
  | [],hj=>cases hj
  | .t _ :: _,hj=>cases hj
  | .m true _ :: _,hj=>cases hj
  | .m false [] :: _,hj=>cases hj
  | .m false (_ :: _ :: _) :: _,hj=>cases hj
 unfold tks at h ⊢;split at h<;>(try dsimp only at h ⊢)
 case h_5=>
  split at h
  ·rename_i ht
   rw[if_pos ht];rcases h with h | h
   ·exact List.mem_append_right _ h
   ·exact List.mem_append_left _ (aA h)
  ·rcases h with h | h<;>cases h
 case h_8=>
  rcases h with h | h
  ·rcases List.mem_append.1 h with h | h
   ·exact List.mem_append_left _ (List.mem_append_left _ h)
   ·exact List.mem_append_right _ h
  ·split at h
   ·exact List.mem_append_left _ (List.mem_append_right _ h)
   ·cases h
 case h_9=>
  split at h
  ·rename_i hq
   rw[if_pos hq];rcases h with h | h
   ·exact List.mem_append_right _ h
   ·cases h
  ·rename_i hq
   rw[if_neg hq];rcases h with h | h
   ·exact h
   ·cases h
 all_goals
  rcases h with h | h
  ·first | exact h | (cases h;done)
  ·cases h
def Sim(S S':St):Prop:=(∀d,get S'.tm d=get S.tm d)/\∀i,get S'.ob i=get S.ob i
theorem Sim.refl(S:St):Sim S S:=⟨fun _=>rfl,fun _=>rfl⟩
theorem Sim.trans{S S1 S2:St}(h:Sim S S1)(h':Sim S1 S2):Sim S S2:=⟨fun d=>(h'.1 d).trans (h.1 d),fun i=>(h'.2 i).trans (h.2 i)⟩
theorem Sim.symm{S S1:St}(h:Sim S S1):Sim S1 S:=⟨fun d=>(h.1 d).symm,fun i=>(h.2 i).symm⟩
theorem Rel.sim{w0:World}{g0:Gh}{N:Nat}{S S':St}{a:Act}{w:World}(h:Rel w0 g0 N S a w)(hs:Sim S S'):Rel w0 g0 N S' a w:=by
 obtain⟨E,h⟩:=h;have hd:dom S'.ob=dom S.ob:=by funext i;unfold dom;rw[hs.2]
 exact⟨E,h.kp,fun d c av hg=>by rw[hd];exact h.tm d c av (by rw[<-hs.1];exact hg),fun i o hi=>by rw[hd];exact h.ob i o (by rw[<-hs.2];exact hi),h.df,h.sz,fun B hB=>by rw[hd];exact h.b0 B hB⟩
def entry(tm:List (Nat×Bool×Av))(dst:Option Nat)(x:Bool×Av):List (Nat×Bool×Av):=
 match dst with
 | some d=>put tm d x
 | none=>tm
theorem zQo{S S2:St}{x:Operand}(h:∀t,x = .tmp t->get S2.tm t=get S.tm t):opd S2 x=opd S x:=by
 cases x with
 | tmp t=>exact h t rfl
 | _=>rfl
theorem zL4{S S2:St}:∀{l:List Operand},(∀t∈tmpsOf l,get S2.tm t=get S.tm t)->opds S2 l=opds S l
 | [],_=>rfl
 | x :: r,h=>by
  simp only[opds];rw[zQo (S:=S) (S2:=S2) (x:=x) (fun t e=>h t (by subst e;simp[tmpsOf])),zL4 (S:=S) (S2:=S2) (l:=r) (fun t ht=>h t (by cases x<;>simp[tmpsOf,ht]))]
theorem zTt{S S2:St}{gt:Option (Option Nat×Bool)}(h:∀t∈zAy gt,get S2.tm t=get S.tm t):kap S2 gt=kap S gt:=by
 cases gt with
 | none=>rfl
 | some q=>
  obtain⟨t,aA⟩:=q;cases t with
  | none=>rfl
  | some t=>simp only[kap];rw[h t (by simp[zAy])]
section
variable {N : Nat} {T : Tb} {Γ : List (Nat × zX)} {ops : Array Oper}
theorem zLC{S S1:St}{o:Oper}{c:Prop}(h:stp N T Γ ops S o=some (c,S1)) :
  ∃x us,S1=⟨entry S.tm o.dst x,puts S.ob us⟩/\Sft S.ob (tcAt T Γ ops S o).k.wr (tcAt T Γ ops S o).k.sw us/\(tcAt T Γ ops S o).d=o.dst/\
   ∀S2,(∀t∈(tcAt T Γ ops S o).rd,get S2.tm t=get S.tm t)->zaa (tcAt T Γ ops S o).k.tc (tcAt T Γ ops S o).k.sh S.ob S2.ob->stp N T Γ ops S2 o=some (c,⟨entry S2.tm o.dst x,puts S2.ob us⟩)/\tcAt T Γ ops S2 o=tcAt T Γ ops S o:=by
 obtain⟨dst,op,ty,pos,aA,guard⟩:=o;by_cases hp:∃x y z,op = .pick x y z
 ·obtain⟨x,y,z,rfl⟩:=hp;simp only[stp]at h;unfold stpP at h;split at h
  ·rename_i κ cc bc ca p cb q d hx hy hz hk
   split at h
   ·rename_i cA
    cases h;have bA:opds S [x,y,z]=some [(cc,.m false [.v (.bool bc)]),(ca,.m false [.v (.bool p)]),(cb,.m false [.v (.bool q)])]:=(by simp only[opds,hx,hy,hz]);refine⟨_,[],rfl,Sft.nil,?_,fun S2 h1 h2=>?_⟩
    ·simp only[tcAt,Op.operands,bA]
    ·simp only[tcAt,Op.operands,bA]at h1 h2 ⊢;have ho:opds S2 [x,y,z]=opds S [x,y,z]:=zL4 (fun t ht=>h1 t (List.mem_append_left _ ht));have dA:=zTt (S:=S) (S2:=S2) (gt:=gtmp ops ⟨some d,.pick x y z,ty,pos,aA,guard⟩) (fun t ht=>h1 t (List.mem_append_right _ ht));rw[ho,bA];refine⟨?_,by simp only[zLD h2.1]⟩;simp only[opds]at ho;have kA:opd S2 x=opd S x:=zQo (fun t e=>h1 t (List.mem_append_left _ (by subst e;simp[tmpsOf])));have lA:opd S2 y=opd S y:=zQo (fun t e=>h1 t (List.mem_append_left _ (by subst e;cases x<;>simp[tmpsOf])));have mA:opd S2 z=opd S z:=zQo (fun t e=>h1 t (List.mem_append_left _ (by subst e;cases x<;>cases y<;>simp[tmpsOf])));simp only[stp,stpP,dA,hk,kA,hx,lA,hy,mA,hz,if_pos cA];rfl
   ·cases h
  ·cases h
 ·have e1:∀S,stp N T Γ ops S ⟨dst,op,ty,pos,aA,guard⟩=stp0 N T Γ (gtmp ops ⟨dst,op,ty,pos,aA,guard⟩) S op dst:=by
   intro S;unfold stp;split
   ·rename_i x y z ho;exact absurd ⟨x,y,z,ho⟩ hp
   ·rfl
  rw[e1]at h;unfold stp0 at h;split at h
  ·rename_i κ l hk hl
   split at h
   ·rename_i D hD
    obtain⟨us,h1,h2,h3⟩:=zMb hD;have iA:∀S2:St,(∀t∈(tcAt T Γ ops S ⟨dst,op,ty,pos,aA,guard⟩).rd,get S2.tm t=get S.tm t)->zaa (tcAt T Γ ops S ⟨dst,op,ty,pos,aA,guard⟩).k.tc (tcAt T Γ ops S ⟨dst,op,ty,pos,aA,guard⟩).k.sh S.ob S2.ob->
      kap S2 (gtmp ops ⟨dst,op,ty,pos,aA,guard⟩)=some κ/\opds S2 op.operands.toList=some l/\zA1 T Γ dst S2.ob op (l.map (·.2))=some ⟨D.c,D.av,puts S2.ob us,D.nw⟩/\tcAt T Γ ops S2 ⟨dst,op,ty,pos,aA,guard⟩=tcAt T Γ ops S ⟨dst,op,ty,pos,aA,guard⟩:=fun S2 g1 g2=>by
     simp only[tcAt,hl]at g1 g2;have ho:opds S2 op.operands.toList=some l:=(by rw[zL4 (S:=S) (S2:=S2) (fun t ht=>g1 t (List.mem_append_left _ ht)),hl]);have dA:kap S2 (gtmp ops ⟨dst,op,ty,pos,aA,guard⟩)=some κ:=(by rw[zTt (S:=S) (S2:=S2) (fun t ht=>g1 t (List.mem_append_right _ ht)),hk]);exact⟨dA,ho,h3 S2.ob g2,by simp only[tcAt,ho,hl,zLD g2.1]⟩
    have eA:(tcAt T Γ ops S ⟨dst,op,ty,pos,aA,guard⟩).k=tks T Γ S.ob op dst (l.map (·.2)):=(by simp only[tcAt,hl]);have gA:(tcAt T Γ ops S ⟨dst,op,ty,pos,aA,guard⟩).d=dst:=(by simp only[tcAt,hl]);rw[eA];split at h
    ·rename_i d av fA
     split at h
     ·rename_i cA
      cases h;refine⟨(κ,av),bif κ || !D.nw then us else [],?_,?_,gA,fun S2 g1 g2=>?_⟩
      ·unfold obK;cases κ || !D.nw
       ·rfl
       ·simp only[cond_true];rw[h1];rfl
      ·cases κ || !D.nw
       ·exact Sft.nil
       ·exact h2
      ·obtain⟨k1,k2,k3,k4⟩:=iA S2 g1 (by rw[eA];exact g2);refine⟨?_,k4⟩;rw[e1];simp only[stp0,k1,k2,k3,fA,if_pos cA,obK];cases κ || !D.nw<;>rfl
     ·cases h
    ·rename_i fA
     split at h
     ·cases h
     ·rename_i jA
      cases h;refine⟨(true,.t []),us,by rw[h1];rfl,h2,gA,fun S2 g1 g2=>?_⟩;obtain⟨k1,k2,k3,k4⟩:=iA S2 g1 (by rw[eA];exact g2);refine⟨?_,k4⟩;rw[e1];simp only[stp0,k1,k2,k3,fA,if_neg jA];rfl
    ·cases h
   ·rename_i hD
    have eA:(tcAt T Γ ops S ⟨dst,op,ty,pos,aA,guard⟩).k=tks T Γ S.ob op dst (l.map (·.2)):=(by simp only[tcAt,hl]);split at h
    ·rename_i d
     split at h
     ·rename_i cA
      cases h;refine⟨(false,.m false [.v (.bool false)]),[],rfl,Sft.nil,by simp only[tcAt,hl],fun S2 g1 g2=>?_⟩;rw[eA]at g2;simp only[tcAt,hl]at g1;have ho:opds S2 op.operands.toList=some l:=(by rw[zL4 (S:=S) (S2:=S2) (fun t ht=>g1 t (List.mem_append_left _ ht)),hl]);have dA:kap S2 (gtmp ops ⟨some d,op,ty,pos,aA,guard⟩)=some false:=(by rw[zTt (S:=S) (S2:=S2) (fun t ht=>g1 t (List.mem_append_right _ ht)),hk]);have ht:=zLD g2.1;have hn:zA1 T Γ (some d) S2.ob op (l.map (·.2))=none:=by
       cases e:zA1 T Γ (some d) S2.ob op (l.map (·.2))with
       | none=>rfl
       | some D=>
        obtain⟨us,-,-,h3⟩:=zMb e;have:=h3 S.ob (by rw[ht];exact⟨fun j hj=>(g2.1 j hj).symm,fun j hj=>(g2.2 j hj).symm⟩);rw[hD]at this;cases this
      refine⟨?_,by simp only[tcAt,ho,hl,ht]⟩;rw[e1];simp only[stp0,dA,ho,hn,if_pos cA];rfl
     ·cases h
    ·cases h
  ·cases h
theorem zEf{i:Nat}:∀{us:List (Nat×Ob)} {ob:List (Nat×Ob)},(∀q∈us,q.1≠i)->get (puts ob us) i=get ob i
 | [],ob,_=>rfl
 | q :: r,ob,h=>by
  have h1:=zEf (us:=r) (ob:=put ob q.1 q.2) (i:=i) (fun x hx=>h x (List.mem_cons_of_mem _ hx));show get (puts (put ob q.1 q.2) r) i=_;rw[h1,ze,if_neg (h q (List.mem_cons_self ..))]
theorem zF9{i:Nat}{ob ob':List (Nat×Ob)}(h:get ob' i=get ob i):∀us,get (puts ob' us) i=get (puts ob us) i:=fun us=>
 Agr.puts (L:=[i]) (ob:=ob) (ob':=ob') (fun j hj=>by simp at hj;subst hj;exact h) us i (by simp)
theorem zWA{S:St}{o:Oper}{j:Nat}(h:j∈(tcAt T Γ ops S o).k.wr\/j∈(tcAt T Γ ops S o).k.sw):j∈(tcAt T Γ ops S o).k.tc:=by
 unfold tcAt at *;split at h
 ·exact zdP h
 ·rcases h with h | h<;>cases h
theorem Sft.tc{S:St}{o:Oper}{us:List (Nat×Ob)}(h:Sft S.ob (tcAt T Γ ops S o).k.wr (tcAt T Γ ops S o).k.sw us):∀q∈us,q.1∈(tcAt T Γ ops S o).k.tc:=fun q hq=>zWA ((h q hq).imp_right fun h=>h.1)
theorem zDF{tm:List (Nat×Bool×Av)}{dst:Option Nat}{x:Bool×Av}{t:Nat}(h:dst≠some t):get (entry tm dst x) t=get tm t:=by
 cases dst with
 | none=>rfl
 | some d=>simp only[entry];rw[ze,if_neg (fun e=>h (by rw[e]))]
theorem zaO{S S1 S2:St}{x y:Oper}{c1 c2:Prop}(h1:stp N T Γ ops S x=some (c1,S1))(h2:stp N T Γ ops S1 y=some (c2,S2))(hi:ind (tcAt T Γ ops S x) (tcAt T Γ ops S1 y)=true) :
  ∃aA bA,stp N T Γ ops S y=some (c2,aA)/\stp N T Γ ops aA x=some (c1,bA)/\Sim S2 bA/\tcAt T Γ ops S y=tcAt T Γ ops S1 y/\tcAt T Γ ops aA x=tcAt T Γ ops S x:=by
 obtain⟨ex,ux,e1,w1,d1,l1⟩:=zLC h1;obtain⟨ey,uy,e2,w2,d2,l2⟩:=zLC h2;subst e1;obtain⟨ha,hb,hc,hd⟩:=zYW hi;have eA:∀t∈(tcAt T Γ ops ⟨entry S.tm x.dst ex,puts S.ob ux⟩ y).rd,x.dst≠some t:=fun t ht e=>(ha t (d1.trans e)).1 ht
 have fA:∀t∈(tcAt T Γ ops S x).rd,y.dst≠some t:=fun t ht e=>hb t (d2.trans e) ht
 have dA:∀t,x.dst=some t->y.dst≠some t:=fun t e e'=>(ha t (d1.trans e)).2 (d2.trans e')
 obtain⟨a1,a2⟩:=w1.agr hc;obtain⟨g1,g2⟩:=l2 S (fun t ht=>(zDF (eA t ht)).symm) ⟨fun j hj=>(a1 j hj).symm,fun j hj=>(a2 j hj).symm⟩;have gA:Sft S.ob (tcAt T Γ ops ⟨entry S.tm x.dst ex,puts S.ob ux⟩ y).k.wr (tcAt T Γ ops ⟨entry S.tm x.dst ex,puts S.ob ux⟩ y).k.sw uy:=fun q hq=>by
  rcases w2 q hq with h | h
  ·exact .inl h
  ·refine .inr ⟨h.1,h.2.trans ?_⟩;show shp (get (puts S.ob ux) q.1)=_;rw[a1 q.1 (zWA (.inr h.1))]
 obtain⟨k1,k2⟩:=l1 ⟨entry S.tm y.dst ey,puts S.ob uy⟩ (fun t ht=>zDF (fA t ht)) (gA.agr hd);refine⟨_,_,g1,k1,?_,g2,k2⟩;subst e2;refine⟨fun t=>?_,fun i=>?_⟩
 ·show get (entry (entry S.tm y.dst ey) x.dst ex) t=get (entry (entry S.tm x.dst ex) y.dst ey) t;by_cases hx:x.dst=some t
  ·have hy:=dA t hx;rw[zDF hy,hx];simp only[entry];rw[ze,ze,if_pos rfl,if_pos rfl]
  ·rw[zDF hx];by_cases hy:y.dst=some t
   ·rw[hy];simp only[entry];rw[ze,ze,if_pos rfl,if_pos rfl]
   ·rw[zDF hy,zDF hy,zDF hx]
 ·show get (puts (puts S.ob uy) ux) i=get (puts (puts S.ob ux) uy) i;by_cases hx:∃q∈ux,q.1=i
  ·obtain⟨q,hq,rfl⟩:=hx;have hy:∀r∈uy,r.1≠q.1:=fun r hr e=>by
    have h3:=w2.tc r hr;rw[e]at h3;rcases w1 q hq with h4 | h4
    ·exact zJq hc.1 h4 h3
    ·exact zJq hc.2.2 h4.1 h3
   rw[zEf hy];exact zF9 (zEf hy) ux
  ·have cA:∀q∈ux,q.1≠i:=fun q hq e=>hx ⟨q,hq,e⟩
   rw[zEf cA];exact(zF9 (zEf cA) uy).symm
theorem zbh{S S1 S2:St}{o:Oper}{c:Prop}(h:stp N T Γ ops S o=some (c,S1))(hs:Sim S S2):∃S3,stp N T Γ ops S2 o=some (c,S3)/\Sim S1 S3/\tcAt T Γ ops S2 o=tcAt T Γ ops S o:=by
 obtain⟨ex,ux,rfl,w1,d1,l1⟩:=zLC h;obtain⟨k1,k2⟩:=l1 S2 (fun t _=>hs.1 t) ⟨fun j _=>hs.2 j,fun j _=>by rw[hs.2]⟩;refine⟨_,k1,⟨fun t=>?_,fun i=>zF9 (hs.2 i) ux⟩,k2⟩;by_cases hd:o.dst=some t
 ·show get (entry S2.tm o.dst ex) t=get (entry S.tm o.dst ex) t;rw[hd];simp only[entry];rw[ze,ze,if_pos rfl,if_pos rfl]
 ·show get (entry S2.tm o.dst ex) t=get (entry S.tm o.dst ex) t;rw[zDF hd,zDF hd];exact hs.1 t
def zKa(N:Nat)(T:Tb)(Γ : List (Nat×zX))(ops:Array Oper)(tcf:Nat->Tc)(K:St->Prop):List Nat->St->Prop
 | [],S=>∃S',K S'/\Sim S' S
 | i :: l,S=>∃o c S1,ops[i]?=some o/\stp N T Γ ops S o=some (c,S1)/\c/\tcAt T Γ ops S o=tcf i/\zKa N T Γ ops tcf K l S1
theorem zKa.sim{aA:Nat->Tc}{K:St->Prop}:∀{l:List Nat} {S S2:St},zKa N T Γ ops aA K l S->Sim S S2->zKa N T Γ ops aA K l S2
 | [],S,S2,⟨S',hk,hs⟩,h=>⟨S',hk,hs.trans h⟩
 | i :: l,S,S2,⟨o,c,S1,h1,h2,h3,h4,h5⟩,h=>by
  obtain⟨S3,g1,g2,g3⟩:=zbh h2 h;exact⟨o,c,S3,h1,g1,h3,g3.trans h4,h5.sim g2⟩
theorem zKa.pull{aA:Nat->Tc}{K:St->Prop}{i:Nat}{l2:List Nat}:∀{l1:List Nat} {S:St},(∀j∈l1,ind (aA j) (aA i)=true)->zKa N T Γ ops aA K (l1 ++ i :: l2) S->zKa N T Γ ops aA K (i :: (l1 ++ l2)) S
 | [],S,_,h=>h
 | j :: l1,S,hind,⟨o,c,S1,h1,h2,h3,h4,h5⟩=>by
  obtain⟨o',c',S2,g1,g2,g3,g4,g5⟩:=zKa.pull (fun k hk=>hind k (List.mem_cons_of_mem _ hk)) h5;obtain⟨bA,cA,k1,k2,k3,k4,k5⟩:=zaO h2 g2 (by rw[h4,g4];exact hind j (List.mem_cons_self ..));exact⟨o',c',bA,g1,k1,g3,k4.trans g4,o,c,cA,h1,k2,h3,k5.trans h4,g5.sim k3⟩
end
def zOs(acc:List Nat)(es:List Edge)(s:Nat):Nat:=
 match es with
 | []=>s
 | e :: r=>zOs acc r (if Region.binds .any e then s ||| 2 ^ e.on ||| acc.getD e.on 0 else s)
def zFP:List Oper->List Nat->List Nat
 | [],acc=>acc
 | o :: r,acc=>zFP r (acc ++ [zOs acc o.after.toList 0])
theorem zMT{acc:List Nat}{j:Nat}:∀{es:List Edge} {s:Nat},(zOs acc es s).testBit j=true->s.testBit j=true\/∃e∈es,Region.binds .any e=true/\(e.on=j\/(acc.getD e.on 0).testBit j=true)
 | [],s,h=>.inl h
 | e :: r,s,h=>by
  simp only[zOs]at h;rcases zMT h with h1 | ⟨e',aA,h2⟩
  ·split at h1
   ·rename_i hb
    simp only[Nat.testBit_or,Bool.or_eq_true,Nat.testBit_two_pow,decide_eq_true_eq]at h1;rcases h1 with(h1 | h1) | h1
    ·exact .inl h1
    ·exact .inr ⟨e,List.mem_cons_self ..,hb,.inl h1⟩
    ·exact .inr ⟨e,List.mem_cons_self ..,hb,.inr h1⟩
   ·exact .inl h1
  ·exact .inr ⟨e',List.mem_cons_of_mem _ aA,h2⟩
theorem zI3:∀{os:List Oper} {acc:List Nat} {i:Nat},i<acc.length->(zFP os acc)[i]?=acc[i]?
 | [],acc,i,h=>rfl
 | o :: r,acc,i,h=>by
  simp only[zFP];rw[zI3 (by simp;omega),List.getElem?_append_left h]
theorem zOt:∀{os:List Oper} {acc:List Nat} {i:Nat} {o:Oper},os[i]?=some o->∃aA,(zFP os acc)[acc.length+i]?=some (zOs aA o.after.toList 0)/\∀k m,aA[k]?=some m->k<acc.length+i/\(zFP os acc)[k]?=some m
 | [],acc,i,o,h=>by simp at h
 | x :: r,acc,i,o,h=>by
  cases i with
  | zero=>
   simp at h;subst h;refine⟨acc,?_,fun k m hk=>?_⟩
   ·simp only[zFP];rw[zI3 (by simp)];simp
   ·have bA:=(List.getElem?_eq_some_iff.1 hk).1;simp only[zFP];refine⟨by omega,?_⟩;rw[zI3 (by simp;omega),List.getElem?_append_left bA];exact hk
  | succ i=>
   obtain⟨aA,h1,h2⟩:=zOt (os:=r) (acc:=acc ++ [zOs acc x.after.toList 0]) (i:=i) (o:=o) (by simpa using h);simp only[List.length_append,List.length_cons,List.length_nil]at h1 h2;exact⟨aA,by simp only[zFP];rw[<-h1];congr 1;omega,fun k m hk=>by obtain⟨g1,g2⟩:=h2 k m hk;exact⟨by omega,by simp only[zFP];exact g2⟩⟩
def bef(ms:List Nat)(i j:Nat):Bool:=(ms.getD i 0).testBit j
def zUp(ms:List Nat)(ts:List Tc)(i:Nat)(x:Tc):Nat->List Tc->Bool
 | _,[]=>true
 | j,y :: r=>(decide (i<=j) || bef ms i j || ind y x) && zUp ms ts i x (j+1) r
def chk(ops:List Oper)(ts:List Tc):Bool:=
 (ops.zipIdx.all fun q=>q.1.after.toList.all fun e=>!Region.binds .any e || decide (e.on<q.2)) &&
 (ts.zipIdx.all fun q=>zUp (zFP ops []) ts q.2 q.1 0 ts)
theorem zMV{ms:List Nat}{ts:List Tc}{i:Nat}{x:Tc}:∀{r:List Tc} {k:Nat},zUp ms ts i x k r=true->∀j y,r[j]?=some y->k+j<i->bef ms i (k+j)=true\/ind y x=true
 | [],k,h,j,y,hj,_=>by simp at hj
 | z :: r,k,h,j,y,hj,hlt=>by
  simp only[zUp,Bool.and_eq_true,Bool.or_eq_true,decide_eq_true_eq]at h;cases j with
  | zero=>
   simp at hj;subst hj;rcases h.1 with(h1 | h1) | h1
   ·omega
   ·exact .inl h1
   ·exact .inr h1
  | succ j=>
   have:=zMV h.2 j y (by simpa using hj) (by omega)
   rwa [show k+(j+1)=k+1+j by omega]
section
variable {P : Program} {N : Nat} {T : Tb} {Γ : List (Nat × zX)} {ops : Array Oper} {w0 : World} {g0 : Gh} {Q : Exit -> Act -> World -> Prop}
def Lst(listed:Array Bool)(i:Nat):Prop:=listed.getD i false=true
def zXm(ops:Array Oper)(listed:Array Bool):Prop:=∀i o,ops[i]?=some o->Lst listed i->∀e∈o.after,Region.binds .any e=true->Lst listed e.on
theorem zTL{aA:Array Bool}(hc:zXm ops aA):∀(i:Nat) {j:Nat} {o:Oper},ops[i]?=some o->(∀e∈o.after,Region.binds .any e=true->Lst aA e.on)->bef (zFP ops.toList []) i j=true->Lst aA j:=by
 intro i
 induction i using Nat.strongRecOn with
 | _ i ih=>
  intro j o ho hd hb;obtain⟨bA,h1,h2⟩:=zOt (os:=ops.toList) (acc:=[]) (i:=i) (o:=o) (by simpa using ho);simp only[List.length_nil,Nat.zero_add]at h1 h2;unfold bef at hb;rw[List.getD_eq_getElem?_getD,h1]at hb;simp only[Option.getD_some]at hb;rcases zMT hb with h3 | ⟨e,he,eA,h3⟩
  ·simp at h3
  ·have dA:=hd e (by simpa using he) eA;rcases h3 with h3 | h3
   ·rw[<-h3];exact dA
   ·cases hk:bA[e.on]? with
    | none=>rw[List.getD_eq_getElem?_getD,hk]at h3;simp at h3
    | some m=>
     rw[List.getD_eq_getElem?_getD,hk]at h3;obtain⟨g1,g2⟩:=h2 _ _ hk;have cA:e.on<ops.size:=by
      have:=(Array.getElem?_eq_some_iff.1 ho).1;omega
     refine ih e.on g1 (o:=ops[e.on]) (Array.getElem?_eq_getElem cA) (hc e.on _ (Array.getElem?_eq_getElem cA) dA) ?_;unfold bef;rw[List.getD_eq_getElem?_getD,g2];exact h3
def zB9(ops:Array Oper)(listed:Array Bool):List Nat:=(List.range ops.size).filter fun i=>!listed.getD i true
theorem zHu{aA:Array Bool}{i:Nat}:i∈zB9 ops aA↔i<ops.size/\aA.getD i true=false:=by
 unfold zB9;simp
theorem Lst.iff{aA:Array Bool}(hs:aA.size=ops.size){i:Nat}(hi:i<ops.size):Lst aA i↔aA.getD i true=true:=by
 unfold Lst;have:i<aA.size:=by omega
 simp[Array.getD_eq_getD_getElem?,this]
theorem zZ0{aA:Array Bool}{i:Nat}(hs:aA.size=ops.size){l1 l2:List Nat}(h:zB9 ops aA=l1 ++ i :: l2):zB9 ops (aA.setIfInBounds i true)=l1 ++ l2/\∀j∈l1,j<i:=by
 have hp:List.Pairwise (· < ·) (zB9 ops aA):=List.Pairwise.filter _ List.pairwise_lt_range;rw[h,List.pairwise_append,List.pairwise_cons]at hp;have h1:∀j∈l1,j<i:=fun j hj=>hp.2.2 j hj i (List.mem_cons_self ..)
 have h2:∀j∈l2,i<j:=hp.2.1.1;refine⟨?_,h1⟩;have e:zB9 ops (aA.setIfInBounds i true)=(zB9 ops aA).filter (fun k=>decide (k≠i)):=by
  unfold zB9;rw[List.filter_filter];apply List.filter_congr;intro k hk;rw[List.mem_range]at hk;have cA:k<aA.size:=(by omega);simp only[Array.getD_eq_getD_getElem?,Array.getElem?_setIfInBounds];by_cases bA:i=k
  ·subst bA;simp[cA]
  ·simp[bA,fun h=>bA (Eq.symm h),cA];intro;exact fun h=>bA h.symm
 rw[e,h,List.filter_append,List.filter_cons];simp only[ne_eq,not_true_eq_false,decide_false,Bool.false_eq_true,if_false];rw[List.filter_eq_self.2 (fun j hj=>by have:=h1 j hj;simp;omega),List.filter_eq_self.2 (fun j hj=>by have:=h2 j hj;simp;omega)]
theorem zcm(hT:zF4 P T)(hΓ : zPz P Γ w0 g0){ts:List Tc}{K:St->Prop}(cA:chk ops.toList ts=true)(bB:ts.length=ops.size) :
  ∀(bA:Nat) (aA:Array Bool) (S:St) (a:Act) (w:World),aA.size=ops.size->(zB9 ops aA).length<=bA->zXm ops aA->zKa N T Γ ops (fun i=>ts.getD i tc0) K (zB9 ops aA) S->Rel w0 g0 N S a w->
   wpAny P .any ops (fun e a w=>match e with | .normal=>∃S,K S/\Rel w0 g0 N S a w | e=>Q e a w) bA aA a w:=by
 unfold chk at cA;rw[Bool.and_eq_true,List.all_eq_true,List.all_eq_true]at cA;have dA:∀i o,ops[i]?=some o->∀e∈o.after,Region.binds .any e=true->e.on<i:=fun i o ho e he hb=>by
  have h1:=cA.1 (o,i) (by rw[List.mem_iff_getElem?];exact⟨i,by simp[List.getElem?_zipIdx,ho]⟩);rw[List.all_eq_true]at h1;have:=h1 e (by simpa using he);simp only[hb,Bool.not_true,Bool.false_or,decide_eq_true_eq]at this;exact this
 have fA:∀(aA:Array Bool) (S:St) (a:Act) (w:World),zB9 ops aA = []->zKa N T Γ ops (fun i=>ts.getD i tc0) K (zB9 ops aA) S->Rel w0 g0 N S a w->∃S,K S/\Rel w0 g0 N S a w:=fun aA S a w h0 hr h=>by
  rw[h0]at hr;obtain⟨S',hk,hs⟩:=hr;exact⟨S',hk,h.sim hs.symm⟩
 intro bA
 induction bA with
 | zero=>
  intro aA S a w hs hf hc hr h;have h0:zB9 ops aA = []:=List.length_eq_zero_iff.1 (by omega);refine⟨?_,fA aA S a w h0 hr h⟩;rw[List.eq_nil_iff_forall_not_mem];intro i hi;obtain⟨h1,o,ho,_⟩:=mem_ready.1 hi;have:i∈zB9 ops aA:=zHu.2 ⟨(Array.getElem?_eq_some_iff.1 ho).1,h1⟩;rw[h0]at this;cases this
 | succ bA ih=>
  intro aA S a w hs hf hc hr h;refine⟨fun cB=>?_,fun i hi=>?_⟩
  ·cases hres:zB9 ops aA with
   | nil=>exact fA aA S a w hres hr h
   | cons i l=>
    exfalso;have hi:i∈zB9 ops aA:=(by rw[hres];exact List.mem_cons_self ..);obtain⟨jA,oA⟩:=zHu.1 hi;have mA:∀k,k<i->Lst aA k:=fun k hk=>by
     rw[Lst.iff hs (by omega)];cases hg:aA.getD k true with
     | true=>rfl
     | false=>
      have pA:k∈zB9 ops aA:=zHu.2 ⟨by omega,hg⟩;have hp:List.Pairwise (· < ·) (zB9 ops aA):=List.Pairwise.filter _ List.pairwise_lt_range;rw[hres]at pA hp;rw[List.pairwise_cons]at hp;rcases List.mem_cons.1 pA with e | e
      ·omega
      ·have:=hp.1 k e;omega
    have:i∈Region.ready .any ops aA:=mem_ready.2 ⟨oA,ops[i],Array.getElem?_eq_getElem jA,fun e he hb=>mA _ (dA i _ (Array.getElem?_eq_getElem jA) e he hb)⟩;rw[cB]at this;cases this
  ·obtain⟨oA,o,ho,eA⟩:=mem_ready.1 hi;have jA:=(Array.getElem?_eq_some_iff.1 ho).1;have lA:i∈zB9 ops aA:=zHu.2 ⟨jA,oA⟩;obtain⟨l1,l2,kA⟩:=List.append_of_mem lA;obtain⟨gA,aB⟩:=zZ0 hs kA;rw[kA]at hr;obtain⟨o',c,S1,g1,g2,g3,g4,g5⟩:=zKa.pull (fun j hj=>by
    have eB:=aB j hj;have sA:ts[i]?=some ts[i]:=List.getElem?_eq_getElem (by omega);have tA:ts[j]?=some ts[j]:=List.getElem?_eq_getElem (by omega);have h1:=cA.2 (ts[i],i) (by rw[List.mem_iff_getElem?];exact⟨i,by simp[List.getElem?_zipIdx,sA]⟩);have h2:=zMV h1 j ts[j] tA (by omega);rw[Nat.zero_add]at h2;simp only[List.getD_eq_getElem?_getD,sA,tA,Option.getD_some];rcases h2 with h2 | h2
    ·exfalso;have h3:=zTL hc i ho eA h2;have vA:j∈zB9 ops aA:=(by rw[kA];exact List.mem_append_left _ hj);rw[Lst.iff hs (by omega),(zHu.1 vA).2]at h3;cases h3
    ·exact h2) hr
   rw[ho]at g1;cases g1;refine wpOp_mono (fun a' w' h'=>?_) (zaP hT hΓ h ho g2 g3);refine ih (aA.setIfInBounds i true) S1 a' w' (by simpa using hs) ?_ ?_ (by rw[gA];exact g5) h'
   ·rw[gA];rw[kA]at hf;simp at hf ⊢;omega
   ·intro k ok nA hk e he hb;unfold Lst at *;simp only[Array.getD_eq_getD_getElem?,Array.getElem?_setIfInBounds]at hk ⊢;by_cases rA:i=k
    ·subst rA;rw[ho]at nA;cases nA;have:=eA e he hb;by_cases iA:i=e.on
     ·have:=dA i o ho e he hb;omega
     ·rw[if_neg iA];simpa[Array.getD_eq_getD_getElem?]using this
    ·rw[if_neg rA]at hk;have:=hc k ok nA (by simpa[Lst,Array.getD_eq_getD_getElem?]using hk) e he hb;by_cases iA:i=e.on
     ·rw[if_pos iA,if_pos (show i<aA.size by omega)];rfl
     ·rw[if_neg iA];simpa[Lst,Array.getD_eq_getD_getElem?]using this
def runT(N:Nat)(T:Tb)(Γ : List (Nat×zX))(ops:Array Oper):List Oper->St->List Tc->(St->List Tc->Prop)->Prop
 | [],S,tr,K=>K S tr
 | o :: r,S,tr,K=>match stp N T Γ ops S o with
  | some (c,S')=>c/\runT N T Γ ops r S' (tr ++ [tcAt T Γ ops S o]) K
  | none=>False
theorem zV2{K:St->List Tc->Prop}:∀{os:List Oper} {S:St} {tr:List Tc} {n:Nat},ops.toList.drop n=os->n<=ops.size->tr.length=n->runT N T Γ ops os S tr K->
  ∃ts,ts.length=ops.size/\(∀i,i<n->ts[i]?=tr[i]?)/\zKa N T Γ ops (fun i=>ts.getD i tc0) (fun S=>K S ts) (List.range' n (ops.size - n)) S
 | [],S,tr,n,hos,hn,ht,h=>by
  have:ops.size - n=0:=by
   have:=congrArg List.length hos;simpa using this
  rw[this];exact⟨tr,by omega,fun _ _=>rfl,S,h,Sim.refl _⟩
 | o :: r,S,tr,n,hos,hn,ht,h=>by
  simp only[runT]at h;split at h
  ·rename_i c S' hst
   have aA:ops.size - n=r.length+1:=by
    have:=congrArg List.length hos;simpa using this
   have hr:ops.toList.drop (n+1)=r:=by
    rw[<-List.drop_drop,hos];rfl
   have ho:ops[n]?=some o:=by
    have:(ops.toList.drop n)[0]?=some o:=(by rw[hos];rfl);rw[List.getElem?_drop]at this;simpa using this
   obtain⟨ts,h1,h2,h3⟩:=zV2 (os:=r) (S:=S') (tr:=tr ++ [tcAt T Γ ops S o]) (n:=n+1) hr (by omega) (by simp[ht]) h.2;refine⟨ts,h1,fun i hi=>?_,?_⟩
   ·rw[h2 i (by omega),List.getElem?_append_left (by omega)]
   ·rw[show ops.size - n=(ops.size - (n+1))+1 by omega,List.range'_succ];refine⟨o,c,S',ho,hst,h.1,?_,h3⟩;have:=h2 n (by omega);rw[List.getElem?_append_right (by omega),ht]at this;simp only[Nat.sub_self,List.getElem?_cons_zero]at this;show _=ts.getD n _;rw[List.getD_eq_getElem?_getD,this];rfl
  ·exact h.elim
theorem Rel.drew{S:St}{a:Act}{w:World}(h:Rel w0 g0 N S a w):Rel w0 g0 N S a w.drew:=by
 obtain⟨E,h⟩:=h;have hx:ql (dom S.ob) w E w.drew E:=⟨Kp.drew _ _,fun _ _=>rfl,fun _ _=>rfl⟩;exact⟨E,h.quiet hx (fun _ h=>h) (fun j b hj=>ObR.ext hx (fun _ h=>h) (by unfold dom;rw[hj];rfl) (X:=fun _=>False) (fun _ _ _=>⟨rfl,rfl⟩) (fun _ _ x=>x.elim) (fun _ _ _ _ x=>x.elim) (h.ob j b hj))⟩
theorem zYF(hT:zF4 P T)(hΓ : zPz P Γ w0 g0)(hm:P.follows .mixedOrders=true){id n:Nat}{S:St}{a:Act}{w:World}{K:St->Prop}(h:Rel w0 g0 N S a w)(hr:runT N T Γ ops ops.toList ⟨fgt n S.tm,S.ob⟩ [] (fun S ts=>chk ops.toList ts=true/\K S)) :
  (Code.region id ops true).wp P (fun e a w=>match e with | .normal=>∃S,K S/\Rel w0 g0 N S a w | e=>Q e a w) a w:=by
 obtain⟨ts,h1,-,h3⟩:=zV2 (n:=0) (by simp) (Nat.zero_le _) rfl hr;by_cases bA:chk ops.toList ts=true
 ·refine wp_region_any hm ?_;have aA:zB9 ops (Array.replicate ops.size false)=List.range' 0 (ops.size - 0):=by
   unfold zB9;rw[List.filter_eq_self.2 (fun i hi=>by rw[List.mem_range]at hi;simp[Array.getD_eq_getD_getElem?,hi]),Nat.sub_zero,List.range_eq_range']
  have cA:zKa N T Γ ops (fun i=>ts.getD i tc0) K (List.range' 0 (ops.size - 0)) ⟨Go.Proofs.YtjganmlaooofoaaGreatDoor.fgt n S.tm,S.ob⟩:=by
   generalize List.range' 0 (ops.size - 0)=l at h3;generalize (⟨Go.Proofs.YtjganmlaooofoaaGreatDoor.fgt n S.tm,S.ob⟩:St)=S0 at h3;clear hr aA
   induction l generalizing S0 with
   | nil=>obtain⟨S',⟨_,hk⟩,hs⟩:=h3;exact⟨S',hk,hs⟩
   | cons i l ih=>obtain⟨o,c,S1,g1,g2,g3,g4,g5⟩:=h3;exact⟨o,c,S1,g1,g2,g3,g4,ih S1 g5⟩
  exact zcm hT hΓ bA h1 ops.size _ _ a w.drew (by simp) (by rw[aA];simp) (fun i o _ hl=>by unfold Lst at hl;rw[Array.getD_eq_getD_getElem?,Array.getElem?_replicate]at hl;split at hl<;>simp at hl) (by rw[aA];exact cA) (h.drew.fgt n)
 ·exfalso;apply bA;clear bA;generalize List.range' 0 (ops.size - 0)=l at h3;generalize (⟨Go.Proofs.YtjganmlaooofoaaGreatDoor.fgt n S.tm,S.ob⟩:St)=S0 at h3;clear hr
  induction l generalizing S0 with
  | nil=>obtain⟨S',⟨hk,_⟩,_⟩:=h3;exact hk
  | cons i l ih=>obtain⟨o,c,S1,g1,g2,g3,g4,g5⟩:=h3;exact ih S1 g5
end
def TrE:Tr->Tr->Prop
 | .v x,.v y=>x=y
 | .s fl k n f,.s fl' k' n' f'=>(fl=fl'\/(fl = .o/\fl' = .z))/\k=k'/\n=n'/\∀i j,i<n->j<k->TrE (f i j) (f' i j)
 | .v x,.s fl' k' n' f'=>x = .slice none 0 0/\n'=0
 | _,_=>False
theorem TrE.refl:∀(T:Tr),TrE T T
 | .v x=>rfl
 | .s fl k n f=>⟨.inl rfl,rfl,rfl,fun i j _ _=>TrE.refl (f i j)⟩
theorem TrE.of_eq{S T:Tr}(h:S=T):TrE S T:=h▸TrE.refl S
theorem Bs.ok_oz{s:Bs}{fl aA:Fl}{e:Nat}(h:fl=aA\/(fl = .o/\aA = .z))(h':s.ok fl e):s.ok aA e:=by
 rcases h with rfl | ⟨rfl,rfl⟩
 ·exact h'
 ·cases s with
  | fz r=>exact .inr (h'.resolve_left (by simp))
  | ow o l=>exact h'
theorem Sh.e{w:World}{g:Nat->Bs}:∀{T T':Tr} {u:Value},TrE T T'->Sh w g T u->Sh w g T' u
 | .v x,.v y,u,h,hs=>by cases h;exact hs
 | .s fl k n f,.s fl' k' n' f',u,h,hs=>by
  obtain⟨bA,rfl,rfl,hf⟩:=h;obtain⟨a,c,e,hn,hc⟩:=hs;refine⟨a,c,e,hn,fun h0=>?_⟩;obtain⟨b,o,ha,hb,cA,aA⟩:=hc h0;exact⟨b,o,ha,hb,Bs.ok_oz bA cA,fun i j hi hj=>let ⟨u,hu,hs⟩:=aA i j hi hj;⟨u,hu,hs.e (hf i j hi hj)⟩⟩
 | .v x,.s ..,u,h,hs=>by
  obtain⟨rfl,rfl⟩:=h;exact⟨none,0,hs.1,Nat.le_refl _,fun h0=>by omega⟩
 | .s ..,.v x,u,h,hs=>h.elim
theorem zAb.e{w:World}{g:Nat->Bs}{B j:Nat}{T T':Tr}{u:Value}(h:TrE T T')(hs:Sh w g T u)(ht:zAb w g B j T u):zAb w g B j T' u:=by
 cases T with
 | v x=>cases T' with
  | v y=>trivial
  | s fl k n f=>
   obtain⟨rfl,rfl⟩:=h;cases fl with
   | o=>exact⟨none,0,hs.1,fun h0=>by omega⟩
   | b=>trivial
   | z=>trivial
 | s fl k n f=>cases T' with
  | v y=>trivial
  | s fl' k' n' f'=>
   obtain⟨rfl | ⟨rfl,rfl⟩,rfl,rfl,_⟩:=h
   ·cases fl<;>exact ht
   ·trivial
def sg:List (Nat×Nat)->Nat->Nat
 | [],j=>j
 | (a,b) :: r,j=>if a=j then b else sg r j
def CvE(ρ : List (Nat×Nat)):Cv->Cv->Prop
 | .s fl k n f,.s fl' k' n' f'=>TrE (.s fl k n f) (.s fl' k' n' f')
 | .q fl k n f a j,.q fl' k' n' f' a' j'=>TrE (.s fl k n f) (.s fl' k' n' f')/\a=a'/\j=j'
 | .v x,.v y=>x=y
 | .h i,.h j=>i=sg ρ j
 | .v x,.h j=>x = .slice none 0 0/\100000<=sg ρ j
 | .p i o,.p j q=>i=sg ρ j/\o=q
 | .e i k a j,.e i' k' a' j'=>i=sg ρ i'/\k=k'/\a=a'/\j=j'
 | _,_=>False
def Bs.rnm(τ : Nat->Nat):Bs->Bs
 | .ow (.nm i) l=>.ow (.nm (τ i)) l
 | s=>s
def En.rnm(E:En)(ρ : List (Nat×Nat))(τ : Nat->Nat):En:=⟨fun b=>(E.g b).rnm τ,fun i=>E.bl (sg ρ i),fun i=>E.hv (sg ρ i)⟩
theorem Bs.ok_rnm{τ : Nat->Nat}{s:Bs}{fl:Fl}{e:Nat}(h:s.ok fl e):(s.rnm τ).ok fl e:=by
 cases s with
 | fz r=>exact h
 | ow o l=>cases o<;>exact h
theorem Sh.rnm{w:World}{g:Nat->Bs}{τ : Nat->Nat}:∀{T:Tr} {u:Value},Sh w g T u->Sh w (fun b=>(g b).rnm τ) T u
 | .v x,u,hs=>hs
 | .s fl k n f,u,hs=>by
  obtain⟨a,c,e,hn,hc⟩:=hs;refine⟨a,c,e,hn,fun h0=>?_⟩;obtain⟨b,o,ha,hb,bA,aA⟩:=hc h0;exact⟨b,o,ha,hb,Bs.ok_rnm bA,fun i j hi hj=>let ⟨u,hu,hs⟩:=aA i j hi hj;⟨u,hu,hs.rnm⟩⟩
theorem zAb.rnm{w:World}{g:Nat->Bs}{τ : Nat->Nat}{B j:Nat}{T:Tr}{u:Value}(ht:zAb w g B j T u):zAb w (fun b=>(g b).rnm τ) B j T u:=by
 cases T with
 | v x=>trivial
 | s fl k n f=>cases fl with
  | o=>
   obtain⟨a,c,e,h⟩:=ht;exact⟨a,c,e,fun h0=>let ⟨b,h1,h2,h3⟩:=h h0;⟨b,h1,by simp only[h2,Bs.rnm],h3⟩⟩
  | b=>trivial
  | z=>trivial
theorem Kp.rnm{w w':World}{g g':Nat->Bs}{τ : Nat->Nat}(h:Kp w g w' g'):Kp w g w' (fun b=>(g' b).rnm τ):=by
 refine⟨h.os,h.tape,h.output,h.size,fun b r hb hl=>?_,fun b o aA hb hl=>?_⟩
 ·obtain⟨h1,h2⟩:=h.fz b r hb hl;exact⟨h1,by simp only[h2,Bs.rnm]⟩
 ·obtain⟨h1,⟨o',l',h2,h3⟩ | h2⟩:=h.ow b o aA hb hl
  ·refine⟨h1,.inl ?_⟩;cases o' with
   | nm i=>exact⟨.nm (τ i),l',by simp only[h2,Bs.rnm],h3⟩
   | tl b j=>exact⟨.tl b j,l',by simp only[h2,Bs.rnm],h3⟩
  ·exact⟨h1,.inr (by simp only[h2,Bs.rnm])⟩
def inD(ob:List (Nat×Ob))(l:List Nat):Bool:=l.all fun i=>(get ob i).isSome
section
variable {ρ : List (Nat × Nat)} {τ : Nat -> Nat}
theorem CvR.e{w:World}{E:En}(hN:∀i,100000<=i->E.hv i = .slice none 0 0){D D':Nat->Prop}{x y:Cv}{u:Value}(h:CvE ρ x y)(hd:∀i∈y.ids,D' i)(hx:CvR w E D x u):CvR w (E.rnm ρ τ) D' y u:=by
 cases x<;>cases y<;>simp only[CvE]at h
 case v.v=>cases h;exact hx
 case s.s=>exact Sh.rnm (Sh.e h hx)
 case h.h=>cases h;exact⟨hd _ (by simp[Cv.ids]),hx.2⟩
 case v.h=>
  obtain⟨rfl,h⟩:=h;exact⟨hd _ (by simp[Cv.ids]),hx.1.trans (hN _ h).symm,hx.1▸hx.2⟩
 case p.p=>obtain⟨rfl,rfl⟩:=h;exact⟨hd _ (by simp[Cv.ids]),hx.2⟩
 case e.e=>obtain⟨rfl,rfl,rfl,rfl⟩:=h;exact⟨hd _ (by simp[Cv.ids]),hx.2⟩
 case q.q=>
  obtain⟨h,rfl,rfl⟩:=h;obtain⟨ha,b,o,e,hs⟩:=hx;obtain⟨dA,rfl,rfl,hf⟩:=h;obtain⟨a',c',e',hn,hc⟩:=hs;refine⟨ha,b,o,e,Sh.rnm ⟨a',c',e',hn,fun h0=>?_⟩⟩;obtain⟨b',o',bA,cA,eA,aA⟩:=hc h0;exact⟨b',o',bA,cA,Bs.ok_oz dA eA,fun i j hi hj=>let ⟨u,hu,hs⟩:=aA i j hi hj;⟨u,hu,hs.e (hf i j hi hj)⟩⟩
def CsE(ρ : List (Nat×Nat)):List Cv->List Cv->Prop
 | [],[]=>True
 | x :: r,y :: s=>CvE ρ x y/\CsE ρ r s
 | _,_=>False
theorem CsR.e{w:World}{E:En}(hN:∀i,100000<=i->E.hv i = .slice none 0 0){D D':Nat->Prop}:∀{l m:List Cv} {us:List Value},CsE ρ l m->(∀i∈m.flatMap Cv.ids,D' i)->CsR w E D l us->CsR w (E.rnm ρ τ) D' m us
 | [],[],us,_,_,h=>by cases h;exact qE.nil
 | x :: r,y :: s,us,h,hd,hx=>by
  cases hx with
  | cons h1 t=>exact qE.cons (h1.e hN h.1 (fun i hi=>hd i (by simp[hi]))) (CsR.e hN h.2 (fun i hi=>hd i (by simp at hi ⊢;exact .inr hi)) t)
 | [],_ :: _,us,h,_,_=>h.elim
 | _ :: _,[],us,h,_,_=>h.elim
def AvE(ρ : List (Nat×Nat)):Av->Av->Prop
 | .m g l,.m g' l'=>g=g'/\CsE ρ l l'
 | _,_=>False
def Av.tup:Av->Bool
 | .t _=>true
 | _=>false
theorem AvR.e{w:World}{E:En}(hN:∀i,100000<=i->E.hv i = .slice none 0 0){D D':Nat->Prop}{x y:Av}{u:Value}(h:AvE ρ x y)(ht:y.tup=false)(hd:∀i∈y.ids,D' i)(hx:AvR w E D x u):AvR w (E.rnm ρ τ) D' y u:=by
 cases y with
 | t l=>cases ht
 | m g' l'=>
  cases x with
  | t l=>exact h.elim
  | m g l=>
   obtain⟨rfl,h⟩:=h;cases g with
   | true=>obtain⟨cs,e,hc⟩:=hx;exact⟨cs,e,hc.e hN h hd⟩
   | false=>
    obtain⟨x,rfl,hc⟩:=hx
    match l',h with
    | [y],h=>exact⟨y,rfl,hc.e hN h.1 (fun i hi=>hd i (by simp[Av.ids,hi]))⟩
    | y :: z :: r,h=>exact h.2.elim
def ObE(ρ : List (Nat×Nat)):Ob->Ob->Prop
 | .var l,.var l'=>CsE ρ l l'
 | .row k n f,.row k' n' f'=>TrE (.s .o k n f) (.s .o k' n' f')
 | .dead,.dead=>True
 | .tl k n f,.tl k' n' f'=>TrE (.s .o k n f) (.s .o k' n' f')
 | _,_=>False
def Ob.ids:Ob->List Nat
 | .var l=>l.flatMap Cv.ids
 | _=>[]
theorem ObR.e{w:World}{E:En}(hN:∀i,100000<=i->E.hv i = .slice none 0 0){D D':Nat->Prop}{i:Nat}(hi:τ (sg ρ i)=i){o o':Ob}(h:ObE ρ o o')(hd:∀j∈o'.ids,D' j)(hx:ObR w E D (sg ρ i) o):ObR w (E.rnm ρ τ) D' i o':=by
 cases o<;>cases o'<;>simp only[ObE]at h
 case var.var=>
  obtain⟨hg,c,t,hh,hc⟩:=hx;exact⟨by simp only[En.rnm,hg,Bs.rnm,hi],c,t,hh,hc.e hN h hd⟩
 case row.row=>
  obtain⟨-,rfl,rfl,hf⟩:=h;obtain⟨a,cap,hv,hn,hc⟩:=hx;refine⟨a,cap,hv,hn,fun h0=>?_⟩;obtain⟨ha,hg,c,t,hh,hl,aA⟩:=hc h0;exact⟨ha,by simp only[En.rnm,hg,Bs.rnm,hi],c,t,hh,hl,fun p j hp hj=>let ⟨u,hu,hs,ht⟩:=aA p j hp hj;⟨u,hu,Sh.rnm (hs.e (hf p j hp hj)),zAb.rnm (ht.e (hf p j hp hj) hs)⟩⟩
 case dead.dead=>trivial
 case tl.tl=>
  obtain⟨-,rfl,rfl,hf⟩:=h;obtain⟨a,cap,hv,hn,hc⟩:=hx;refine⟨a,cap,hv,hn,fun h0=>?_⟩;obtain⟨ha,hg,c,t,hh,hl,aA⟩:=hc h0;exact⟨ha,by simp only[En.rnm,hg,Bs.rnm,hi],c,t,hh,hl,fun p j hp hj=>let ⟨u,hu,hs⟩:=aA p j hp hj;⟨u,hu,Sh.rnm (hs.e (hf p j hp hj))⟩⟩
end
def tmW(ρ : List (Nat×Nat))(tm:List (Nat×Bool×Av))(ob':List (Nat×Ob)):List (Nat×Bool×Av)->Prop
 | []=>True
 | q :: r=>(match get tm q.1 with
  | some x=>x.1=q.2.1/\AvE ρ x.2 q.2.2
  | none=>False)/\q.2.2.tup=false/\inD ob' q.2.2.ids=true/\tmW ρ tm ob' r
def nin(a:Nat):List Nat->Prop
 | []=>True
 | b :: r=>a≠b/\nin a r
def zCT:Ob->Nat->Prop
 | .row _ n _,i=>n=0/\100000<=i
 | _,_=>False
def bdO:List (Nat×Ob)->Prop
 | []=>True
 | q :: r=>q.1<100000/\bdO r
theorem zUm:∀{l:List (Nat×Ob)},bdO l->∀{i:Nat},100000<=i->get l i=none
 | [],_,_,_=>rfl
 | q :: r,⟨h,h'⟩,i,hi=>by
  obtain⟨a,x⟩:=q;simp only[get];rw[if_neg (fun e=>by simp only at h;omega),zUm h' hi]
def obW(ρ : List (Nat×Nat))(ob ob':List (Nat×Ob)):List (Nat×Ob)->List Nat->Prop
 | [],_=>True
 | q :: r,l=>(match get ob (sg ρ q.1)with
  | some x=>ObE ρ x q.2
  | none=>zCT q.2 (sg ρ q.1))/\inD ob' q.2.ids=true/\nin (sg ρ q.1) l/\obW ρ ob ob' r (sg ρ q.1 :: l)
def dB0(ob:List (Nat×Ob)):Bool:=(get ob 0).isSome
def hpC:Cv->Cv->List (Nat×Nat)->List (Nat×Nat)
 | .h i,.h j,r=>(j,i) :: r
 | .v _,.h j,r=>(j,100000+j) :: r
 | _,_,r=>r
def hpL:List Cv->List Cv->List (Nat×Nat)->List (Nat×Nat)
 | x :: l,y :: m,r=>hpC x y (hpL l m r)
 | _,_,r=>r
def hpA:Option (Bool×Av)->Av->List (Nat×Nat)->List (Nat×Nat)
 | some (_,.m _ l),.m _ m,r=>hpL l m r
 | _,_,r=>r
def hpV:Option Ob->Ob->List (Nat×Nat)->List (Nat×Nat)
 | some (.var l),.var m,r=>hpL l m r
 | _,_,r=>r
def hpT(tm:List (Nat×Bool×Av)):List (Nat×Bool×Av)->List (Nat×Nat)->List (Nat×Nat)
 | [],r=>r
 | q :: l,r=>hpA (get tm q.1) q.2.2 (hpT tm l r)
def hpO(ob:List (Nat×Ob)):List (Nat×Ob)->List (Nat×Nat)
 | []=>[]
 | q :: l=>hpV (get ob q.1) q.2 (hpO ob l)
def StR(ρ : List (Nat×Nat))(S S':St):Prop:=tmW ρ S.tm S'.ob S'.tm/\obW ρ S.ob S'.ob S'.ob []/\bdO S.ob/\sg ρ 0=0/\(dB0 S.ob=true->dB0 S'.ob=true)
def StW(S S':St):Prop:=StR (hpT S.tm S'.tm (hpO S.ob S'.ob)) S S'
theorem zWB{ρ : List (Nat×Nat)}{tm:List (Nat×Bool×Av)}{ob':List (Nat×Ob)}:∀{l:List (Nat×Bool×Av)},tmW ρ tm ob' l->∀q∈l,(∃x,get tm q.1=some x/\x.1=q.2.1/\AvE ρ x.2 q.2.2)/\q.2.2.tup=false/\inD ob' q.2.2.ids=true
 | [],_,q,hq=>by cases hq
 | p :: r,⟨h1,h2,h3,h4⟩,q,hq=>by
  cases hq with
  | head=>
   refine⟨?_,h2,h3⟩;cases hg:get tm p.1 with
   | none=>rw[hg]at h1;exact h1.elim
   | some x=>rw[hg]at h1;exact⟨x,rfl,h1⟩
  | tail _ hm=>exact zWB h4 q hm
theorem zVo{ρ : List (Nat×Nat)}{ob ob':List (Nat×Ob)}:∀{l:List (Nat×Ob)} {m:List Nat},obW ρ ob ob' l m->∀q∈l,((∃x,get ob (sg ρ q.1)=some x/\ObE ρ x q.2)\/zCT q.2 (sg ρ q.1))/\inD ob' q.2.ids=true
 | [],_,_,q,hq=>by cases hq
 | p :: r,m,⟨h1,h2,_,h3⟩,q,hq=>by
  cases hq with
  | head=>
   refine⟨?_,h2⟩;cases hg:get ob (sg ρ p.1)with
   | none=>rw[hg]at h1;exact .inr h1
   | some x=>rw[hg]at h1;exact .inl ⟨x,rfl,h1⟩
  | tail _ hm=>exact zVo h3 q hm
theorem zVf{a:Nat}:∀{l:List Nat},nin a l->a∉l
 | [],_=>by simp
 | b :: r,⟨h,h'⟩=>by simp[h,zVf h']
theorem zQn{ρ : List (Nat×Nat)}{ob ob':List (Nat×Ob)}:∀{l:List (Nat×Ob)} {m:List Nat},obW ρ ob ob' l m->∀q∈l,sg ρ q.1∉m
 | [],_,_,q,hq=>by cases hq
 | p :: r,m,⟨_,_,h2,h3⟩,q,hq=>by
  cases hq with
  | head=>exact zVf h2
  | tail _ hm=>exact fun h=>zQn h3 q hm (List.mem_cons_of_mem _ h)
theorem zVn{ρ : List (Nat×Nat)}{ob ob':List (Nat×Ob)}:∀{l:List (Nat×Ob)} {m:List Nat},obW ρ ob ob' l m->∀q∈l,∀q'∈l,sg ρ q.1=sg ρ q'.1->q=q'
 | [],_,_,q,hq=>by cases hq
 | p :: r,m,⟨_,_,h2,h3⟩,q,hq=>fun q' aA e=>by
  cases hq with
  | head=>cases aA with
   | head=>rfl
   | tail _ hm=>exact(zQn h3 q' hm (e▸List.mem_cons_self ..)).elim
  | tail _ hm=>cases aA with
   | head=>exact(zQn h3 q hm (e▸List.mem_cons_self ..)).elim
   | tail _ hm'=>exact zVn h3 q hm q' hm' e
theorem zYV{ob:List (Nat×Ob)}{l:List Nat}(h:inD ob l=true):∀i∈l,dom ob i:=fun i hi=>by
 unfold inD at h;rw[List.all_eq_true]at h;exact h i hi
section
variable {P : Program} {T : Tb} {Γ : List (Nat × zX)} {w0 : World} {g0 : Gh} {N n : Nat}
theorem Rel.weak{S S':St}{a:Act}{w:World}(h:Rel w0 g0 N S a w)(hw:StW S S'):Rel w0 g0 N S' a w:=by
 obtain⟨E,h⟩:=h;unfold StW at hw;generalize hpT S.tm S'.tm (hpO S.ob S'.ob) = ρ at hw;obtain⟨dA,aA,eA,fA,gA⟩:=hw;have cA:∀i,dom S.ob i->¬100000<=i:=fun i hi h=>by unfold dom at hi;rw[zUm eA h]at hi;cases hi
 obtain⟨E,hE⟩:∃E':En,E'=⟨E.g,E.bl,fun i=>if 100000<=i then .slice none 0 0 else E.hv i⟩/\zLm w0 g0 N S a w E':=by
  have hx:ql (dom S.ob) w E w ⟨E.g,E.bl,fun i=>if 100000<=i then .slice none 0 0 else E.hv i⟩:=⟨Kp.refl _ _,fun _ _=>rfl,fun i hi=>if_neg (cA i hi)⟩;exact⟨_,rfl,h.kp,fun d c av hg=>⟨fun hc=>((h.tm d c av hg).1 hc).ext hx (fun _ h=>h),(h.tm d c av hg).2⟩,fun i o hi=>ObR.ext hx (fun _ h=>h) (by unfold dom;rw[hi];rfl) (X:=fun _=>False) (fun _ _ _=>⟨rfl,rfl⟩) (fun _ _ x=>x.elim) (fun _ _ _ _ x=>x.elim) (h.ob i o hi),h.df,h.sz,h.b0⟩
 obtain⟨hE,h⟩:=hE;have hN:∀i,100000<=i->E.hv i = .slice none 0 0:=fun i hi=>by rw[hE];exact if_pos hi
 obtain⟨τ,hτ⟩:∃τ : Nat->Nat,∀q∈S'.ob,τ (sg ρ q.1)=q.1:=by
  refine⟨fun i=>@dite _ (∃q∈S'.ob,sg ρ q.1=i) (Classical.propDecidable _) (fun h=>(Classical.choose h).1) (fun _=>0),fun q hq=>?_⟩;have hx:∃q'∈S'.ob,sg ρ q'.1=sg ρ q.1:=⟨q,hq,rfl⟩;simp only[dif_pos hx];have h1:=Classical.choose_spec hx;rw[zVn aA _ h1.1 q hq h1.2]
 refine⟨E.rnm ρ τ,h.kp.rnm (τ:=τ),fun d c av hg=>?_,fun i o hi=>?_,h.df,h.sz,fun B hB=>let ⟨h1,h2⟩:=h.b0 B hB;⟨gA h1,by show E.bl (sg ρ 0)=B;rw[fA];exact h2⟩⟩
 ·obtain⟨⟨x,h1,h2,h3⟩,h4,h5⟩:=zWB dA _ (zJv hg);obtain⟨c0,bA⟩:=x;obtain⟨g1,g2⟩:=h.tm d c0 bA h1;simp only at h2;subst h2;exact⟨fun hc=>(g1 hc).e hN h3 h4 (zYV h5),g2⟩
 ·obtain⟨⟨x,h1,h2⟩ | h1,h3⟩:=zVo aA _ (zJv hi)
  ·exact(h.ob _ x h1).e hN (hτ _ (zJv hi)) h2 (zYV h3)
  ·cases o with
   | row k n f=>
    obtain⟨rfl,h1⟩:=h1;exact⟨none,0,hN _ h1,Nat.le_refl _,fun h0=>by omega⟩
   | var l=>exact h1.elim
   | dead=>exact h1.elim
   | tl k n f=>exact h1.elim
def ev(N:Nat)(T:Tb)(Γ : List (Nat×zX))(n:Nat):Code->St->(Exit->St->Prop)->Prop
 | .skip,S,K=>K .normal S
 | .region _ ops false,S,K=>runL N T Γ ops ops.toList ⟨fgt n S.tm,S.ob⟩ (K .normal)
 | .region _ ops true,S,K=>runT N T Γ ops ops.toList ⟨fgt n S.tm,S.ob⟩ [] (fun S ts=>chk ops.toList ts=true/\K .normal S)
 | .seq a b,S,K=>ev N T Γ n a S (fun e S=>match e with
  | .normal=>ev N T Γ n b S K
  | e=>K e S)
 | .cond c a b,S,K=>match opd S c with
  | some (cc,.m false [.v (.bool t)])=>cc=true/\(t=true->ev N T Γ n a S K)/\(t=false->ev N T Γ n b S K)
  | _=>False
 | .block id c,S,K=>ev N T Γ n c S (fun e S=>match e with
  | .exit i=>if i=id then K .normal S else K (.exit i) S
  | e=>K e S)
 | .loop c,S,K=>∃(I:Nat->St->Prop) (m:Nat) (S0:St),StW S S0/\I m S0/\∀m S,I m S->ev N T Γ n c S (fun e S'=>match e with
  | .normal=>∃m' S'',StW S' S''/\m'<m/\I m' S''
  | e=>K e S')
 | .exit id,S,K=>K (.exit id) S
 | .ret,S,K=>K .ret S
 | _,_,_=>False
def post(w0:World)(g0:Gh)(N:Nat)(K:Exit->St->Prop):Exit->Act->World->Prop
 | .normal,a,w=>∃S,K .normal S/\Rel w0 g0 N S a w
 | .exit i,a,w=>∃S,K (.exit i) S/\Rel w0 g0 N S a w
 | .ret,a,w=>∃S,K .ret S/\Rel w0 g0 N S a w
 | _,_,_=>False
theorem zIj(hT:zF4 P T)(hΓ : zPz P Γ w0 g0)(hm:P.follows .mixedOrders=true):∀{c:Code} {S:St} {K:Exit->St->Prop} {a:Act} {w:World},ev N T Γ n c S K->Rel w0 g0 N S a w->c.wp P (post w0 g0 N K) a w
 | .skip,S,K,a,w,h,hr=>wp_skip ⟨S,h,hr⟩
 | .region id ops false,S,K,a,w,h,hr=>wp_mono (zXK (Q:=post w0 g0 N K) hT hΓ hr h) (fun e a w hq=>by cases e<;>exact hq)
 | .region id ops true,S,K,a,w,h,hr=>wp_mono (zYF (Q:=post w0 g0 N K) hT hΓ hm hr h) (fun e a w hq=>by cases e<;>exact hq)
 | .seq x y,S,K,a,w,h,hr=>by
  refine wp_seq (wp_mono (zIj hT hΓ hm (c:=x) h hr) (fun e a w hq=>?_));cases e with
  | normal=>obtain⟨S',h1,h2⟩:=hq;exact zIj hT hΓ hm h1 h2
  | _=>exact hq
 | .cond c x y,S,K,a,w,h,hr=>by
  simp only[ev]at h;split at h
  ·rename_i cc t hc
   obtain⟨rfl,h1,h2⟩:=h;obtain⟨E,hE⟩:=hr;have h3:=(vl1 (zNb hE hc rfl)).1;exact wp_cond_split h3 (fun ht=>zIj hT hΓ hm (h1 ht) ⟨E,hE⟩) (fun ht=>zIj hT hΓ hm (h2 ht) ⟨E,hE⟩)
  ·exact h.elim
 | .block id c,S,K,a,w,h,hr=>by
  refine wp_block (wp_mono (zIj hT hΓ hm (c:=c) h hr) (fun e a w hq=>?_));cases e with
  | exit i=>
   obtain⟨S',h1,h2⟩:=hq;simp only[Exit.inBlock];simp only at h1;by_cases hi:i=id
   ·rw[if_pos hi]at h1 ⊢;exact⟨S',h1,h2⟩
   ·rw[if_neg hi]at h1 ⊢;exact⟨S',h1,h2⟩
  | _=>exact hq
 | .loop c,S,K,a,w,h,hr=>by
  obtain⟨I,m,S0,h0,h1,h2⟩:=h;have key:∀(m:Nat) (S:St) (a:Act) (w:World),I m S->Rel w0 g0 N S a w->(Code.loop c).wp P (post w0 g0 N K) a w:=by
   intro m S a w hI hR b k cs;have key:∀(m:Nat) (S:St) (a:Act) (w:World),I m S->Rel w0 g0 N S a w->∃e a' w',post w0 g0 N K e a' w'/\Arrives P (lone (b.at a (.code c :: .inLoop c :: k)) cs w) b k cs e a' w':=by
    intro m
    induction m using Nat.strongRecOn with
    | _ m ih=>
     intro S a w hI hR;obtain⟨e,a₁,w₁,hq,aA⟩:=zIj hT hΓ hm (c:=c) (h2 m S hI) hR b (.inLoop c :: k) cs;cases e with
     | normal=>
      obtain⟨S',⟨m',cA,hw,fA,dA⟩,eA⟩:=hq;obtain⟨e₂,a₂,w₂,gA,bA⟩:=ih m' fA cA a₁ w₁ dA (eA.weak hw);exact⟨e₂,a₂,w₂,gA,.of_steps (Steps.trans aA (.one step_inLoop)) bA⟩
     | exit id=>exact⟨.exit id,a₁,w₁,hq,.pass (x:=.inLoop c) rfl (fun _ _=>.inl (by simp)) aA⟩
     | goto l=>exact hq.elim
     | ret=>exact⟨.ret,a₁,w₁,hq,.pass (x:=.inLoop c) rfl (fun _ _=>.inl (by simp)) aA⟩
     | panic ch=>exact hq.elim
     | outgrown=>exact hq.elim
   obtain⟨e,a',w',hq,aA⟩:=key m S a w hI hR;exact⟨e,a',w',hq,.of_steps (.one step_loop) aA⟩
  exact key m S0 a w h1 (hr.weak h0)
 | .exit id,S,K,a,w,h,hr=>wp_exit ⟨S,h,hr⟩
 | .ret,S,K,a,w,h,hr=>wp_ret ⟨S,h,hr⟩
 | .rangeFunc ..,S,K,a,w,h,hr=>h.elim
 | .scope ..,S,K,a,w,h,hr=>h.elim
 | .label ..,S,K,a,w,h,hr=>h.elim
 | .goto ..,S,K,a,w,h,hr=>h.elim
 | .refuse ..,S,K,a,w,h,hr=>h.elim
end
end Go.Proofs.YtjganmlaooofoaaGreatDoor
