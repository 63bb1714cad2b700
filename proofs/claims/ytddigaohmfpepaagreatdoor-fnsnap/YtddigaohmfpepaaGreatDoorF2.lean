/- A part of the proof. -/
import Derived.Test.YtddigaohmfpepaaGreatDoorF1
set_option linter.unusedVariables false
set_option maxRecDepth 20000
set_option maxHeartbeats 4000000
namespace Go.Proofs.YtddigaohmfpepaaGreatDoor
open Go.RowKit
def zc(d:TyD)(n:Nat):List Cv:=(List.range (n*d.k)).map (fun q=>.v (d.z.getD (q % d.k) (.bool false)))
section
variable {P : Program} {t : Nat} {d de : TyD}
theorem BA.zget(h:BA P t d)(q:Nat):d.z.toArray[q % d.z.toArray.size]! = d.z.getD (q % d.k) (.bool false)/\(d.z.getD (q % d.k) (.bool false)).oneCell'=true:=by
 have f:=h.pos;have e:=h.len;have g:=Nat.mod_lt q f;have b:d.z.toArray.size=d.k:=by simpa using e
 rw[b];have c:d.z.toArray[q % d.k]! = d.z[q % d.k]:=by rw[getElem!_pos d.z.toArray (q % d.k) (by omega)];simp
 have a:d.z.getD (q % d.k) (.bool false)=d.z[q % d.k]:=by rw[List.getD_eq_getElem?_getD,List.getElem?_eq_getElem (by omega)];rfl
 refine⟨c.trans a.symm,?_⟩;rw[a];exact List.all_eq_true.1 h.one _ (List.getElem_mem _)
variable{w:World}{E:En}{D:Nat->Prop}
theorem BA.zcs(h:BA P t d)(m:Nat):CsR w E D ((List.range m).map (fun q=>.v (d.z.getD (q % d.k) (.bool false)))) ((List.range m).map (fun q=>d.z.toArray[q % d.z.toArray.size]!)):=by
 refine AR.of (by simp) (fun j x y b c=>?_);simp only[List.getElem?_map,Option.map_eq_some_iff]at b c;obtain⟨q,g,rfl⟩:=b;obtain⟨i,a,rfl⟩:=c;rw[g]at a;cases a;obtain⟨e,f⟩:=h.zget q;exact⟨e,f⟩
def evMakeSlice(de:TyD)(ob:List (Nat×Ob))(i:Nat)(l:Int):Option (List (Nat×Ob)):=
 match get ob i with
 | none=>some (put ob i (.row de.k l.toNat (fun _ q=>.v (de.z.getD q (.bool false)))))
 | some _=>none
variable{k j:Nat}
theorem T4{p:Nat}(h:j<k):(p*k+j) % k=j:=by
 rw[Nat.add_comm,Nat.add_mul_mod_self_right,Nat.mod_eq_of_lt h]
variable{ob ob':List (Nat×Ob)}{i:Nat}
theorem zD1(h:BA P t d)(J:d.el≠0)(o:BA P d.el de)(K:AU w E ob){kl kc:IntKind}{l:Int}(x:0<=l)(G:l<=1000000)(a:evMakeSlice de ob i l=some ob') :
 ∃z w' e,(Instr.makeSlice t (.int kl l) (.int kc l)).run P w = .ok z w'/\AX (dom ob) w E w' e/\(∀j,dom ob j->dom ob' j)/\AU w' e ob'/\AvR w' e (dom ob') (.m false [.h i]) z:=by
 unfold evMakeSlice at a;split at a
 ·rename_i hi
  cases a;obtain⟨b,g,s,M,I⟩:=o.get;have L:=o.CG;have H:(b.bytes:Int)*l<=281474976710656:=by
   have:=Int.mul_le_mul (show(b.bytes:Int)<=1024 by omega) G x (by omega);omega
  have A:=run_make (P:=P) w t d.el b _ (h.slice J) g M kl kc l l x (Int.le_refl _) H (by omega);have r:madeCells de.zv.cells (l.toNat*b.size)=((List.range (l.toNat*de.k)).map (fun q=>de.z.toArray[q % de.z.toArray.size]!)).toArray:=by
   unfold madeCells;rw[s,o.zcells];apply Array.ext';simp[Array.toList_range]
  rw[r]at A;obtain⟨e,C,D,F⟩:=T5 K hi (k:=de.k) (n:=l.toNat) (cap:=l.toNat) (f:=fun _ q=>.v (de.z.getD q (.bool false))) (cs:=(List.range (l.toNat*de.k)).map (fun q=>de.z.toArray[q % de.z.toArray.size]!)) (Nat.le_refl _) (by simp) (fun p j y c=>by
   obtain⟨B,u⟩:=o.zget (p*de.k+j);refine⟨de.z.toArray[(p*de.k+j) % de.z.toArray.size]!,?_,?_,fun _ _=>trivial⟩
   ·rw[List.getElem?_map,List.getElem?_range (Fb y c)];rfl
   ·rw[B,T4 c];rw[T4 c]at u;exact⟨rfl,u⟩) (fun p j y c N O f' h=>by cases h) d.el
  exact⟨_,_,e,A,C,fun j c=>BT c,D,F⟩
 ·cases a
def evBuildSlice(de:TyD)(ob:List (Nat×Ob))(i len:Nat)(ps:List (Nat×List Cv)):Option (List (Nat×Ob)):=
 match get ob i,(fillC (fun x=>some (x*de.k,de.k)) (zc de len) ps).bind trs with
 | none,some ts=>if len*de.k<=1000 then some (put ob i (.row de.k len (fun p q=>ts.getD (p*de.k+q) (.v (.bool false)))))else none
 | _,_=>none
theorem XP{C9:Nat->Option (Nat×Nat)}:∀{ps:List (Nat×List Cv)} {c c':List Cv},fillC C9 c ps=some c'->c'.length=c.length
 | [],c,c',h=>by cases h;rfl
 | (f,l) :: r,c,c',h=>by
  simp only[fillC]at h;split at h
  ·split at h
   ·rename_i a
    rw[XP h];simp;omega
   ·cases h
  ·cases h
variable{ps:List (Nat×List Cv)}{vs:List (Nat×Value)}
theorem zD7(h:BA P t d)(he:d.el≠0)(F:BA P d.el de)(ho:AU w E ob){len:Nat}
 (I:AR (fun (p:Nat×List Cv) (q:Nat×Value)=>p.1=q.1/\CsR w E (dom ob) p.2 q.2.cells.toList) ps vs) (a:evBuildSlice de ob i len ps=some ob') :
 ∃z w' C,(Instr.buildSlice t len vs.toArray).run P w = .ok z w'/\AX (dom ob) w E w' C/\(∀j,dom ob j->dom ob' j)/\AU w' C ob'/\AvR w' C (dom ob') (.m false [.h i]) z:=by
 unfold evBuildSlice at a;split at a
 ·rename_i ts hi hb
  rw[Option.bind_eq_some_iff]at hb;obtain⟨c,U,K⟩:=hb;split at a
  ·rename_i bA
   cases a;obtain⟨cs,R,S⟩:=QF I (F.zcs (w:=w) (E:=E) (D:=dom ob) (len*de.k)) U;have M:=P7 K S;have H:cs.length=len*de.k:=by
    have:=S.length;have:=XP U;simp[zc]at this;omega
   have J:(Instr.buildSlice t len vs.toArray).run P w = .ok (.slice (some ⟨w.heap.size,0,none⟩) len len) (w.alloc (.cells cs.toArray d.el)):=by
    have V:=F.pos;have Q:((Array.range (len*de.k)).map (de.zv.cells[· % de.zv.cells.size]!))=((List.range (len*de.k)).map (fun q=>de.z.toArray[q % de.z.toArray.size]!)).toArray:=by
     rw[F.zcells];apply Array.ext';simp[Array.toList_range]
    unfold Instr.buildSlice;simp only[Sem.run_bind,run_underlying (h.slice he),Result.andThen_ok,F.run_size];by_cases L:len*de.k=0
    ·have b:Instr.fill (fun i=>some (i*de.k,de.k)) (Array.map (fun x=>(#[]:Array Value)[x % (#[]:Array Value).size]!) (Array.range (len*de.k))) vs=some cs.toArray:=by
      rw[<-R,L];have e:(Array.map (fun x=>(#[]:Array Value)[x % (#[]:Array Value).size]!) (Array.range 0))=(List.map (fun q=>de.z.toArray[q % de.z.toArray.size]!) (List.range 0)).toArray:=(by apply Array.ext';simp[Array.toList_range]);rw[e]
     rw[L]at b ⊢;simp at b;simp[b,newRow]
    ·have b:Instr.fill (fun i=>some (i*de.k,de.k)) (Array.map (fun x=>de.zv.cells[x % de.zv.cells.size]!) (Array.range (len*de.k))) vs=some cs.toArray:=(by rw[Q];exact R);have y:¬(16777216<len*de.k):=(by omega);simp[L,y,F.run_zero,b,newRow]
   obtain⟨C,W,X,Y⟩:=T5 ho hi (k:=de.k) (n:=len) (cap:=len) (f:=fun p q=>ts.getD (p*de.k+q) (.v (.bool false))) (cs:=cs) (Nat.le_refl _) H (fun p j I G=>by
    have:=Fb I G;have O:=M.length;have y:ts[p*de.k+j]?=some ts[p*de.k+j]:=List.getElem?_eq_getElem (by omega);obtain⟨u,hu,hs,ht⟩:=M.at y;have Z:ts.getD (p*de.k+j) (.v (.bool false))=ts[p*de.k+j]:=(by rw[List.getD_eq_getElem?_getD,y];rfl);rw[Z];exact⟨u,hu,hs,ht⟩) (fun p j I G A B f' e=>by
    have:=Fb I G;have O:=M.length;have y:ts[p*de.k+j]?=some (.s .o A B f'):=by
     rw[<-e];rw[List.getD_eq_getElem?_getD,List.getElem?_eq_getElem (by omega)];rfl
    have:∀{l:List Cv} {m:List Tr},trs l=some m->∀T∈m,∀A B f',T≠.s .o A B f':=by
     intro l
     induction l with
     | nil=>intro m g T N;cases g;cases N
     | cons x r ih=>
      intro m g T N A B f';simp only[trs]at g;split at g
      ·rename_i T' l' hT' hl'
       cases g;cases N with
       | head=>
        intro e;subst e;cases x with
        | v x=>cases hT'
        | s fl k n f=>cases fl<;>cases hT'
        | _=>cases hT'
       | tail _ g=>exact ih hl' T g A B f'
      ·cases g
    exact this K _ (List.mem_of_getElem? y) A B f' rfl) d.el
   exact⟨_,_,C,J,W,fun j G=>BT G,X,Y⟩
  ·cases a
 ·cases a
theorem AX.trans{D':Nat->Prop}{w1 w2:World}{E1 E2:En}(h:AX D w E w1 E1)(a:AX D' w1 E1 w2 E2)(b:∀j,D j->D' j):AX D w E w2 E2:=
 ⟨h.kp.trans a.kp,fun i hi=>(a.bl i (b i hi)).trans (h.bl i hi),fun i hi=>(a.hv i (b i hi)).trans (h.hv i hi)⟩
variable{r n:Nat}{f:Nat->Nat->Tr}
theorem zG9(e:AU w E ob)(h:rowE ob r=some (k,n,f)):∃a,AX (dom ob) w E w a/\AU w a (put ob r .dead)/\Sh w a.g (.s .z k n f) (E.hv r):=by
 obtain⟨a,-,-,-,b,c,d,-,-⟩:=qM e h (s:=.fz none) (.inl rfl);exact⟨a,b,c,d⟩
def frz1(ob:List (Nat×Ob)):Cv->Cv×List (Nat×Ob)
 | .h r=>match rowE ob r with
  | some (k,n,f)=>(.s .z k n f,put ob r .dead)
  | none=>(.h r,ob)
 | x=>(x,ob)
def frz:List Cv->List (Nat×Ob)->List Cv×List (Nat×Ob)
 | [],ob=>([],ob)
 | x :: l,ob=>((frz1 ob x).1 :: (frz l (frz1 ob x).2).1,(frz l (frz1 ob x).2).2)
def Ek:List (Nat×List Cv)->List (Nat×Ob)->List (Nat×List Cv)×List (Nat×Ob)
 | [],ob=>([],ob)
 | x :: l,ob=>((x.1,(frz x.2 ob).1) :: (Ek l (frz x.2 ob).2).1,(Ek l (frz x.2 ob).2).2)
theorem zEe(a:dom ob r)(j:Nat):dom ob j↔dom (put ob r .dead) j:=by
 refine⟨fun h=>BT h,fun h=>?_⟩;unfold dom at *;rw[BD]at h;split at h
 ·rename_i e;exact e▸a
 ·exact h
variable{x:Cv}
theorem zGA(c:AU w E ob){u:Value}(b:CvR w E (dom ob) x u) :
 ∃a,AX (dom ob) w E w a/\AU w a (frz1 ob x).2/\CvR w a (dom (frz1 ob x).2) (frz1 ob x).1 u/\∀j,dom ob j↔dom (frz1 ob x).2 j:=by
 cases x with
 | h r=>
  simp only[frz1];split
  ·rename_i k n f hr
   obtain⟨a,d,e,g⟩:=zG9 c hr;refine⟨a,d,e,?_,zEe b.1⟩;rw[b.2.1];exact g
  ·exact⟨E,AX.refl _ _ _,c,b,fun _=>Iff.rfl⟩
 | _=>exact⟨E,AX.refl _ _ _,c,b,fun _=>Iff.rfl⟩
theorem LQ{w:World}:∀{l:List Cv} {us:List Value} {E:En} {ob:List (Nat×Ob)},AU w E ob->CsR w E (dom ob) l us->
 ∃b,AX (dom ob) w E w b/\AU w b (frz l ob).2/\CsR w b (dom (frz l ob).2) (frz l ob).1 us/\∀j,dom ob j↔dom (frz l ob).2 j
 | [],us,E,ob,ho,h=>⟨E,AX.refl _ _ _,ho,h,fun _=>Iff.rfl⟩
 | x :: l,us,E,ob,ho,h=>by
  cases h with
  | cons hx ht=>
   obtain⟨o,d,i,k,c⟩:=zGA ho hx;obtain⟨g,e,m,n,f⟩:=LQ (l:=l) i (CsR.ext d (fun j a=>(c j).1 a) ht);exact⟨g,d.trans e (fun j a=>(c j).1 a),m,AR.cons (k.ext e (fun j a=>(f j).1 a)) n,fun j=>(c j).trans (f j)⟩
theorem Ts{w:World}:∀{l:List (Nat×List Cv)} {us:List (Nat×Value)} {E:En} {ob:List (Nat×Ob)},AU w E ob->AR (fun (p:Nat×List Cv) (q:Nat×Value)=>p.1=q.1/\CsR w E (dom ob) p.2 q.2.cells.toList) l us->
 ∃b,AX (dom ob) w E w b/\AU w b (Ek l ob).2/\AR (fun (p:Nat×List Cv) (q:Nat×Value)=>p.1=q.1/\CsR w b (dom (Ek l ob).2) p.2 q.2.cells.toList) (Ek l ob).1 us/\∀j,dom ob j↔dom (Ek l ob).2 j
 | [],us,E,ob,ho,h=>by cases h;exact⟨E,AX.refl _ _ _,ho,.nil,fun _=>Iff.rfl⟩
 | x :: l,us,E,ob,ho,h=>by
  cases h with
  | cons hx ht=>
   obtain⟨i,e,m,n,c⟩:=LQ ho hx.2;have d:∀{l:List (Nat×List Cv)} {us:List (Nat×Value)},AR (fun (p:Nat×List Cv) (q:Nat×Value)=>p.1=q.1/\CsR w E (dom ob) p.2 q.2.cells.toList) l us->AR (fun (p:Nat×List Cv) (q:Nat×Value)=>p.1=q.1/\CsR w i (dom (frz x.2 ob).2) p.2 q.2.cells.toList) l us:=fun h=>by
    induction h with
    | nil=>exact .nil
    | cons h _ ih=>exact .cons ⟨h.1,CsR.ext e (fun j a=>(c j).1 a) h.2⟩ ih
   obtain⟨k,f,o,r,g⟩:=Ts (l:=l) m (d ht);exact⟨k,e.trans f (fun j a=>(c j).1 a),o,.cons ⟨hx.1,CsR.ext f (fun j a=>(g j).1 a) n⟩ r,fun j=>(c j).trans (g j)⟩
def MF(de:TyD)(ob:List (Nat×Ob))(i len:Nat)(ps:List (Nat×List Cv)):Option (List (Nat×Ob)):=evBuildSlice de (Ek ps ob).2 i len (Ek ps ob).1
theorem zCv(h:BA P t d)(v:d.el≠0)(u:BA P d.el de)(x:AU w E ob){len:Nat}
 (y:AR (fun (p:Nat×List Cv) (q:Nat×Value)=>p.1=q.1/\CsR w E (dom ob) p.2 q.2.cells.toList) ps vs) (b:MF de ob i len ps=some ob') :
 ∃z w' a,(Instr.buildSlice t len vs.toArray).run P w = .ok z w'/\AX (dom ob) w E w' a/\(∀j,dom ob j->dom ob' j)/\AU w' a ob'/\AvR w' a (dom ob') (.m false [.h i]) z:=by
 obtain⟨A,f,g,k,e⟩:=Ts x y;obtain⟨z,w',a,l,n,o,r,s⟩:=zD7 h v u g k b;exact⟨z,w',a,l,f.trans n (fun j c=>(e j).1 c),fun j c=>o j ((e j).1 c),r,s⟩
def evLen(ob:List (Nat×Ob)):Cv->Option Nat
 | .s _ _ n _=>some n
 | .h i=>match rowE ob i with
  | some q=>some q.2.1
  | none=>none
 | .hs _ _ _ n=>some n
 | .v (.slice none 0 0)=>some 0
 | _=>none
variable{y:Value}
theorem zEi(h:BA P t d)(i:d.el≠0)(j:AU w E ob)(b:evLen ob x=some n)(g:CvR w E (dom ob) x y)(ty:Nat) :
 (Builtin.len_ #[t] ty #[y]).run P w = .ok (.int .i64 n) w:=by
 have:∃a c,y = .slice a n c:=by
  unfold evLen at b;split at b
  ·cases b;obtain⟨a,c,e,_⟩:=g;exact⟨a,c,e⟩
  ·split at b
   ·rename_i q hi
    obtain⟨k,m,f⟩:=q;cases b;obtain⟨_,a,c,e,_⟩:=Kd j hi;exact⟨a,c,g.2.1.trans e⟩
   ·cases b
  ·cases b;obtain⟨_,a,c,e,_⟩:=g;exact⟨a,c,e⟩
  ·cases b;exact⟨none,0,g.1⟩
  ·cases b
 obtain⟨a,c,rfl⟩:=this;simp[Builtin.len_,run_underlying (h.slice i),goInt]
def oOf:Tr->Option (Nat×Nat×(Nat->Nat->Tr))
 | .s .o k n f=>some (k,n,f)
 | _=>none
theorem zII{T:Tr}(h:oOf T=some (k,n,f)):T = .s .o k n f:=by
 cases T with
 | v x=>cases h
 | s fl k n f=>cases fl<;>cases h;rfl
def evTake(ob:List (Nat×Ob))(r:Nat):Cv->Option (Prop×List (Nat×Ob))
 | .e i k a j=>match get ob i,get ob r with
  | some (.row k' n F),none=>match oOf (F a j)with
   | some (kk,m,h)=>if k'=k/\j+1<=k then some (a<n,put (put ob i (.row k n (Ae F a j [.s .z kk m h]))) r (.tl kk m h))else none
   | none=>none
  | _,_=>none
 | _=>none
theorem zGj{p q a:Nat}(e:q<k)(d:j<k)(h:p*k+q=a*k+j):p=a/\q=j:=by
 have c:p=a:=by
  rcases Nat.lt_trichotomy p a with b | b | b
  ·have:=Nat.mul_le_mul_right k (show p+1<=a from b);rw[Nat.add_mul,Nat.one_mul]at this;omega
  ·exact b
  ·have:=Nat.mul_le_mul_right k (show a+1<=p from b);rw[Nat.add_mul,Nat.one_mul]at this;omega
 subst c;exact⟨rfl,by omega⟩
theorem zd(h:BA P t d)(lB:d.k=1)(jB:d.g=false)(ho:AU w E ob){c:Prop}(K:evTake ob r x=some (c,ob'))(hc:c)(hy:CvR w E (dom ob) x y) :
 ∃z E',(Instr.loadAt t y).run P w = .ok z w/\AX (dom ob) w E w E'/\(∀j,dom ob j->dom ob' j)/\AU w E' ob'/\AvR w E' (dom ob') (.m false [.h r]) z:=by
 cases x with
 | e i k a j=>
  simp only[evTake]at K;split at K
  ·rename_i k' n F hi hr
   split at K
   ·rename_i R m f hT
    split at K
    ·rename_i iA
     cases K;obtain⟨rfl,iA⟩:=iA;replace hT:=zII hT;obtain⟨-,rfl⟩:=hy;obtain⟨a',cap,hv,hn,jA⟩:=ho i _ hi;obtain⟨bA,hg,cs,T,hh,hl,B⟩:=jA (by omega);obtain⟨u,hu,lA,nA⟩:=B a j hc (by omega);rw[hT]at lA nA;obtain⟨Z,J,rfl,fB⟩:=nA;obtain⟨a3,c3,e3,hm,kA⟩:=lA;cases e3;have Q:(Instr.loadAt t (.pointer (some ⟨E.bl i,a*k'+j,none⟩))).run P w = .ok (.slice Z m J) w:=by
      have:=h.run_load (w:=w) (b:=E.bl i) (o:=a*k'+j) (cs:=[.slice Z m J]) (by simp[lB]) (fun q v A=>by
       have:q=0:=by
        have:=(List.getElem?_eq_some_iff.1 A).1;simpa using this
       subst this;simp at A;subst A;rw[cell_of_row w _ _ _ T _ hh];simpa using hu)
      rw[jB]at this;simpa using this
     have iB:dom ob i:=(by unfold dom;rw[hi];rfl);have M:∀q,dom ob q->q≠r:=fun q A e=>by unfold dom at A;rw[e,hr]at A;cases A
     have I:i≠r:=M i iB;rcases Nat.eq_zero_or_pos J with e0 | e0
     ·have em:m=0:=(by omega);subst em;have hx:AX (dom ob) w E w ⟨E.g,E.bl,fun q=>if q=r then .slice Z 0 J else E.hv q⟩:=⟨Kp.refl _ _,fun _ _=>rfl,fun q A=>if_neg (M q A)⟩;refine⟨_,⟨E.g,E.bl,fun q=>if q=r then .slice Z 0 J else E.hv q⟩,Q,hx,fun q A=>BT (BT A),fun q o A=>?_,.h r,rfl,by unfold dom;rw[BD,if_pos rfl];rfl,by simp,rfl⟩;rw[BD,BD]at A;by_cases e:r=q
      ·rw[if_pos e]at A;cases A;subst e;exact⟨Z,J,by simp,by omega,fun O=>by omega⟩
      ·rw[if_neg e]at A;by_cases N:i=q
       ·rw[if_pos N]at A;cases A;subst N;refine⟨a',cap,by simp[I];exact hv,hn,fun O=>⟨bA,hg,cs,T,hh,hl,fun p q V A=>?_⟩⟩;obtain⟨u,C,W,Y⟩:=B p q V A;by_cases H:p=a/\j<=q/\q<j+1
        ·obtain⟨rfl,h3,h4⟩:=H;cases (show q=j by omega);rw[hu]at C;cases C;rw[show Ae F p j [.s .z R 0 f] p j = .s .z R 0 f by unfold Ae;rw[if_pos ⟨rfl,h3,h4⟩];simp];exact⟨_,hu,⟨Z,J,rfl,by omega,fun O=>by omega⟩,trivial⟩
        ·rw[show Ae F a j [.s .z R 0 f] p q=F p q by unfold Ae;rw[if_neg (by simpa using H)]];exact⟨u,C,W,Y⟩
       ·rw[if_neg N]at A;exact ObR.ext hx (fun q A=>BT (BT A)) (by unfold dom;rw[A];rfl) (X:=fun _=>False) (fun _ _ _=>⟨rfl,rfl⟩) (fun _ _ x=>x.elim) (fun _ _ _ _ x=>x.elim) (ho q o A)
     ·obtain⟨b,rfl,D,cc,tt,gA,mA⟩:=fB e0;have hk:Kp w E.g w (fun q=>if q=b then .ow (.nm r) (m*R)else E.g q):=by
       refine⟨rfl,rfl,rfl,Nat.le_refl _,fun q x S _=>⟨rfl,?_⟩,fun q o l S _=>⟨fun _ _=>rfl,.inl ?_⟩⟩
       ·rw[if_neg (fun e=>by rw[e,D]at S;cases S)];exact S
       ·by_cases e:q=b
        ·rw[e,D]at S;cases S;exact⟨_,_,if_pos e,Nat.le_refl _⟩
        ·exact⟨o,l,by rw[if_neg e];exact S,Nat.le_refl _⟩
      have hx:AX (dom ob) w E w ⟨fun q=>if q=b then .ow (.nm r) (m*R)else E.g q,fun q=>if q=r then b else E.bl q,fun q=>if q=r then .slice (some ⟨b,0,none⟩) m J else E.hv q⟩:=⟨hk,fun q A=>if_neg (M q A),fun q A=>if_neg (M q A)⟩;have eB:E.bl i≠b:=fun e=>by rw[e,D]at hg;cases hg
      refine⟨_,_,Q,hx,fun q A=>BT (BT A),fun q o A=>?_,.h r,rfl,by unfold dom;rw[BD,if_pos rfl];rfl,by simp,rfl⟩;rw[BD,BD]at A;by_cases e:r=q
      ·rw[if_pos e]at A;cases A;subst e;refine⟨some ⟨b,0,none⟩,J,by simp,hm,fun O=>⟨by simp,by simp,cc.toList,tt,by simpa using gA,by simpa using mA,fun p q V A=>?_⟩⟩;obtain⟨b',o',e4,cA,nB,U⟩:=kA (by omega);cases e4;obtain⟨v,pA,oB⟩:=U p q V A;refine⟨v,?_,oB.kp hk⟩;rw[Nat.zero_add,cell_of_row w _ _ _ tt _ gA]at pA;simpa using pA
      ·rw[if_neg e]at A;by_cases N:i=q
       ·rw[if_pos N]at A;cases A;subst N;refine⟨a',cap,by simp[I];exact hv,hn,fun O=>⟨by simp[I];exact bA,by simp[I,eB];exact hg,cs,T,by simp[I];exact hh,hl,fun p q V A=>?_⟩⟩;obtain⟨u,C,W,Y⟩:=B p q V A;by_cases H:p=a/\j<=q/\q<j+1
        ·obtain⟨rfl,h3,h4⟩:=H;cases (show q=j by omega);rw[hu]at C;cases C;rw[show Ae F p j [.s .z R m f] p j = .s .z R m f by unfold Ae;rw[if_pos ⟨rfl,h3,h4⟩];simp];refine⟨_,hu,⟨_,J,rfl,hm,fun O=>?_⟩,trivial⟩;obtain⟨b',o',e4,cA,nB,U⟩:=kA O;cases e4;refine⟨b,0,rfl,cA,by simp[Bs.ok],fun p q V A=>let ⟨v,hv,hs⟩:=U p q V A;⟨v,hv,hs.kp hk⟩⟩
        ·rw[show Ae F a j [.s .z R m f] p q=F p q by unfold Ae;rw[if_neg (by simpa using H)]];refine⟨u,C,W.kp hk,?_⟩;simp only[if_neg I];revert Y;cases F p q with
         | v x=>exact id
         | s fl k2 n2 f2=>
          cases fl with
          | b=>exact id
          | z=>exact id
          | o=>
           rintro⟨a4,c4,rfl,gB⟩;refine⟨a4,c4,rfl,fun O=>?_⟩;obtain⟨b4,e4,L,dA⟩:=gB O;refine⟨b4,e4,?_,dA⟩;show(if b4=b then _ else _)=_;rw[if_neg ?_]
           ·exact L
           ·intro e;rw[e,D]at L;simp only[Bs.ow.injEq,Ow.tl.injEq,true_and]at L;obtain⟨rfl,rfl⟩:=zGj A (by omega) L.1.symm;exact H ⟨rfl,Nat.le_refl _,by omega⟩
       ·rw[if_neg N]at A;refine ObR.ext hx (fun q A=>BT (BT A)) (by unfold dom;rw[A];rfl) (X:=fun z=>z=b) (fun z _ hz=>⟨rfl,if_neg hz⟩) (fun z l hz G=>?_) (fun fA z j' l hz G=>?_) (ho q o A)
        ·rw[hz,D]at G;cases G
        ·rw[hz,D]at G;simp only[Bs.ow.injEq,Ow.tl.injEq]at G;rw[<-G.1.1,hg]at fA;cases fA;exact N rfl
    ·cases K
   ·cases K
  ·cases K
 | _=>cases K
end
section
variable {P : Program} {t : Nat} {d de : TyD}
variable{w:World}{n cap b o m c':Nat}{c:List Value}
theorem V6(h:BA P t d)(x:d.el≠0)(r:BA P d.el de){B:Nat}{T:TypeId}(y:w.heap[B]?=some (.cells c.toArray T (0,0)))(v:c.length=cap*de.k){a:List Value}
 (q:a.length=m*de.k) (f:∀(j:Nat) u,a[j]?=some u->w.cell? ⟨b,o+j,none⟩=some u) (s:∀u∈a,u.oneCell'=true) (e:n+m<=cap) (ty:Nat) :
 (Builtin.append_ #[t,t] ty #[.slice (some ⟨B,0,none⟩) n cap,.slice (some ⟨b,o,none⟩) m c']).run P w = .ok (.slice (some ⟨B,0,none⟩) (n+m) cap) (w.setRow B (c.take (n*de.k) ++ a ++ c.drop (n*de.k+a.length)).toArray):=by
 obtain⟨i,hi,hs,C,A⟩:=r.get;have g:n*de.k+a.length<=c.length:=by
  rw[q,v,<-Nat.add_mul];exact Nat.mul_le_mul_right _ e
 have p:=run_firstCells_some (P:=P) w i.size m ⟨b,o,none⟩ m c' a (by rw[hs];exact q) (fun j u z=>by rw[Gc];exact f j u z);have l:=run_storeCells_at P B (n*de.k) T a 0 c.toArray w y (by simpa using g) s;simp only[Nat.add_zero]at l;rw[hs]at p;simp[Builtin.append_,run_underlying (h.slice x),sizeOf,typeInfo,hi,hs,Builtin.lenOf,e,p,Gc,l]
variable{a:Option Addr}
theorem Nt(h:BA P t d)(c:d.el≠0)(e:BA P d.el de){a':Option Addr}(hn:n<=cap)(ty:Nat) :
 (Builtin.append_ #[t,t] ty #[.slice a n cap,.slice a' 0 c']).run P w = .ok (.slice a n cap) w:=by
 obtain⟨i,hi,hs,g,f⟩:=e.get;cases a' with
 | none=>cases a<;>simp[Builtin.append_,run_underlying (h.slice c),sizeOf,typeInfo,hi,Builtin.lenOf,hn,Builtin.firstCells,storeCells]
 | some b=>cases a<;>simp[Builtin.append_,run_underlying (h.slice c),sizeOf,typeInfo,hi,Builtin.lenOf,hn,Builtin.firstCells,loadCells,loadCellsFrom,storeCells]
theorem QQ(h:BA P t d)(F:d.el≠0)(s:BA P d.el de){olds:List Value}(D:olds.length=n*de.k)(holds:0<n->∃B,a=some ⟨B,0,none⟩/\∀(j:Nat) u,olds[j]?=some u->w.cell? ⟨B,j,none⟩=some u)
 (I:c.length=m*de.k) (g:∀(j:Nat) u,c[j]?=some u->w.cell? ⟨b,o+j,none⟩=some u) (hn:n<=cap) (G:cap<n+m) (q:n+m<=1000000000) (ty:Nat) :
 ∃f rest,n+m<=f/\rest.length=(f - (n+m))*de.k/\
  (Builtin.append_ #[t,t] ty #[.slice a n cap,.slice (some ⟨b,o,none⟩) m c']).run P w = .ok (.slice (some ⟨w.heap.size,0,none⟩) (n+m) f) (w.drew.alloc (.cells (olds ++ c ++ rest).toArray d.el)):=by
 obtain⟨i,hi,hs,J,O⟩:=s.get;have N:=s.CG;have l:=growslice_fits G (show(n+m)*i.bytes<=140737488355328 by
  have:=Nat.mul_le_mul q (show i.bytes<=1024 by omega);omega)
 have r:de.zv.cells.size=de.k:=by rw[s.zcells];simpa using s.len
 cases a with
 | none=>
  have C:n=0:=by
   rcases Nat.eq_zero_or_pos n with e | e
   ·exact e
   ·obtain⟨B,K,_⟩:=holds e;cases K
  subst C;have p:olds = []:=(by simpa using D);subst p;simp only[Nat.zero_add]at *;refine⟨grownCap w m cap d.el,(Builtin.zeroCells de.zv.cells (grownCap w m cap d.el - m)).toList,grownCap_ge _ _ _ _,by rw[Array.length_toList,size_zeroCells,r],?_⟩;have x:=run_firstCells_some (P:=P) w.drew i.size m ⟨b,o,none⟩ m c' c (by rw[hs];exact I) (fun j u E=>by rw[Gc];simpa using g j u E);rw[hs]at x;have hn:¬(m<=cap):=(by omega);have y:¬(281474976710656<Builtin.nextslicecap m cap*i.bytes):=(by omega);have z:¬(9223372036854775807<(m:Int)):=(by omega);simp[Builtin.append_,run_underlying (h.slice F),sizeOf,typeInfo,zeroValue,hi,hs,J,Builtin.lenOf,hn,z,y,Question.forced,run_firstCells_none,x,newRow,grownCap];congr 2;apply Array.ext';simp
 | some A=>
  have x:=run_append_grow (P:=P) w t ty d.el i de.zv (h.slice F) hi J A n cap olds (by rw[hs];exact D) (fun j v H=>by
   have L:0<n:=by
    rcases Nat.eq_zero_or_pos n with e | e
    ·subst e;have p:olds = []:=(by simpa using D);subst p;simp at H
    ·exact e
   obtain⟨B,e,M⟩:=holds L;cases e;rw[Gc,Nat.zero_add];exact M j v H) ⟨b,o,none⟩ m c' c (by rw[hs];exact I) (fun j u E=>by rw[Gc];exact g j u E) G (by omega) l
  refine⟨grownCap w (n+m) cap d.el,(Builtin.zeroCells de.zv.cells (grownCap w (n+m) cap d.el - (n+m))).toList,grownCap_ge _ _ _ _,by rw[Array.length_toList,size_zeroCells,r],?_⟩;rw[x];congr 3;apply Array.ext';simp
end
def Tr.nt:Tr->Tr
 | .s .o k n f=>.s .z k n f
 | T=>T
variable{w:World}{g:Nat->Bs}{T:Tr}{u:Value}
theorem Sh.nt(h:Sh w g T u):Sh w g T.nt u:=by
 cases T with
 | v x=>exact h
 | s fl k n f=>
  cases fl with
  | b=>exact h
  | z=>exact h
  | o=>exact Sh.cv (E:=⟨g,fun _=>0,fun _=>.bool false⟩) (D:=fun _=>True) h
variable{B j:Nat}
theorem Tr.nt_tail:CM w g B j T.nt u:=by
 cases T with
 | v x=>trivial
 | s fl k n f=>cases fl<;>trivial
def srcOf(k:Nat)(ob:List (Nat×Ob)):Cv->Option (Prop×Nat×(Nat->Nat->Tr))
 | .s _ k' n f=>if k'=k then some (True,n,fun p q=>(f p q).nt)else none
 | .h i=>match rowE ob i with
  | some (k',n,f)=>if k'=k then some (True,n,fun p q=>(f p q).nt)else none
  | none=>none
 | .hs i k' lo m=>match rowE ob i with
  | some (k2,n,f)=>if k'=k/\k2=k then some (lo+m<=n,m,fun p q=>(f (lo+p) q).nt)else none
  | none=>none
 | .v (.slice none 0 0)=>some (True,0,fun _ _=>.v (.bool false))
 | _=>none
def ZW(w:World)(g:Nat->Bs)(k m:Nat)(f:Nat->Nat->Tr)(y:Value):Prop:=
 ∃a c,y = .slice a m c/\(0<m->∃b o,a=some ⟨b,o,none⟩/\∀i j,i<m->j<k->∃u,w.cell? ⟨b,o+(i*k+j),none⟩=some u/\Sh w g (f i j) u)
variable{E:En}{ob:List (Nat×Ob)}{k:Nat}{f:Nat->Nat->Tr}{x:Cv}
theorem U8(F:AU w E ob){m:Nat}{C:Prop}(h:srcOf k ob x=some (C,m,f))(J:C){y:Value}(z:CvR w E (dom ob) x y) :
 (∀p q,∀B j u,CM w E.g B j (f p q) u)/\ZW w E.g k m f y:=by
 unfold srcOf at h;split at h
 ·split at h
  ·rename_i e
   subst e;cases h;obtain⟨a,c,e,hn,r⟩:=z;refine⟨fun p q B j u=>Tr.nt_tail,a,c,e,fun l=>?_⟩;obtain⟨b,o,v,_,_,d⟩:=r l;exact⟨b,o,v,fun i j hi s=>let ⟨u,t,hs⟩:=d i j hi s;⟨u,t,hs.nt⟩⟩
  ·cases h
 ·rename_i i
  split at h
  ·rename_i I n f' hi
   split at h
   ·rename_i e
    subst e;cases h;obtain⟨-,a,cap,hv,hn,r⟩:=Kd F hi;refine⟨fun p q B j u=>Tr.nt_tail,a,cap,z.2.1.trans hv,fun l=>?_⟩;obtain⟨v,_,cs,T,D,_,d⟩:=r (by omega);refine⟨E.bl i,0,v,fun p j G s=>?_⟩;obtain⟨u,t,hs⟩:=d p j G s;refine⟨u,?_,hs.nt⟩;rw[Nat.zero_add,cell_of_row w _ _ _ T _ D];simpa using t
   ·cases h
  ·cases h
 ·rename_i i I lo m'
  split at h
  ·rename_i K n f' hi
   split at h
   ·rename_i e
    obtain⟨rfl,rfl⟩:=e;cases h;obtain⟨-,a,cap,hv,hn,r⟩:=Kd F hi;obtain⟨-,H,c',e,A⟩:=z;refine⟨fun p q B j u=>Tr.nt_tail,H,c',e,fun l=>?_⟩;obtain⟨v,_,cs,T,D,_,d⟩:=r (by omega);refine⟨E.bl i,_,A l,fun p j G s=>?_⟩;obtain⟨u,t,hs⟩:=d (lo+p) j (by omega) s;refine⟨u,?_,hs.nt⟩;rw[cell_of_row w _ _ _ T _ D,<-Nat.add_assoc,<-Nat.add_mul];simpa using t
   ·cases h
  ·cases h
 ·cases h;exact⟨fun p q B j u=>trivial,none,0,z.1,fun l=>by omega⟩
 ·cases h
variable{b:Nat}
theorem Y7{o:Nat}:∀(m:Nat),(∀i j,i<m->j<k->∃u,w.cell? ⟨b,o+(i*k+j),none⟩=some u)->∃cs:List Value,cs.length=m*k/\∀(j:Nat) u,cs[j]?=some u->w.cell? ⟨b,o+j,none⟩=some u:=by
 intro m h;obtain⟨cs,c,d,_⟩:=OR (w:=w) (b:=b) (o:=o) (R:=fun _ _=>True) (fun _=>.h 0) (m*k) (fun q f=>by
  rcases Nat.eq_zero_or_pos k with e | e
  ·subst e;omega
  ·obtain⟨u,a⟩:=h (q / k) (q % k) ((Nat.div_lt_iff_lt_mul e).2 f) (Nat.mod_lt _ e);rw[Nat.mul_comm,Nat.div_add_mod]at a;exact⟨u,a,trivial⟩)
 exact⟨cs,c,d⟩
def Ai(f:Nat->Nat->Tr)(n:Nat)(f':Nat->Nat->Tr):Nat->Nat->Tr:=fun p q=>if p<n then f p q else f' (p - n) q
theorem Kp.turn{o o':Ow}(h:g B = .ow o 0)(c:Array Value):Kp w g (w.setRow B c) (fun b=>if b=B then .ow o' 0 else g b):=by
 refine⟨rfl,rfl,rfl,by simp[World.setRow],fun b r a k=>?_,fun b q f a k=>?_⟩
 ·have d:b≠B:=fun e=>by rw[e,h]at a;cases a
  exact⟨Fk w B c b d,by rw[if_neg d];exact a⟩
 ·by_cases e:b=B
  ·subst e;rw[h]at a;cases a;exact⟨fun j i=>by omega,.inl ⟨o',0,if_pos rfl,Nat.le_refl _⟩⟩
  ·exact⟨fun j i=>World.cell?_of_block (w:=w) (Fk w B c b e),.inl ⟨q,f,by rw[if_neg e];exact a,Nat.le_refl _⟩⟩
variable{g':Nat->Bs}
theorem CM.ext{w':World}{B':Nat}(h:CM w g B j T u)(A:∀b e,g b = .ow (.tl B j) e->b<w.heap.size->w'.heap[b]?=w.heap[b]?/\g' b = .ow (.tl B' j) e):CM w' g' B' j T u:=by
 revert h;cases T with
 | v x=>exact id
 | s fl k n f=>
  cases fl with
  | b=>exact id
  | z=>exact id
  | o=>
   rintro⟨a,c,rfl,y⟩;refine⟨a,c,rfl,fun q=>?_⟩;obtain⟨b,r,i,cs,t,d,l⟩:=y q;obtain⟨m,p⟩:=A b _ i (Array.getElem?_eq_some_iff.1 d).1;exact⟨b,r,p,cs,t,by rw[m];exact d,l⟩
variable{i:Nat}
theorem Ik(hi:dom ob i)(a:get ob j=none):i≠j:=fun e=>by unfold dom at hi;rw[e,a]at hi;cases hi
def Frm(w w':World)(E E':En)(i:Option Nat):Prop:=∀b,b<w.heap.size->(∀q,i=some q->(∀lim,E.g b≠.ow (.nm q) lim)/\∀j lim,E.g b≠.ow (.tl (E.bl q) j) lim)->w'.heap[b]?=w.heap[b]?/\E'.g b=E.g b
variable{r n:Nat}{c1:List Value}
theorem UT(G:AU w E ob)(hi:dom ob i)(J:get ob r=none)(s:E.g (E.bl i) = .ow (.nm i) 0){c:Array Value}{T:TypeId}(D:w.heap[E.bl i]?=some (.cells c T (0,0))){cap:Nat}
 (hn:n<=cap) (F:c1.length=cap*k) (B:∀p j,p<n->j<k->∃u,c1[p*k+j]?=some u/\Sh w E.g (f p j) u/\CM w E.g (E.bl i) (p*k+j) (f p j) u) :
 ∃x,AX (dom ob) w E (w.setRow (E.bl i) c1.toArray) x/\AU (w.setRow (E.bl i) c1.toArray) x (put (put ob i .dead) r (.row k n f))/\AvR (w.setRow (E.bl i) c1.toArray) x (dom (put (put ob i .dead) r (.row k n f))) (.m false [.h r]) (.slice (some ⟨E.bl i,0,none⟩) n cap)/\Frm w (w.setRow (E.bl i) c1.toArray) E x (some i):=by
 have l:∀j,dom ob j->j≠r:=fun j a=>Ik a J
 have z:AX (dom ob) w E (w.setRow (E.bl i) c1.toArray) ⟨fun b=>if b=E.bl i then .ow (.nm r) 0 else E.g b,fun j=>if j=r then E.bl i else E.bl j,fun j=>if j=r then .slice (some ⟨E.bl i,0,none⟩) n cap else E.hv j⟩:=
  ⟨Kp.turn s _,fun j a=>if_neg (l j a),fun j a=>if_neg (l j a)⟩
 refine⟨_,z,fun j b a=>?_,⟨.h r,rfl,by unfold dom;rw[BD,if_pos rfl];rfl,by simp,rfl⟩,fun b o I=>?_⟩;rotate_left
 ·have l:b≠E.bl i:=fun e=>(I i rfl).1 0 (e▸s)
  exact⟨Fk _ _ _ _ l,if_neg l⟩
 rw[BD,BD]at a;by_cases e:r=j
 ·subst e;rw[if_pos rfl]at a;cases a;refine⟨some ⟨E.bl i,0,none⟩,cap,by simp,hn,fun M=>⟨by simp,by simp,c1,T,by simpa using setRow_heap _ _ _ _ _ _ D,F,fun p j H a=>?_⟩⟩;obtain⟨u,L,hs,K⟩:=B p j H a;refine⟨u,L,hs.kp z.kp,?_⟩;simp only[if_true];refine K.ext (fun b v o A=>?_);have q:b≠E.bl i:=fun e=>by rw[e,s]at o;cases o
  exact⟨Fk _ _ _ _ q,by rw[if_neg q];exact o⟩
 ·rw[if_neg e]at a;by_cases y:i=j
  ·rw[if_pos y]at a;cases a;trivial
  ·rw[if_neg y]at a;have C:dom ob j:=(by unfold dom;rw[a];rfl);refine ObR.ext z (fun j a=>BT (BT a)) C (X:=fun b=>b=E.bl i) (fun b o t=>⟨Fk _ _ _ _ t,if_neg t⟩) (fun b v o d=>?_) (fun _ b N v o d=>?_) (G j b a)
   ·rw[o,s]at d;cases d;exact y rfl
   ·rw[o,s]at d;cases d
def Bs.mv(B B':Nat):Bs->Bs
 | .ow (.tl b j) lim=>if b=B then .ow (.tl B' j) lim else .ow (.tl b j) lim
 | s=>s
theorem zFz(L:AU w E ob)(hi:dom ob i)(O:get ob r=none)(J:E.g (E.bl i) = .ow (.nm i) 0){cap:Nat}{T:TypeId}
 (hn:n<=cap) (t:c1.length=cap*k) (H:∀p j,p<n->j<k->∃u,c1[p*k+j]?=some u/\Sh w E.g (f p j) u/\CM w E.g (E.bl i) (p*k+j) (f p j) u) :
 ∃z,AX (dom ob) w E (w.alloc (.cells c1.toArray T)) z/\AU (w.alloc (.cells c1.toArray T)) z (put (put ob i .dead) r (.row k n f))/\AvR (w.alloc (.cells c1.toArray T)) z (dom (put (put ob i .dead) r (.row k n f))) (.m false [.h r]) (.slice (some ⟨w.heap.size,0,none⟩) n cap)/\Frm w (w.alloc (.cells c1.toArray T)) E z (some i):=by
 have v:∀j,dom ob j->j≠r:=fun j c=>Ik c O
 have K:Kp w E.g (w.alloc (.cells c1.toArray T)) (fun b=>if b=w.heap.size then .ow (.nm r) 0 else(E.g b).mv (E.bl i) w.heap.size):=by
  refine⟨rfl,rfl,rfl,by simp,fun b q d t=>⟨Below.heap_alloc _ _ _ t,?_⟩,fun b q a d t=>⟨fun j _=>World.cell?_of_block (w:=w) (Below.heap_alloc _ _ _ t),?_⟩⟩
  ·rw[if_neg (by omega),d];rfl
  ·rw[if_neg (by omega),d];cases q with
   | nm x=>exact .inl ⟨_,a,rfl,Nat.le_refl _⟩
   | tl x y=>
    by_cases e:x=E.bl i
    ·exact .inl ⟨.tl w.heap.size y,a,by simp[Bs.mv,e],Nat.le_refl _⟩
    ·exact .inl ⟨.tl x y,a,by simp[Bs.mv,e],Nat.le_refl _⟩
 have F:AX (dom ob) w E (w.alloc (.cells c1.toArray T)) ⟨fun b=>if b=w.heap.size then .ow (.nm r) 0 else(E.g b).mv (E.bl i) w.heap.size,fun j=>if j=r then w.heap.size else E.bl j,fun j=>if j=r then .slice (some ⟨w.heap.size,0,none⟩) n cap else E.hv j⟩:=
  ⟨K,fun j c=>if_neg (v j c),fun j c=>if_neg (v j c)⟩
 refine⟨_,F,fun j b c=>?_,⟨.h r,rfl,by unfold dom;rw[BD,if_pos rfl];rfl,by simp,rfl⟩,fun b d N=>?_⟩;rotate_left
 ·refine⟨Below.heap_alloc _ _ _ d,?_⟩;show(if b=w.heap.size then _ else _)=_;rw[if_neg (by omega)];cases hgb:E.g b with
  | fz r=>rfl
  | ow o a=>
   cases o with
   | nm j=>rfl
   | tl B j=>
    refine if_neg (fun e=>(N i rfl).2 j a ?_);rw[<-e];exact hgb
 rw[BD,BD]at c;by_cases e:r=j
 ·subst e;rw[if_pos rfl]at c;cases c;refine⟨some ⟨w.heap.size,0,none⟩,cap,by simp,hn,fun R=>⟨by simp,by simp,c1,T,by simpa using O4 w _,t,fun p j M c=>?_⟩⟩;obtain⟨u,Q,hs,P⟩:=H p j M c;refine⟨u,Q,hs.kp F.kp,?_⟩;simp only[if_true];exact P.ext (fun b a d C=>⟨Below.heap_alloc _ _ _ C,by rw[if_neg (by omega),d];simp[Bs.mv]⟩)
 ·rw[if_neg e]at c;by_cases A:i=j
  ·rw[if_pos A]at c;cases c;trivial
  ·rw[if_neg A]at c;have I:dom ob j:=(by unfold dom;rw[c];rfl);refine ObR.ext F (fun j c=>BT (BT c)) I (X:=fun b=>∃q a,E.g b = .ow (.tl (E.bl i) q) a) (fun b d D=>⟨Below.heap_alloc _ _ _ d,?_⟩) (fun b a ⟨q,l,d⟩ hgb=>?_) (fun s b S a ⟨q,l,d⟩ hgb=>?_) (L j b c)
   ·show(if b=w.heap.size then _ else _)=_;rw[if_neg (by omega)];cases hgb:E.g b with
    | fz x=>rfl
    | ow q a=>
     cases q with
     | nm x=>rfl
     | tl x y=>
      have:x≠E.bl i:=fun e=>D ⟨y,a,by rw[hgb,e]⟩
      simp[Bs.mv,this]
   ·rw[d]at hgb;cases hgb
   ·rw[d]at hgb;simp only[Bs.ow.injEq,Ow.tl.injEq]at hgb;have G:=hgb.1.1;rw[<-G,J]at s;cases s;exact A rfl
def dstOf(k:Nat)(ob:List (Nat×Ob)):Cv->Option (Option Nat×Nat×(Nat->Nat->Tr))
 | .h i=>match get ob i with
  | some (.row k' n f)=>if k'=k then some (some i,n,f)else none
  | _=>none
 | .v (.slice none 0 0)=>some (none,0,fun _ _=>.v (.bool false))
 | _=>none
def DQ(ob:List (Nat×Ob)):Option Nat->List (Nat×Ob)
 | some i=>put ob i .dead
 | none=>ob
variable{P:Program}
theorem Yd{t:Nat}{d de:TyD}(h:BA P t d)(he:d.el≠0)(h':BA P d.el de)(ho:AU w E ob){m:Nat}{i:Option Nat}{f':Nat->Nat->Tr}(hr:get ob r=none)(N:dstOf de.k ob x=some (i,n,f))(hc:n+m<=1000000000){v:Value}(I:CvR w E (dom ob) x u)(vA:∀p q,∀B j u,CM w E.g B j (f' p q) u)(S:ZW w E.g de.k m f' v)(ty:Nat) :
 ∃z w' D,(Builtin.append_ #[t,t] ty #[u,v]).run P w = .ok z w'/\AX (dom ob) w E w' D/\(∀j,dom ob j->dom (put (DQ ob i) r (.row de.k (n+m) (Ai f n f'))) j)/\AU w' D (put (DQ ob i) r (.row de.k (n+m) (Ai f n f')))/\AvR w' D (dom (put (DQ ob i) r (.row de.k (n+m) (Ai f n f')))) (.m false [.h r]) z/\Frm w w' E D i:=by
 obtain⟨a',c',rfl,tA⟩:=S;obtain⟨b,o,l,hl,H,aA,sA⟩:∃b o,∃l:List Value,l.length=m*de.k/\(∀(j:Nat) u,l[j]?=some u->w.cell? ⟨b,o+j,none⟩=some u)/\(0<m->a'=some ⟨b,o,none⟩)/\∀p j,p<m->j<de.k->∃u,l[p*de.k+j]?=some u/\Sh w E.g (f' p j) u:=by
  rcases Nat.eq_zero_or_pos m with e | e
  ·subst e;exact⟨0,0,[],by simp,fun j u h=>by simp at h,fun h=>by omega,fun p j F=>by omega⟩
  ·obtain⟨b,o,ha,A⟩:=tA e;obtain⟨cs,Z,W⟩:=Y7 m (fun p j F c=>let ⟨u,I,_⟩:=A p j F c;⟨u,I⟩);refine⟨b,o,cs,Z,W,fun _=>ha,fun p j F c=>?_⟩;obtain⟨u,I,fA⟩:=A p j F c;have cA:=Fb F c;have h5:cs[p*de.k+j]?=some cs[p*de.k+j]:=List.getElem?_eq_getElem (by omega);have h6:=W _ _ h5;rw[I]at h6;cases h6;exact⟨_,h5,fA⟩
 have rA:∀u∈l,u.oneCell'=true:=fun u I=>by
  obtain⟨q,Y⟩:=List.getElem?_of_mem I;have cA:=(List.getElem?_eq_some_iff.1 Y).1;have F:=h'.pos;obtain⟨u',aB,vB⟩:=sA (q / de.k) (q % de.k) ((Nat.div_lt_iff_lt_mul F).2 (by omega)) (Nat.mod_lt _ F);rw[Nat.mul_comm,Nat.div_add_mod,Y]at aB;cases aB;exact vB.one
 have Q:∀(olds rest:List Value),olds.length=n*de.k->∀p j,p<n+m->j<de.k->¬p<n->∃u,(olds ++ l ++ rest)[p*de.k+j]?=some u/\Sh w E.g (Ai f n f' p j) u/\∀B q,CM w E.g B q (Ai f n f' p j) u:=fun olds rest rB p j F c s=>by
  obtain⟨u,I,fA⟩:=sA (p - n) j (by omega) c;have e:p*de.k+j=n*de.k+((p - n)*de.k+j):=by
   rw[<-Nat.add_assoc,<-Nat.add_mul];congr 2;omega
  refine⟨u,?_,?_,fun B q=>?_⟩
  ·have cA:=(List.getElem?_eq_some_iff.1 I).1;rw[e,List.append_assoc,List.getElem?_append_right (by omega),rB,Nat.add_sub_cancel_left,List.getElem?_append_left cA];exact I
  ·unfold Ai;rw[if_neg s];exact fA
  ·unfold Ai;rw[if_neg s];exact vA _ _ _ _ _
 have y:u = .slice none 0 0\/(∃a,u = .slice a 0 0)->n=0->(∀j,dom ob j->dom (put (DQ ob i) r (.row de.k (n+m) (Ai f n f'))) j)->((i=none)\/∃q,i=some q/\dom ob q)->
  ∃z w' D,(Builtin.append_ #[t,t] ty #[u,.slice a' m c']).run P w = .ok z w'/\AX (dom ob) w E w' D/\(∀j,dom ob j->dom (put (DQ ob i) r (.row de.k (n+m) (Ai f n f'))) j)/\AU w' D (put (DQ ob i) r (.row de.k (n+m) (Ai f n f')))/\AvR w' D (dom (put (DQ ob i) r (.row de.k (n+m) (Ai f n f')))) (.m false [.h r]) z/\Frm w w' E D i:=by
  intro bC pB G Y;obtain⟨a,rfl⟩:∃a,u = .slice a 0 0:=by rcases bC with e | ⟨a,e⟩;exact⟨none,e⟩;exact⟨a,e⟩
  subst pB;have O:∀{w1:World} {E1:En},AU w1 E1 (put ob r (.row de.k (0+m) (Ai f 0 f')))->AU w1 E1 (put (DQ ob i) r (.row de.k (0+m) (Ai f 0 f'))):=by
   intro w1 E1 dA;rcases Y with rfl | ⟨q,rfl,sB⟩
   ·exact dA
   ·have oC:q≠r:=Ik sB hr;intro j bb c;have hD:∀j,dom (put ob r (.row de.k (0+m) (Ai f 0 f'))) j->dom (put (DQ ob (some q)) r (.row de.k (0+m) (Ai f 0 f'))) j:=by
     intro j c;unfold dom DQ at *;rw[BD]at c ⊢;by_cases e:r=j
     ·rw[if_pos e];rfl
     ·rw[if_neg e]at c ⊢;rw[BD];split
      ·rfl
      ·exact c
    simp only[DQ]at c;rw[BD,BD]at c;by_cases e:r=j
    ·subst e;rw[if_pos rfl]at c;cases c;exact ObR.ext (AX.refl _ _ _) hD (by unfold dom;rw[BD,if_pos rfl];rfl) (X:=fun _=>False) (fun _ _ _=>⟨rfl,rfl⟩) (fun _ _ x=>x.elim) (fun _ _ _ _ x=>x.elim) (dA r _ (by rw[BD,if_pos rfl]))
    ·rw[if_neg e]at c;by_cases e':q=j
     ·rw[if_pos e']at c;cases c;trivial
     ·rw[if_neg e']at c;exact ObR.ext (AX.refl _ _ _) hD (by unfold dom;rw[BD,if_neg e,c];rfl) (X:=fun _=>False) (fun _ _ _=>⟨rfl,rfl⟩) (fun _ _ x=>x.elim) (fun _ _ _ _ x=>x.elim) (dA j _ (by rw[BD,if_neg e];exact c))
  rcases Nat.eq_zero_or_pos m with e | e
  ·subst e;have cB:AX (dom ob) w E w ⟨E.g,E.bl,fun j=>if j=r then .slice a 0 0 else E.hv j⟩:=⟨Kp.refl _ _,fun _ _=>rfl,fun j c=>if_neg (Ik c hr)⟩;refine⟨_,_,⟨E.g,E.bl,fun j=>if j=r then .slice a 0 0 else E.hv j⟩,Nt h he h' (Nat.le_refl _) ty,cB,G,O (fun j bb c=>?_),⟨.h r,rfl,by unfold dom;rw[BD,if_pos rfl];rfl,by simp,rfl⟩,fun _ _ _=>⟨rfl,rfl⟩⟩;rw[BD]at c;by_cases e:r=j
   ·subst e;rw[if_pos rfl]at c;cases c;exact⟨a,0,by simp,Nat.le_refl _,fun h0=>by omega⟩
   ·rw[if_neg e]at c;have N:dom ob j:=(by unfold dom;rw[c];rfl);exact ObR.ext cB (fun j c=>BT c) N (X:=fun _=>False) (fun _ _ _=>⟨rfl,rfl⟩) (fun _ _ x=>x.elim) (fun _ _ _ _ x=>x.elim) (ho j bb c)
  ·have ea:=aA e;subst ea;obtain⟨M,rest,Z,W,h3⟩:=QQ h he h' (w:=w) (a:=a) (n:=0) (cap:=0) (olds:=[]) (by simp) (fun h0=>by omega) hl H (Nat.le_refl _) (by omega) hc ty (c':=c');have eA:AU w.drew E ob:=fun j bb c=>ObR.ext ⟨Kp.drew _ _,fun _ _=>rfl,fun _ _=>rfl⟩ (fun _ h=>h) (by unfold dom;rw[c];rfl) (X:=fun _=>False) (fun _ _ _=>⟨rfl,rfl⟩) (fun _ _ x=>x.elim) (fun _ _ _ _ x=>x.elim) (ho j bb c)
   obtain⟨D,C,J,K,V⟩:=Uv eA hr (k:=de.k) (n:=0+m) (cap:=M) (f:=Ai f 0 f') (cs:=[] ++ l ++ rest) Z (by simp[W,hl];rw[<-Nat.add_mul];congr 1;omega) (fun p j F c=>by
    obtain⟨u,C,J,K⟩:=Q [] rest (by simp) p j F c (by omega);exact⟨u,C,J.kp (Kp.drew _ _),fun B o=>(K B o).ext (fun b eB S _=>⟨rfl,S⟩)⟩) (fun p j F c k2 n2 f2 e=>by
    have:=vA (p - 0) j 0 0 (.bool false);unfold Ai at e;rw[if_neg (by omega)]at e;rw[e]at this;obtain⟨_,_,e',_⟩:=this;cases e') d.el
   refine⟨_,_,D,h3,⟨(Kp.drew _ _).trans C.kp,C.bl,C.hv⟩,G,O J,?_⟩;refine⟨K.ext (AX.refl _ _ _) (fun j c=>?_),fun b S _=>V b S⟩;unfold dom at *;rw[BD]at c ⊢;by_cases e:r=j
   ·rw[if_pos e];rfl
   ·rw[if_neg e]at c ⊢;cases i with
    | none=>exact c
    | some q=>exact BT c
 unfold dstOf at N;split at N
 ·rename_i i'
  split at N
  ·rename_i k' n' fo hi
   split at N
   ·rename_i ek
    subst ek;cases N;obtain⟨a,cap,bB,hn,nA⟩:=ho _ _ hi;obtain⟨U,rfl,-⟩:=I;rw[bB];have G:∀j,dom ob j->dom (put (DQ ob (some i')) r (.row de.k (n+m) (Ai f n f'))) j:=fun j c=>BT (BT c)
    rcases Nat.eq_zero_or_pos cap with e0 | e0
    ·subst e0;have en:n=0:=(by omega);rw[bB]at y;subst en;exact y (.inr ⟨a,rfl⟩) rfl G (.inr ⟨i',rfl,U⟩)
    ·obtain⟨ha,hg,cs,T,hh,bA,A⟩:=nA e0;subst ha;by_cases hm:n+m<=cap
     ·-- in its C9
      have L:∀(c1:List Value),(∀q,q<n*de.k->c1[q]?=cs[q]?)->(∀p j,p<n+m->j<de.k->¬p<n->∃u,c1[p*de.k+j]?=some u/\Sh w E.g (Ai f n f' p j) u/\∀B q,CM w E.g B q (Ai f n f' p j) u)->∀p j,p<n+m->j<de.k->∃u,c1[p*de.k+j]?=some u/\Sh w E.g (Ai f n f' p j) u/\CM w E.g (E.bl i') (p*de.k+j) (Ai f n f' p j) u:=by
       intro c1 Z W p j F c;by_cases s:p<n
       ·obtain⟨u,I,hs,ht⟩:=A p j s c;have ef:Ai f n f' p j=f p j:=(by unfold Ai;rw[if_pos s]);rw[ef];exact⟨u,(Z _ (Fb s c)).trans I,hs,ht⟩
       ·obtain⟨u,C,J,K⟩:=W p j F c s;exact⟨u,C,J,K _ _⟩
      rcases Nat.eq_zero_or_pos m with e | e
      ·subst e;obtain⟨D,C,J,K,V⟩:=UT ho U hr hg hh (k:=de.k) (n:=n+0) (cap:=cap) (f:=Ai f n f') (c1:=cs) hm bA (L cs (fun _ _=>rfl) (fun p j F c s=>by omega));rw[setRow_self _ _ _ T (0,0) hh]at C J K V;exact⟨_,_,D,Nt h he h' hn ty,C,G,J,K,V⟩
      ·have ea:=aA e;subst ea;have tB:=V6 h he h' hh bA hl H rA hm ty (c':=c');have kC:n*de.k+l.length<=cs.length:=by
        rw[hl,bA,<-Nat.add_mul];exact Nat.mul_le_mul_right _ hm
       have R:(cs.take (n*de.k)).length=n*de.k:=(by simp;omega);obtain⟨D,C,J,K,V⟩:=UT ho U hr hg hh (k:=de.k) (n:=n+m) (cap:=cap) (f:=Ai f n f') (c1:=cs.take (n*de.k) ++ l ++ cs.drop (n*de.k+l.length)) hm (by simp;omega) (L _ (fun q Y=>by
        rw[List.append_assoc,List.getElem?_append_left (by omega),List.getElem?_take,if_pos Y]) (Q _ _ R))
       exact⟨_,_,D,tB,C,G,J,K,V⟩
     ·-- in a new block
      have oB:0<m:=(by omega);have ea:=aA oB;subst ea;have R:(cs.take (n*de.k)).length=n*de.k:=by
       have:=Nat.mul_le_mul_right de.k hn;simp;omega
      obtain⟨M,rest,Z,W,h3⟩:=QQ h he h' (w:=w) (a:=some ⟨E.bl i',0,none⟩) (n:=n) (cap:=cap) (olds:=cs.take (n*de.k)) R (fun _=>⟨_,rfl,fun j u c=>by
       rw[cell_of_row w _ _ _ T _ hh];rw[List.getElem?_take]at c;split at c
       ·simpa using c
       ·cases c⟩) hl H hn (by omega) hc ty (c':=c')
      have eA:AU w.drew E ob:=fun j bb c=>ObR.ext ⟨Kp.drew _ _,fun _ _=>rfl,fun _ _=>rfl⟩ (fun _ h=>h) (by unfold dom;rw[c];rfl) (X:=fun _=>False) (fun _ _ _=>⟨rfl,rfl⟩) (fun _ _ x=>x.elim) (fun _ _ _ _ x=>x.elim) (ho j bb c)
      obtain⟨D,C,J,K,V⟩:=zFz eA U hr hg (k:=de.k) (n:=n+m) (cap:=M) (f:=Ai f n f') (c1:=cs.take (n*de.k) ++ l ++ rest) (T:=d.el) Z (by
       rw[List.length_append,List.length_append,R,hl,W,<-Nat.add_mul,<-Nat.add_mul];congr 1;omega) (fun p j F c=>by
       by_cases s:p<n
       ·obtain⟨u,I,hs,ht⟩:=A p j s c;have ef:Ai f n f' p j=f p j:=(by unfold Ai;rw[if_pos s]);rw[ef];have Y:=Fb s c;refine⟨u,?_,hs.kp (Kp.drew _ _),ht.ext (fun b eB S _=>⟨rfl,S⟩)⟩;rw[List.append_assoc,List.getElem?_append_left (by omega),List.getElem?_take,if_pos Y];exact I
       ·obtain⟨u,C,J,K⟩:=Q _ rest R p j F c s;exact⟨u,C,J.kp (Kp.drew _ _),(K _ _).ext (fun b eB S _=>⟨rfl,S⟩)⟩)
      exact⟨_,_,D,h3,⟨(Kp.drew _ _).trans C.kp,C.bl,C.hv⟩,G,J,K,V⟩
   ·cases N
  ·cases N
 ·cases N;exact y (.inl I.1) rfl (fun j c=>BT c) (.inl rfl)
 ·cases N
def evAppend(de:TyD)(ob:List (Nat×Ob))(r:Nat)(x y:Cv):Option (Prop×List (Nat×Ob)):=
 match get ob r,dstOf de.k ob x,srcOf de.k ob y with
 | none,some (i,n,f),some (C,m,f')=>some (C/\n+m<=1000000000,put (DQ ob i) r (.row de.k (n+m) (Ai f n f')))
 | _,_,_=>none
variable{ob':List (Nat×Ob)}
theorem zC1{t:Nat}{d de:TyD}(h:BA P t d)(D:d.el≠0)(s:BA P d.el de)(g:AU w E ob){y:Cv}{c:Prop}(a:evAppend de ob r x y=some (c,ob'))(e:c){v:Value}(F:CvR w E (dom ob) x u)(hv:CvR w E (dom ob) y v)(ty:Nat) :
 ∃z w' b,(Builtin.append_ #[t,t] ty #[u,v]).run P w = .ok z w'/\AX (dom ob) w E w' b/\(∀j,dom ob j->dom ob' j)/\AU w' b ob'/\AvR w' b (dom ob') (.m false [.h r]) z:=by
 unfold evAppend at a;split at a
 ·rename_i i n f C m f' hr hd hs
  cases a;obtain⟨A,B⟩:=U8 g hs e.1 hv;obtain⟨z,w',b,k,l,o,p,q,-⟩:=Yd h D s g hr hd e.2 F A B ty;exact⟨z,w',b,k,l,o,p,q⟩
 ·cases a
abbrev AL:=List (Bool×List Tr)->Option (Prop×List (Bool×List Tr))
def g00:Nat->Bs:=fun _=>.fz (some 0)
def FL(w:World)(g:Nat->Bs)(q:Bool×List Tr)(y:Value):Prop:=
 match q.1 with
 | true=>∃cs:List Value,y = .agg cs.toArray/\AR (Sh w g) q.2 cs
 | false=>∃T,q.2 = [T]/\Sh w g T y
def Tr.kept:Tr->Prop
 | .v _=>True
 | .s fl k n f=>fl≠.b/\∀i j,i<n->j<k->(f i j).kept
def NC(w':World)(g:Nat->Bs)(id:Nat):Tr->Value->Prop
 | .v x,u=>u=x/\x.oneCell'=true
 | .s .b _ _ _,_=>False
 | .s .z k n f,u=>Sh w' g (.s .z k n f) u/\(Tr.s .z k n f).kept
 | .s .o k n f,u=>∃a cap,u = .slice a n cap/\n<=cap/\(0<cap->∃b,a=some ⟨b,0,none⟩/\g b = .ow (.nm id) 0/\∃(c:List Value) (t:TypeId),w'.heap[b]?=some (.cells c.toArray t (0,0))/\c.length=cap*k/\
   ∀p j,p<n->j<k->∃u,c[p*k+j]?=some u/\Sh w' g (f p j) u/\(f p j).kept/\CM w' g b (p*k+j) (f p j) u)
def Nq(w':World)(g:Nat->Bs):Nat->List Tr->List Value->Prop
 | _,[],us=>us = []
 | n,T :: r,us=>∃u us',us=u :: us'/\NC w' g n T u/\Nq w' g (n+1) r us'
def LK(g:Bool)(y:Value)(cs:List Value):Prop:=
 match g with
 | true=>y = .agg cs.toArray
 | false=>cs = [y]
def JQ(w':World)(g:Nat->Bs):Nat->List (Bool×List Tr)->List Value->Prop
 | _,[],ys=>ys = []
 | n,q :: r,ys=>∃y ys' cs,ys=y :: ys'/\LK q.1 y cs/\Nq w' g n q.2 cs/\JQ w' g (n+q.2.length) r ys'
def JE(w':World)(g:Nat->Bs)(rs:List (Bool×List Tr))(v:Value):Prop:=
 ∃ys,JQ w' g 0 rs ys/\match rs with
  | [_]=>ys = [v]
  | _=>v = .tuple ys.toArray
def Fg(P:Program)(f:Nat)(sp:AL)(w:World):Prop:=
 ∀ags c rs,sp ags=some (c,rs)->c->∀(g0:Nat->Bs) (ys:List Value),(∀b,∃r,g0 b = .fz r)->AR (FL w g0) ags ys->
  Calls P f ys.toArray w fun e w'=>∃v g,e = .returned v/\Kp w g0 w' g/\JE w' g rs v
def An(P:Program)(f:Nat)(sp:AL):Prop:=∀w,Fg P f sp w
def rid(d n:Nat):Nat:=1000*(n+1)+d
def cvO(i:Nat):Tr->Cv
 | .v x=>.v x
 | .s .o _ _ _=>.h i
 | .s fl k n f=>.s fl k n f
def DB(d:Nat):Nat->List Tr->List Cv
 | _,[]=>[]
 | n,T :: r=>cvO (rid d n) T :: DB d (n+1) r
def obO(ob:List (Nat×Ob))(i:Nat):Tr->Option (List (Nat×Ob))
 | .s .o k n f=>match get ob i with
  | none=>some (put ob i (.row k n f))
  | some _=>none
 | _=>some ob
def outOb(d:Nat):Nat->List (Nat×Ob)->List Tr->Option (List (Nat×Ob))
 | _,ob,[]=>some ob
 | n,ob,T :: r=>match obO ob (rid d n) T with
  | some ob'=>outOb d (n+1) ob' r
  | none=>none
def JT(d:Nat):Nat->List (Bool×List Tr)->List (Bool×List Cv)
 | _,[]=>[]
 | n,q :: r=>(q.1,DB d n q.2) :: JT d (n+q.2.length) r
def Ea(d:Nat):Nat->List (Nat×Ob)->List (Bool×List Tr)->Option (List (Nat×Ob))
 | _,ob,[]=>some ob
 | n,ob,q :: r=>match outOb d n ob q.2 with
  | some ob'=>Ea d (n+q.2.length) ob' r
  | none=>none
def PJ(w':World)(g:Nat->Bs)(i:Nat):Tr->Value->Prop
 | .v x,u=>u=x/\x.oneCell'=true
 | .s .b _ _ _,_=>False
 | .s .z k n f,u=>Sh w' g (.s .z k n f) u
 | .s .o k n f,u=>∃a cap,u = .slice a n cap/\n<=cap/\(0<cap->∃b,a=some ⟨b,0,none⟩/\g b = .ow (.nm i) 0/\∃(c:List Value) (t:TypeId),w'.heap[b]?=some (.cells c.toArray t (0,0))/\c.length=cap*k/\
   ∀p j,p<n->j<k->∃u,c[p*k+j]?=some u/\Sh w' g (f p j) u/\CM w' g b (p*k+j) (f p j) u)
theorem Pp(h:obO ob i T=some ob')(a:dom ob j):dom ob' j:=by
 cases T with
 | v x=>cases h;exact a
 | s fl k n f=>
  cases fl with
  | b=>cases h;exact a
  | z=>cases h;exact a
  | o=>
   simp only[obO]at h;split at h
   ·cases h;exact BT a
   ·cases h
theorem M9{d:Nat}:∀{l:List Tr} {n:Nat} {ob ob':List (Nat×Ob)},outOb d n ob l=some ob'->∀{j:Nat},dom ob j->dom ob' j
 | [],n,ob,ob',h,j,hj=>by cases h;exact hj
 | T :: r,n,ob,ob',h,j,hj=>by
  simp only[outOb]at h;split at h
  ·rename_i a h1
   exact M9 h (Pp h1 hj)
  ·cases h
def Jz:Option Addr->Nat
 | some q=>q.block
 | none=>0
theorem zHy(q:AU w E ob)(d:obO ob i T=some ob')(p:PJ w E.g i T u) :
 ∃m,m.g=E.g/\AX (dom ob) w E w m/\AU w m ob'/\CvR w m (dom ob') (cvO i T) u:=by
 cases T with
 | v x=>cases d;exact⟨E,rfl,AX.refl _ _ _,q,p⟩
 | s fl k n f=>
  cases fl with
  | b=>exact p.elim
  | z=>cases d;exact⟨E,rfl,AX.refl _ _ _,q,p⟩
  | o=>
   simp only[obO]at d;split at d
   ·rename_i hi
    cases d;obtain⟨a,cap,rfl,hn,A⟩:=p;have l:∀j,dom ob j->j≠i:=fun j c=>Ik c hi
    have r:AX (dom ob) w E w ⟨E.g,fun j=>if j=i then Jz a else E.bl j,fun j=>if j=i then .slice a n cap else E.hv j⟩:=
     ⟨Kp.refl _ _,fun j c=>if_neg (l j c),fun j c=>if_neg (l j c)⟩
    refine⟨⟨E.g,fun j=>if j=i then Jz a else E.bl j,fun j=>if j=i then .slice a n cap else E.hv j⟩,rfl,r,fun j b c=>?_,by unfold dom;rw[BD,if_pos rfl];rfl,by simp,rfl⟩;rw[BD]at c;by_cases e:i=j
    ·subst e;rw[if_pos rfl]at c;cases c;refine⟨a,cap,by simp,hn,fun y=>?_⟩;obtain⟨b,rfl,C,cs,t,D,F,h⟩:=A y;exact⟨by simp[Jz],by simpa[Jz]using C,cs,t,by simpa[Jz]using D,F,by simpa[Jz]using h⟩
    ·rw[if_neg e]at c;have B:dom ob j:=(by unfold dom;rw[c];rfl);exact ObR.ext r (fun j c=>BT c) B (X:=fun _=>False) (fun _ _ _=>⟨rfl,rfl⟩) (fun _ _ x=>x.elim) (fun _ _ _ _ x=>x.elim) (q j b c)
   ·cases d
theorem Zb{w:World}{g0:Nat->Bs}{d:Nat}:∀{l:List Tr} {us:List Value} {n:Nat} {E:En} {ob ob':List (Nat×Ob)},(∀i T u,n<=i->NC w g0 i T u->PJ w E.g (rid d i) T u)->AU w E ob->outOb d n ob l=some ob'->Nq w g0 n l us->
 ∃a,a.g=E.g/\AX (dom ob) w E w a/\AU w a ob'/\CsR w a (dom ob') (DB d n l) us
 | [],us,n,E,ob,ob',hin,ho,hev,hu=>by
  cases hev;rw[show us = [] from hu];exact⟨E,rfl,AX.refl _ _ _,ho,.nil⟩
 | T :: r,us,n,E,ob,ob',hin,ho,hev,hu=>by
  obtain⟨u,x,rfl,o,p⟩:=hu;simp only[outOb]at hev;split at hev
  ·rename_i v hob1
   obtain⟨y,b,f,s,c1⟩:=zHy ho hob1 (hin _ _ _ (Nat.le_refl _) o);obtain⟨k,e,c,t,m⟩:=Zb (fun i T u hi h=>by rw[b];exact hin i T u (by omega) h) s hev p;refine⟨k,e.trans b,⟨by rw[e,b];exact Kp.refl _ _,fun i hi=>(c.bl i (Pp hob1 hi)).trans (f.bl i hi),fun i hi=>(c.hv i (Pp hob1 hi)).trans (f.hv i hi)⟩,t,AR.cons (c1.ext c (fun j q=>M9 hev q)) m⟩
  ·cases hev
theorem Kt{d:Nat}:∀{l:List (Bool×List Tr)} {n:Nat} {ob ob':List (Nat×Ob)},Ea d n ob l=some ob'->∀{j:Nat},dom ob j->dom ob' j
 | [],n,ob,ob',h,j,hj=>by cases h;exact hj
 | T :: r,n,ob,ob',h,j,hj=>by
  simp only[Ea]at h;split at h
  ·rename_i a h1
   exact Kt h (M9 h1 hj)
  ·cases h
variable{D:Nat->Prop}{y:Value}
theorem LK.vl{g:Bool}{cs:List Value}{l:List Cv}(h:LK g y cs)(a:CsR w E D l cs):VlR w E D g l y:=by
 cases g with
 | true=>exact⟨cs,h,a⟩
 | false=>
  cases h;cases a with
  | cons h1 t=>cases t;exact⟨_,rfl,h1⟩
theorem Lx{w:World}{g0:Nat->Bs}{d:Nat}:∀{l:List (Bool×List Tr)} {ys:List Value} {n:Nat} {E:En} {ob ob':List (Nat×Ob)},(∀i T u,n<=i->NC w g0 i T u->PJ w E.g (rid d i) T u)->AU w E ob->Ea d n ob l=some ob'->JQ w g0 n l ys->
 ∃a,a.g=E.g/\AX (dom ob) w E w a/\AU w a ob'/\AR (fun (q:Bool×List Cv) u=>VlR w a (dom ob') q.1 q.2 u) (JT d n l) ys
 | [],ys,n,E,ob,ob',hin,ho,hev,hu=>by
  cases hev;rw[show ys = [] from hu];exact⟨E,rfl,AX.refl _ _ _,ho,.nil⟩
 | q :: r,ys,n,E,ob,ob',hin,ho,hev,hu=>by
  obtain⟨y,z,cs,rfl,hv,o,p⟩:=hu;simp only[Ea]at hev;split at hev
  ·rename_i x hob1
   obtain⟨A,b,f,t,c1⟩:=Zb hin ho hob1 o;obtain⟨k,e,c,v,m⟩:=Lx (fun i T u hi h=>by rw[b];exact hin i T u (by omega) h) t hev p;exact⟨k,e.trans b,⟨by rw[e,b];exact Kp.refl _ _,fun i hi=>(c.bl i (M9 hob1 hi)).trans (f.bl i hi),fun i hi=>(c.hv i (M9 hob1 hi)).trans (f.hv i hi)⟩,v,AR.cons (hv.vl (c1.ext c (fun j s=>Kt hev s))) m⟩
  ·cases hev
def Bs.rn(d:Nat):Bs->Bs
 | .ow (.nm j) lim=>.ow (.nm (rid d j)) lim
 | s=>s
theorem Sh.okm(h:∀b fl e,(g b).ok fl e->(g' b).ok fl e):∀{T:Tr} {u:Value},Sh w g T u->Sh w g' T u
 | .v x,u,hs=>hs
 | .s fl k n f,u,hs=>by
  obtain⟨a,c,e,hn,r⟩:=hs;refine⟨a,c,e,hn,fun m=>?_⟩;obtain⟨b,o,p,q,l,d⟩:=r m;exact⟨b,o,p,q,h _ _ _ l,fun i j hi t=>let ⟨u,hu,hs⟩:=d i j hi t;⟨u,hu,hs.okm h⟩⟩
def E8:List Nat->Bool
 | []=>true
 | x :: r=>!r.contains x && E8 r
theorem J4{l:List (Nat×Nat)}:∀{i n:Nat},E8 (l.map (·.1))=true->(i,n)∈l->get l i=some n:=by
 induction l with
 | nil=>intro i n _ h;cases h
 | cons p r ih=>
  intro i n hn h;simp only[List.map_cons,E8,Bool.and_eq_true,Bool.not_eq_true']at hn;cases h with
  | head=>simp[get]
  | tail _ hm=>
   simp only[get];have a:p.1≠i:=fun e=>by
    have:(r.map (·.1)).contains p.1=true:=by
     rw[List.contains_iff_mem,e];exact List.mem_map.2 ⟨(i,n),hm,rfl⟩
    rw[this]at hn;cases hn.1
   rw[if_neg a];exact ih hn.2 hm
theorem Lc{α : Type}{d:Nat}{x:α}:∀{l:List (Nat×α)},get l d=some x->(d,x)∈l
 | [],h=>by cases h
 | (e,y) :: r,h=>by
  simp only[get]at h;split at h
  ·rename_i a;cases h;subst a;exact List.mem_cons_self ..
  ·exact List.mem_cons_of_mem _ (Lc h)
def argOf(ob:List (Nat×Ob)):Cv->Option Tr
 | .v x=>some (.v x)
 | .s fl k n f=>some (Tr.s fl k n f).CY
 | .h i=>match rowE ob i with
  | some (k,n,f)=>some (Tr.s .o k n f).CY
  | none=>none
 | _=>none
structure Ou (E:En) (ob:List (Nat×Ob)) (g:Nat->Bs):Prop where
 ok:∀b fl e,(E.g b).ok fl e->(g b).ok fl e
 rw:∀j q,rowE ob j=some q->∀b l,E.g b = .ow (.nm j) l->∃r,g b = .fz r
theorem zET(m:Ou E ob g)(F:AU w E ob)(h:argOf ob x=some T)(d:CvR w E (dom ob) x y):Sh w g T y:=by
 have q:∀b fl e,b<w.heap.size->(E.g b).ok fl e->(g b).ok .b e:=fun b fl e _ h=>Bs.ok_b (m.ok b fl e h)
 cases x with
 | v x=>cases h;exact d
 | s fl k n f=>cases h;exact Sh.CY q d
 | h i=>
  simp only[argOf]at h;split at h
  ·rename_i k n f hi
   cases h;obtain⟨-,a,cap,hv,hn,A⟩:=Kd F hi;refine⟨a,cap,d.2.1.trans hv,hn,fun J=>?_⟩;obtain⟨z,⟨l,C,-⟩,cs,t,o,D,c⟩:=A (by omega);obtain⟨r,H⟩:=m.rw i _ hi _ _ C;refine⟨_,_,z,(Array.getElem?_eq_some_iff.1 o).1,by rw[H];exact .inl rfl,fun p j G B=>?_⟩;obtain⟨u,I,hs⟩:=c p j G B;refine⟨u,?_,hs.CY q⟩;rw[Nat.zero_add,cell_of_row w _ _ _ t _ o];simpa using I
  ·cases h
 | _=>cases h
def SD:Cv->Option Tr
 | .v x=>some (.v x)
 | .s .z k n f=>some (.s .z k n f)
 | .s .o k n f=>some (.s .z k n f)
 | _=>none
theorem zGc(c:∀b fl e,(E.g b).ok fl e->(g b).ok fl e)(h:SD x=some T)(a:CvR w E D x y):Sh w g T y:=by
 cases x with
 | v x=>cases h;exact a
 | s fl k n f=>
  cases fl with
  | b=>cases h
  | z=>cases h;exact Sh.okm c a
  | o=>cases h;exact Sh.okm c (Sh.cv (D:=D) (T:=.s .o k n f) a)
 | _=>cases h
def argL(F:Cv->Option Tr):List Cv->Option (List Tr)
 | []=>some []
 | x :: r=>match F x,argL F r with
  | some T,some l=>some (T :: l)
  | _,_=>none
theorem Pu{w:World}{E:En}{D:Nat->Prop}{g:Nat->Bs}{F:Cv->Option Tr}(hF:∀{x T y},F x=some T->CvR w E D x y->Sh w g T y):∀{l:List Cv} {ts:List Tr} {ys:List Value},argL F l=some ts->CsR w E D l ys->AR (Sh w g) ts ys
 | [],ts,ys,h,hy=>by cases h;cases hy;exact .nil
 | x :: r,ts,ys,h,hy=>by
  simp only[argL]at h;split at h
  ·rename_i T l h1 h2
   cases h;cases hy with
   | cons g1 g2=>exact .cons (hF h1 g1) (Pu hF h2 g2)
  ·cases h
def argsF(F:Cv->Option Tr):List Av->Option (List (Bool×List Tr))
 | []=>some []
 | .m g l :: r=>match argL F l,argsF F r with
  | some ts,some q=>some ((g,ts) :: q)
  | _,_=>none
 | _=>none
theorem QR{w:World}{E:En}{D:Nat->Prop}{g:Nat->Bs}{F:Cv->Option Tr}(hF:∀{x T y},F x=some T->CvR w E D x y->Sh w g T y):∀{l:List Av} {a:List (Bool×List Tr)} {ys:List Value},argsF F l=some a->AR (AvR w E D) l ys->AR (FL w g) a ys
 | [],a,ys,h,hy=>by cases h;cases hy;exact .nil
 | .m g l :: r,a,ys,h,hy=>by
  simp only[argsF]at h;split at h
  ·rename_i ts q h1 h2
   cases h;cases hy with
   | cons g1 g2=>
    refine .cons ?_ (QR hF h2 g2);cases g with
    | true=>obtain⟨cs,e,b⟩:=g1;exact⟨cs,e,Pu hF h1 b⟩
    | false=>
     obtain⟨x,rfl,b⟩:=g1;have:=Pu hF h1 (AR.cons b AR.nil:CsR w E D [x] [_]);cases this with
     | cons k1 k2=>cases k2;exact⟨_,rfl,k1⟩
  ·cases h
 | .t l :: r,a,ys,h,hy=>by cases h
def DO:List Av->List (Nat×Ob)->List Av×List (Nat×Ob)
 | [],ob=>([],ob)
 | .m g c :: l,ob=>(.m g (frz c ob).1 :: (DO l (frz c ob).2).1,(DO l (frz c ob).2).2)
 | .t c :: l,ob=>(.t c :: (DO l ob).1,(DO l ob).2)
def CI(keep:Bool)(l:List Av)(ob:List (Nat×Ob)):List Av×List (Nat×Ob):=
 match keep with
 | true=>DO l ob
 | false=>(l,ob)
def IW(keep:Bool)(ob:List (Nat×Ob))(l:List Av):Option (List (Bool×List Tr)):=
 match keep with
 | true=>argsF SD l
 | false=>argsF (argOf ob) l
theorem PU{w:World}:∀{l:List Av} {us:List Value} {E:En} {ob:List (Nat×Ob)},AU w E ob->AR (AvR w E (dom ob)) l us->
 ∃q,AX (dom ob) w E w q/\AU w q (DO l ob).2/\AR (AvR w q (dom (DO l ob).2)) (DO l ob).1 us/\∀j,dom ob j↔dom (DO l ob).2 j
 | [],us,E,ob,ho,h=>by cases h;exact⟨E,AX.refl _ _ _,ho,.nil,fun _=>Iff.rfl⟩
 | .m g c :: l,us,E,ob,ho,h=>by
  cases h with
  | @cons _ u _ us' i ht=>
   have p:∀{E1:En} {D1:Nat->Prop} {l:List Av} {us:List Value},AX (dom ob) w E w E1->(∀j,dom ob j->D1 j)->AR (AvR w E (dom ob)) l us->AR (AvR w E1 D1) l us:=fun {E1 D1 l us} i z h=>by
    induction h with
    | nil=>exact .nil
    | cons h _ ih=>exact .cons (h.ext i z) ih
   have step:∃E1,AX (dom ob) w E w E1/\AU w E1 (frz c ob).2/\AvR w E1 (dom (frz c ob).2) (.m g (frz c ob).1) u/\∀j,dom ob j↔dom (frz c ob).2 j:=by
    cases g with
    | true=>
     obtain⟨cs,e,y⟩:=i;obtain⟨E1,d,k,f,a⟩:=LQ ho y;exact⟨E1,d,k,⟨cs,e,f⟩,a⟩
    | false=>
     obtain⟨x,rfl,y⟩:=i;obtain⟨E1,d,k,f,a⟩:=LQ ho (AR.cons y AR.nil:CsR w E (dom ob) [x] [_]);refine⟨E1,d,k,?_,a⟩;simp only[frz]at f ⊢;cases f with
     | cons k1 k2=>exact⟨_,rfl,k1⟩
   obtain⟨E1,d,k,f,a⟩:=step;obtain⟨r,n,s,v,o⟩:=PU (l:=l) k (p d (fun j b=>(a j).1 b) ht);exact⟨r,d.trans n (fun j b=>(a j).1 b),s,.cons (f.ext n (fun j b=>(o j).1 b)) v,fun j=>(a j).trans (o j)⟩
 | .t c :: l,us,E,ob,ho,h=>by
  cases h with
  | @cons _ u _ us' i ht=>
   obtain⟨r,n,s,v,o⟩:=PU (l:=l) ho ht;exact⟨r,n,s,.cons (i.ext n (fun j b=>(o j).1 b)) v,o⟩
variable{keep:Bool}{l:List Av}
theorem PV{us:List Value}(b:AU w E ob)(h:AR (AvR w E (dom ob)) l us) :
 ∃a,AX (dom ob) w E w a/\AU w a (CI keep l ob).2/\AR (AvR w a (dom (CI keep l ob).2)) (CI keep l ob).1 us/\∀j,dom ob j↔dom (CI keep l ob).2 j:=by
 cases keep with
 | true=>exact PU b h
 | false=>exact⟨E,AX.refl _ _ _,b,h,fun _=>Iff.rfl⟩
variable{ys:List Value}
theorem Nu(d:Ou E ob g)(f:AU w E ob){a:List (Bool×List Tr)}(h:IW keep ob l=some a)(e:AR (AvR w E (dom ob)) l ys):AR (FL w g) a ys:=by
 cases keep with
 | true=>exact QR (fun b c=>zGc d.ok b c) h e
 | false=>exact QR (fun b c=>zET d f b c) h e
theorem Sh.gn{ge:Nat->Bs}(m:∀b fl e,fl≠.b->(g b).ok fl e->(ge b).ok fl e):∀{T:Tr} {u:Value},T.kept->Sh w g T u->Sh w ge T u
 | .v x,u,hk,hs=>hs
 | .s fl k n f,u,hk,hs=>by
  obtain⟨a,c,e,hn,t⟩:=hs;refine⟨a,c,e,hn,fun h=>?_⟩;obtain⟨b,o,q,r,l,d⟩:=t h;refine⟨b,o,q,r,m b _ _ hk.1 l,fun i j hi p=>?_⟩;obtain⟨u,y,hs⟩:=d i j hi p;exact⟨u,y,hs.gn m (hk.2 i j hi p)⟩
def Tr.own:Tr->Bool
 | .s .o _ _ _=>true
 | _=>false
def tot:List (Bool×List Tr)->Nat
 | []=>0
 | q :: r=>q.2.length+tot r
def evCall(keep:Bool)(sp:AL)(d:Nat)(ob:List (Nat×Ob))(l:List Av):Option Dl:=
 match IW keep (CI keep l ob).2 (CI keep l ob).1 with
 | some ags=>match sp ags with
  | some (c,rs)=>match Ea d 0 (CI keep l ob).2 rs with
   | some ob'=>if tot rs<=40 then some ⟨c,some (match rs with
    | [q]=>.m q.1 (DB d 0 q.2)
    | _=>.t (JT d 0 rs)),ob',keep || rs.any fun q=>q.2.any Tr.own⟩else none
   | none=>none
  | none=>none
 | none=>none
def gC(g:Nat->Bs)(b:Nat):Bs:=
 match g b with
 | .fz r=>.fz r
 | .ow _ l=>.fz (some l)
theorem IZ(g:Nat->Bs)(b:Nat):∃r,gC g b = .fz r:=by
 unfold gC;split
 ·exact⟨_,rfl⟩
 ·exact⟨_,rfl⟩
theorem qh{fl:Fl}{e:Nat}(h:(g b).ok fl e):(gC g b).ok fl e:=by
 unfold gC;cases hg:g b with
 | fz r=>rw[hg]at h;exact h
 | ow o l=>rw[hg]at h;exact .inr fun l' a=>by cases a;exact h
theorem qg{fl:Fl}{e:Nat}(a:fl≠.b)(h:(gC g b).ok fl e):(g b).ok fl e:=by
 unfold gC at h;cases hg:g b with
 | fz r=>rw[hg]at h;exact h
 | ow o l=>
  rw[hg]at h;exact(h.resolve_left a) l rfl
theorem XN{f:Nat}{sp:AL}(hs:Fg P f sp w){d:Nat}(ho:AU w E ob){D:Dl}(m:evCall keep sp d ob l=some D)(hc:D.c)(hy:AR (AvR w E (dom ob)) l ys) :
 Calls P f ys.toArray w fun e w'=>∃v H,e = .returned v/\AX (dom ob) w E w' H/\(∀j,dom ob j->dom D.ob j)/\AU w' H D.ob/\∃av,D.av=some av/\AvR w' H (dom D.ob) av v:=by
 unfold evCall at m;obtain⟨y,x1,o1,a1,d1⟩:=PV (keep:=keep) ho hy;generalize (CI keep l ob).2=ob1 at *;generalize (CI keep l ob).1=l1 at *;split at m
 ·rename_i V has
  split at m
  ·rename_i c rs hsp
   split at m
   ·rename_i ob' hob
    split at m
    case isFalse=>cases m
    cases m;refine(hs V c rs hsp hc (gC y.g) ys (IZ _) (Nu ⟨fun b fl e h=>qh h,fun _ _ _ b _ _=>IZ _ b⟩ o1 has a1)).mono ?_;rintro e w' ⟨v,g,rfl,N,cB,Y,hv⟩;have I:∀b,b<w.heap.size->g b=gC y.g b/\w'.heap[b]?=w.heap[b]?:=fun b A=>by
     obtain⟨r,U⟩:=IZ y.g b;obtain⟨k1,k2⟩:=N.fz b r U A;exact⟨k2.trans U.symm,k1⟩
    have O:Kp w y.g w' (fun b=>if b<w.heap.size then y.g b else(g b).rn d):=by
     refine⟨N.os,N.tape,N.output,N.size,fun b r A G=>⟨(I b G).2,by rw[if_pos G];exact A⟩,fun b o B A G=>⟨fun j _=>World.cell?_of_block (w:=w) (I b G).2,.inl ⟨o,B,by rw[if_pos G];exact A,Nat.le_refl _⟩⟩⟩
    have hx:AX (dom ob1) w y w' ⟨fun b=>if b<w.heap.size then y.g b else(g b).rn d,y.bl,y.hv⟩:=⟨O,fun _ _=>rfl,fun _ _=>rfl⟩;have R:AU w' ⟨fun b=>if b<w.heap.size then y.g b else(g b).rn d,y.bl,y.hv⟩ ob1:=fun j b C=>
     ObR.ext hx (fun _ h=>h) (by unfold dom;rw[C];rfl) (X:=fun _=>False) (fun b A _=>⟨(I b A).2,if_pos A⟩) (fun _ _ x=>x.elim) (fun _ _ _ _ x=>x.elim) (o1 j b C)
    have M:∀b fl e,fl≠.b->(g b).ok fl e->Bs.ok fl e (if b<w.heap.size then y.g b else(g b).rn d):=fun b fl e hf h=>by
     by_cases A:b<w.heap.size
     ·rw[if_pos A];rw[(I b A).1]at h;exact qg hf h
     ·rw[if_neg A];cases L:g b with
      | fz r=>rw[L]at h;exact h
      | ow o B=>rw[L]at h;cases o<;>exact h
    have Q:∀b o B,g b = .ow o B->¬b<w.heap.size:=fun b o B A h=>by
     obtain⟨r,U⟩:=IZ y.g b;rw[(I b h).1,U]at A;cases A
    obtain⟨H,e1,x2,o2,c1⟩:=Lx (d:=d) (E:=⟨fun b=>if b<w.heap.size then y.g b else(g b).rn d,y.bl,y.hv⟩) (fun i T u _ h=>by
     cases T with
     | v x=>exact h
     | s fl k n f=>
      cases fl with
      | b=>exact h.elim
      | z=>exact h.1.gn M h.2
      | o=>
       obtain⟨a,cap,e,hn,K⟩:=h;refine⟨a,cap,e,hn,fun S=>?_⟩;obtain⟨b,ha,L,cs,t,W,G,F⟩:=K S;refine⟨b,ha,?_,cs,t,W,G,fun p j hp C=>?_⟩
       ·show(if b<w.heap.size then _ else _)=_;rw[if_neg (Q b _ _ L),L];rfl
       ·obtain⟨u,hu,h1,h2,h3⟩:=F p j hp C;refine⟨u,hu,h1.gn M h2,h3.ext (fun b' B J _=>⟨rfl,?_⟩)⟩;show(if b'<w.heap.size then _ else _)=_;rw[if_neg (Q b' _ _ J),J];rfl) R hob Y
    have Z:AX (dom ob) w E w' H:=x1.trans ⟨by rw[e1];exact O,fun i hi=>x2.bl i hi,fun i hi=>x2.hv i hi⟩ (fun j C=>(d1 j).1 C);refine⟨v,H,rfl,Z,fun j C=>Kt hob ((d1 j).1 C),o2,_,rfl,?_⟩
    match rs,hv,c1 with
    | [q],hv,c1=>
     cases hv;cases c1 with
     | cons k1 k2=>exact k1
    | [],hv,c1=>exact⟨_,hv,c1⟩
    | q1 :: q2 :: r,hv,c1=>exact⟨_,hv,c1⟩
   ·cases m
  ·cases m
 ·cases m
end Go.Proofs.YtddigaohmfpepaaGreatDoor
