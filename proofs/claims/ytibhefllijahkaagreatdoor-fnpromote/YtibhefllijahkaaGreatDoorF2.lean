/- A part of the proof. -/
import Derived.Test.YtibhefllijahkaaGreatDoorF1
set_option linter.unusedVariables false
set_option maxRecDepth 20000
set_option maxHeartbeats 4000000
namespace Go.Proofs.YtibhefllijahkaaGreatDoor
open Go.RowKit
section
variable {P : Program} {t : Nat} {d : TyD}
theorem OG(w:World)(o:Obj):(w.alloc o).heap[w.heap.size]?=some o:=by
 show(w.heap.push o)[w.heap.size]?=_;simp
variable{w:World}{E:En}{ob:List (Nat×Ob)}{i:Nat}{l:List Cv}{cs:List Value}
theorem U6(h:AR w E ob)(hi:get ob i=none)(g:CsR w E (dom ob) l cs)(T:TypeId) :
 ∃a,AV (dom ob) w E (w.alloc (.cells cs.toArray T)) a/\AR (w.alloc (.cells cs.toArray T)) a (put ob i (.var l))/\AvR (w.alloc (.cells cs.toArray T)) a (dom (put ob i (.var l))) (.m false [.p i 0]) (.pointer (some ⟨w.heap.size,0,none⟩)):=by
 obtain⟨c,d⟩:=h.new hi (o:=.cells cs.toArray T) (b:=.var l) (hv:=.bool false) (fun D e j=>⟨by simp,cs,T,by simpa using OG w _,g.ext j e⟩);exact⟨_,c,d,.p i 0,rfl,by unfold dom;rw[B8,if_pos rfl];rfl,by simp⟩
def evAlloc(d:TyD)(ob:List (Nat×Ob))(i:Nat):Option (List (Nat×Ob)):=
 match get ob i with
 | none=>some (put ob i (.var (d.z.map .v)))
 | some _=>none
theorem Nw{w:World}{E:En}{D:Nat->Prop}:∀(z:List Value),z.all Value.oneCell'=true->CsR w E D (z.map .v) z
 | [],_=>.nil
 | x :: r,h=>by
  simp only[List.all_cons,Bool.and_eq_true]at h;exact AN.cons ⟨rfl,h.1⟩ (Nw r h.2)
variable{ob':List (Nat×Ob)}
theorem zAh(h:B1 P t d)(l:AR w E ob)(b:evAlloc d ob i=some ob') :
 ∃z w' a,(Instr.alloc t true (.tuple #[])).run P w = .ok z w'/\AV (dom ob) w E w' a/\(∀j,dom ob j->dom ob' j)/\AR w' a ob'/\AvR w' a (dom ob') (.m false [.p i 0]) z:=by
 unfold evAlloc at b;split at b
 ·rename_i hi
  cases b;obtain⟨a,c,e,g⟩:=U6 l hi (Nw (w:=w) (E:=E) (D:=dom ob) d.z h.one) t;exact⟨_,_,a,h.run_alloc w,c,fun j k=>BI k,e,g⟩
 ·cases b
def KR(ob:List (Nat×Ob))(i:Nat)(l:List Cv):Option (List (Nat×Ob)):=
 match get ob i with
 | none=>some (put ob i (.var l))
 | some _=>none
theorem zFI(k:AR w E ob)(b:KR ob i l=some ob'){g:Bool}{y:Value}(n:VlR w E (dom ob) g l y) :
 ∃z w' a,(Instr.box t y).run P w = .ok z w'/\AV (dom ob) w E w' a/\(∀j,dom ob j->dom ob' j)/\AR w' a ob'/\AvR w' a (dom ob') (.m false [.p i 0]) z:=by
 unfold KR at b;split at b
 ·rename_i hi
  cases b;obtain⟨a,c,d,e⟩:=U6 k hi n.cells t;simp only[Array.toArray_toList]at c d e;exact⟨_,_,a,zGg t y w,c,fun j h=>BI h,d,e⟩
 ·cases b
variable{k n cap:Nat}{f:Nat->Nat->Tr}
theorem UG(C:AR w E ob)(hi:get ob i=none)(hn:n<=cap)(A:cs.length=cap*k)
 (y:∀p j,p<n->j<k->∃u,cs[p*k+j]?=some u/\Sh w E.g (f p j) u/\∀B o,By w E.g B o (f p j) u) (F:∀p j,p<n->j<k->∀c d f',f p j≠.s .o c d f') (T:TypeId) :
 ∃a,AV (dom ob) w E (w.alloc (.cells cs.toArray T)) a/\AR (w.alloc (.cells cs.toArray T)) a (put ob i (.row k n f))/\AvR (w.alloc (.cells cs.toArray T)) a (dom (put ob i (.row k n f))) (.m false [.h i]) (.slice (some ⟨w.heap.size,0,none⟩) n cap)/\∀b,b<w.heap.size->(w.alloc (.cells cs.toArray T)).heap[b]?=w.heap[b]?/\a.g b=E.g b:=by
 obtain⟨q,r⟩:=C.new hi (o:=.cells cs.toArray T) (b:=.row k n f) (hv:=.slice (some ⟨w.heap.size,0,none⟩) n cap) (fun D J H=>by
  refine⟨some ⟨w.heap.size,0,none⟩,cap,by simp,hn,fun I=>⟨by simp,by simp,cs,T,by simpa using OG w _,A,fun p j l e=>?_⟩⟩;obtain⟨u,G,hs,_⟩:=y p j l e;refine⟨u,G,hs.kp H.kp,?_⟩;have:=F p j l e;revert this;cases f p j with
  | v x=>exact fun _=>trivial
  | s fl c d f'=>
   cases fl with
   | b=>exact fun _=>trivial
   | z=>exact fun _=>trivial
   | o=>exact fun h=>absurd rfl (h c d f'))
 exact⟨_,q,r,⟨.h i,rfl,by unfold dom;rw[B8,if_pos rfl];rfl,by simp,rfl⟩,fun b t=>⟨Below.heap_alloc _ _ _ t,if_neg (by omega)⟩⟩
theorem U5(q:AR w E ob)(hi:get ob i=none)(hn:n<=cap)(l:cs.length=cap*k)
 (e:∀p j,p<n->j<k->∃u,cs[p*k+j]?=some u/\Sh w E.g (f p j) u/\∀B o,By w E.g B o (f p j) u) (r:∀p j,p<n->j<k->∀t v f',f p j≠.s .o t v f') (T:TypeId) :
 ∃a,AV (dom ob) w E (w.alloc (.cells cs.toArray T)) a/\AR (w.alloc (.cells cs.toArray T)) a (put ob i (.row k n f))/\AvR (w.alloc (.cells cs.toArray T)) a (dom (put ob i (.row k n f))) (.m false [.h i]) (.slice (some ⟨w.heap.size,0,none⟩) n cap):=by
 obtain⟨a,b,c,d,-⟩:=UG q hi hn l e r T;exact⟨a,b,c,d⟩
theorem Uz:∀(l:List Value) (i off:Nat) (c:Array Value),off+i+l.length<=c.size->
 (l.zipIdx i).foldl (fun cs q=>cs.setIfInBounds (off+q.2) q.1) c=(c.toList.take (off+i) ++ l ++ c.toList.drop (off+i+l.length)).toArray
 | [],i,off,c,_=>by simp
 | x :: r,i,off,c,h=>by
  simp only[List.zipIdx_cons,List.foldl_cons];simp only[List.length_cons]at h;rw[Uz r (i+1) off (c.setIfInBounds (off+i) x) (by simp;omega)];congr 1;have e:=list_seg_step c.toList (off+i) x r (by simp;omega);simpa[Array.toList_setIfInBounds,Nat.add_assoc]using e
def fillC(Bn:Nat->Option (Nat×Nat))(c:List Cv):List (Nat×List Cv)->Option (List Cv)
 | []=>some c
 | (f,l) :: r=>match Bn f with
  | some q=>if l.length=q.2/\q.1+q.2<=c.length then fillC Bn (c.take q.1 ++ l ++ c.drop (q.1+q.2)) r else none
  | none=>none
theorem Qb{w:World}{E:En}{D:Nat->Prop}{Bn:Nat->Option (Nat×Nat)}:∀{ps:List (Nat×List Cv)} {vs:List (Nat×Value)} {c c':List Cv} {cs:List Value},AN (fun (p:Nat×List Cv) (q:Nat×Value)=>p.1=q.1/\CsR w E D p.2 q.2.cells.toList) ps vs->CsR w E D c cs->fillC Bn c ps=some c'->
 ∃a,Instr.fill Bn cs.toArray vs=some a.toArray/\CsR w E D c' a
 | [],vs,c,c',cs,hp,hc,h=>by cases hp;cases h;exact⟨cs,rfl,hc⟩
 | (f,l) :: r,vs,c,c',cs,hp,hc,h=>by
  cases hp with
  | @cons _ q _ m h1 t1=>
   obtain⟨i,v⟩:=q;obtain⟨rfl,g⟩:=h1;replace g:CsR w E D l v.cells.toList:=g;simp only[fillC]at h;split at h
   ·rename_i q hq
    split at h
    ·rename_i n
     have j:=g.length;have k:=hc.length;have b:v.cells.size=q.2:=(by rw[<-Array.length_toList];omega);obtain⟨a,e,d⟩:=Qb (cs:=cs.take q.1 ++ v.cells.toList ++ cs.drop (q.1+q.2)) t1 (AN.append (AN.append (AN.take hc q.1) g) (AN.drop hc (q.1+q.2))) h;refine⟨a,?_,d⟩;rw[<-e];simp only[Instr.fill,hq];rw[if_neg (by simp[b];omega)];congr 1;have:=Uz v.cells.toList 0 q.1 cs.toArray (by simp[b];omega);simp only[Nat.add_zero,Array.length_toList,b]at this;rw[<-Array.foldl_toList,Array.toList_zipIdx];simpa using this
    ·cases h
   ·cases h
theorem B1.places(h:B1 P t d):∀(a:List Field),(a.map (fun f=>(f.offset,((P.info? f.type).map (·.size)).getD 0))).all (fun q=>q.2 != 0)=true->
 a.mapM (fun f=>(P.info? f.type).map fun i=>(f.offset,i.size))=some (a.map (fun f=>(f.offset,((P.info? f.type).map (·.size)).getD 0)))
 | [],_=>rfl
 | f :: r,hz=>by
  simp only[List.map_cons,List.all_cons,Bool.and_eq_true,bne_iff_ne,ne_eq]at hz;have b:=h.places r hz.2;cases hi:P.info? f.type with
  | none=>rw[hi]at hz;exact absurd rfl hz.1
  | some i=>simp[List.mapM_cons,hi,b]
variable{ps:List (Nat×List Cv)}{vs:List (Nat×Value)}
theorem zAi(h:B1 P t d)(l:d.fs≠[]){c:List Cv}(n:AN (fun (p:Nat×List Cv) (q:Nat×Value)=>p.1=q.1/\CsR w E (dom ob) p.2 q.2.cells.toList) ps vs)
 (k:fillC (fun f=>d.fs[f]?) (d.z.map .v) ps=some c):∃z,(Instr.build t vs.toArray).run P w = .ok z w/\AvR w E (dom ob) (.m true c) z:=by
 obtain⟨cs,b,j⟩:=Qb n (Nw (w:=w) (E:=E) (D:=dom ob) d.z h.one) k;refine⟨.agg cs.toArray,run_build w t _ _ ?_,cs,rfl,j⟩;obtain⟨i,hi,_,r,_⟩:=h.get;obtain⟨u,o,e⟩:=h.dsc;have a:=h.fz;unfold Program.built;rw[hi,o];cases u<;>simp only[JN,Prod.mk.injEq]at e<;>first | (exact absurd e.2.1.symm l) | skip
 rename_i g
 rw[<-e.2.1]at a b;dsimp only;rw[r];simp only[h.places g.toList a,h.zcells];simpa using b
end
def zc(d:TyD)(n:Nat):List Cv:=(List.range (n*d.k)).map (fun q=>.v (d.z.getD (q % d.k) (.bool false)))
section
variable {P : Program} {t : Nat} {d de : TyD}
theorem B1.zget(h:B1 P t d)(q:Nat):d.z.toArray[q % d.z.toArray.size]! = d.z.getD (q % d.k) (.bool false)/\(d.z.getD (q % d.k) (.bool false)).oneCell'=true:=by
 have g:=h.pos;have e:=h.len;have i:=Nat.mod_lt q g;have b:d.z.toArray.size=d.k:=by simpa using e
 rw[b];have c:d.z.toArray[q % d.k]! = d.z[q % d.k]:=by rw[getElem!_pos d.z.toArray (q % d.k) (by omega)];simp
 have a:d.z.getD (q % d.k) (.bool false)=d.z[q % d.k]:=by rw[List.getD_eq_getElem?_getD,List.getElem?_eq_getElem (by omega)];rfl
 refine⟨c.trans a.symm,?_⟩;rw[a];exact List.all_eq_true.1 h.one _ (List.getElem_mem _)
variable{w:World}{E:En}{D:Nat->Prop}
theorem B1.zcs(h:B1 P t d)(m:Nat):CsR w E D ((List.range m).map (fun q=>.v (d.z.getD (q % d.k) (.bool false)))) ((List.range m).map (fun q=>d.z.toArray[q % d.z.toArray.size]!)):=by
 refine AN.of (by simp) (fun j x y b c=>?_);simp only[List.getElem?_map,Option.map_eq_some_iff]at b c;obtain⟨q,i,rfl⟩:=b;obtain⟨l,a,rfl⟩:=c;rw[i]at a;cases a;obtain⟨e,g⟩:=h.zget q;exact⟨e,g⟩
def evMakeSlice(de:TyD)(ob:List (Nat×Ob))(i:Nat)(l:Int):Option (List (Nat×Ob)):=
 match get ob i with
 | none=>some (put ob i (.row de.k l.toNat (fun _ q=>.v (de.z.getD q (.bool false)))))
 | some _=>none
variable{k j:Nat}
theorem U4{p:Nat}(h:j<k):(p*k+j) % k=j:=by
 rw[Nat.add_comm,Nat.add_mul_mod_self_right,Nat.mod_eq_of_lt h]
variable{ob ob':List (Nat×Ob)}{i:Nat}
theorem zD5(h:B1 P t d)(J:d.el≠0)(o:B1 P d.el de)(K:AR w E ob){kl kc:IntKind}{l:Int}(x:0<=l)(G:l<=1000000)(a:evMakeSlice de ob i l=some ob') :
 ∃z w' e,(Instr.makeSlice t (.int kl l) (.int kc l)).run P w = .ok z w'/\AV (dom ob) w E w' e/\(∀j,dom ob j->dom ob' j)/\AR w' e ob'/\AvR w' e (dom ob') (.m false [.h i]) z:=by
 unfold evMakeSlice at a;split at a
 ·rename_i hi
  cases a;obtain⟨b,g,s,M,I⟩:=o.get;have L:=o.Bo;have H:(b.bytes:Int)*l<=281474976710656:=by
   have:=Int.mul_le_mul (show(b.bytes:Int)<=1024 by omega) G x (by omega);omega
  have A:=run_make (P:=P) w t d.el b _ (h.slice J) g M kl kc l l x (Int.le_refl _) H (by omega);have r:madeCells de.zv.cells (l.toNat*b.size)=((List.range (l.toNat*de.k)).map (fun q=>de.z.toArray[q % de.z.toArray.size]!)).toArray:=by
   unfold madeCells;rw[s,o.zcells];apply Array.ext';simp[Array.toList_range]
  rw[r]at A;obtain⟨e,C,D,F⟩:=U5 K hi (k:=de.k) (n:=l.toNat) (cap:=l.toNat) (f:=fun _ q=>.v (de.z.getD q (.bool false))) (cs:=(List.range (l.toNat*de.k)).map (fun q=>de.z.toArray[q % de.z.toArray.size]!)) (Nat.le_refl _) (by simp) (fun p j y c=>by
   obtain⟨B,u⟩:=o.zget (p*de.k+j);refine⟨de.z.toArray[(p*de.k+j) % de.z.toArray.size]!,?_,?_,fun _ _=>trivial⟩
   ·rw[List.getElem?_map,List.getElem?_range (Fg y c)];rfl
   ·rw[B,U4 c];rw[U4 c]at u;exact⟨rfl,u⟩) (fun p j y c N O f' h=>by cases h) d.el
  exact⟨_,_,e,A,C,fun j c=>BI c,D,F⟩
 ·cases a
def evBuildSlice(de:TyD)(ob:List (Nat×Ob))(i len:Nat)(ps:List (Nat×List Cv)):Option (List (Nat×Ob)):=
 match get ob i,(fillC (fun x=>some (x*de.k,de.k)) (zc de len) ps).bind trs with
 | none,some ts=>if len*de.k<=1000 then some (put ob i (.row de.k len (fun p q=>ts.getD (p*de.k+q) (.v (.bool false)))))else none
 | _,_=>none
theorem Vn{Bn:Nat->Option (Nat×Nat)}:∀{ps:List (Nat×List Cv)} {c c':List Cv},fillC Bn c ps=some c'->c'.length=c.length
 | [],c,c',h=>by cases h;rfl
 | (f,l) :: r,c,c',h=>by
  simp only[fillC]at h;split at h
  ·split at h
   ·rename_i a
    rw[Vn h];simp;omega
   ·cases h
  ·cases h
variable{ps:List (Nat×List Cv)}{vs:List (Nat×Value)}
theorem zDC(h:B1 P t d)(he:d.el≠0)(F:B1 P d.el de)(ho:AR w E ob){len:Nat}
 (I:AN (fun (p:Nat×List Cv) (q:Nat×Value)=>p.1=q.1/\CsR w E (dom ob) p.2 q.2.cells.toList) ps vs) (a:evBuildSlice de ob i len ps=some ob') :
 ∃z w' C,(Instr.buildSlice t len vs.toArray).run P w = .ok z w'/\AV (dom ob) w E w' C/\(∀j,dom ob j->dom ob' j)/\AR w' C ob'/\AvR w' C (dom ob') (.m false [.h i]) z:=by
 unfold evBuildSlice at a;split at a
 ·rename_i ts hi hb
  rw[Option.bind_eq_some_iff]at hb;obtain⟨c,U,K⟩:=hb;split at a
  ·rename_i bA
   cases a;obtain⟨cs,R,S⟩:=Qb I (F.zcs (w:=w) (E:=E) (D:=dom ob) (len*de.k)) U;have M:=PR K S;have H:cs.length=len*de.k:=by
    have:=S.length;have:=Vn U;simp[zc]at this;omega
   have J:(Instr.buildSlice t len vs.toArray).run P w = .ok (.slice (some ⟨w.heap.size,0,none⟩) len len) (w.alloc (.cells cs.toArray d.el)):=by
    have V:=F.pos;have Q:((Array.range (len*de.k)).map (de.zv.cells[· % de.zv.cells.size]!))=((List.range (len*de.k)).map (fun q=>de.z.toArray[q % de.z.toArray.size]!)).toArray:=by
     rw[F.zcells];apply Array.ext';simp[Array.toList_range]
    unfold Instr.buildSlice;simp only[Sem.run_bind,run_underlying (h.slice he),Result.andThen_ok,F.run_size];by_cases L:len*de.k=0
    ·have b:Instr.fill (fun i=>some (i*de.k,de.k)) (Array.map (fun x=>(#[]:Array Value)[x % (#[]:Array Value).size]!) (Array.range (len*de.k))) vs=some cs.toArray:=by
      rw[<-R,L];have e:(Array.map (fun x=>(#[]:Array Value)[x % (#[]:Array Value).size]!) (Array.range 0))=(List.map (fun q=>de.z.toArray[q % de.z.toArray.size]!) (List.range 0)).toArray:=(by apply Array.ext';simp[Array.toList_range]);rw[e]
     rw[L]at b ⊢;simp at b;simp[b,newRow]
    ·have b:Instr.fill (fun i=>some (i*de.k,de.k)) (Array.map (fun x=>de.zv.cells[x % de.zv.cells.size]!) (Array.range (len*de.k))) vs=some cs.toArray:=(by rw[Q];exact R);have y:¬(16777216<len*de.k):=(by omega);simp[L,y,F.run_zero,b,newRow]
   obtain⟨C,W,X,Y⟩:=U5 ho hi (k:=de.k) (n:=len) (cap:=len) (f:=fun p q=>ts.getD (p*de.k+q) (.v (.bool false))) (cs:=cs) (Nat.le_refl _) H (fun p j I G=>by
    have:=Fg I G;have O:=M.length;have y:ts[p*de.k+j]?=some ts[p*de.k+j]:=List.getElem?_eq_getElem (by omega);obtain⟨u,hu,hs,ht⟩:=M.at y;have Z:ts.getD (p*de.k+j) (.v (.bool false))=ts[p*de.k+j]:=(by rw[List.getD_eq_getElem?_getD,y];rfl);rw[Z];exact⟨u,hu,hs,ht⟩) (fun p j I G A B f' e=>by
    have:=Fg I G;have O:=M.length;have y:ts[p*de.k+j]?=some (.s .o A B f'):=by
     rw[<-e];rw[List.getD_eq_getElem?_getD,List.getElem?_eq_getElem (by omega)];rfl
    have:∀{l:List Cv} {m:List Tr},trs l=some m->∀T∈m,∀A B f',T≠.s .o A B f':=by
     intro l
     induction l with
     | nil=>intro m g T N;cases g;cases N
     | cons x r ih=>
      intro m g T N A B f';simp only[trs]at g;split at g
      ·rename_i T' l' hT' hl'
       cases g;cases N with
       | head=>
        intro e;subst e;cases x with
        | v x=>cases hT'
        | s fl k n f=>cases fl<;>cases hT'
        | _=>cases hT'
       | tail _ g=>exact ih hl' T g A B f'
      ·cases g
    exact this K _ (List.mem_of_getElem? y) A B f' rfl) d.el
   exact⟨_,_,C,J,W,fun j G=>BI G,X,Y⟩
  ·cases a
 ·cases a
theorem AV.trans{D':Nat->Prop}{w1 w2:World}{E1 E2:En}(h:AV D w E w1 E1)(a:AV D' w1 E1 w2 E2)(b:∀j,D j->D' j):AV D w E w2 E2:=
 ⟨h.kp.trans a.kp,fun i hi=>(a.bl i (b i hi)).trans (h.bl i hi),fun i hi=>(a.hv i (b i hi)).trans (h.hv i hi)⟩
variable{r n:Nat}{f:Nat->Nat->Tr}
theorem zHS(e:AR w E ob)(h:rowE ob r=some (k,n,f)):∃a,AV (dom ob) w E w a/\AR w a (put ob r .dead)/\Sh w a.g (.s .z k n f) (E.hv r):=by
 obtain⟨a,-,-,-,b,c,d,-,-⟩:=qV e h (s:=.fz none) (.inl rfl);exact⟨a,b,c,d⟩
def frz1(ob:List (Nat×Ob)):Cv->Cv×List (Nat×Ob)
 | .h r=>match rowE ob r with
  | some (k,n,f)=>(.s .z k n f,put ob r .dead)
  | none=>(.h r,ob)
 | x=>(x,ob)
def frz:List Cv->List (Nat×Ob)->List Cv×List (Nat×Ob)
 | [],ob=>([],ob)
 | x :: l,ob=>((frz1 ob x).1 :: (frz l (frz1 ob x).2).1,(frz l (frz1 ob x).2).2)
def Es:List (Nat×List Cv)->List (Nat×Ob)->List (Nat×List Cv)×List (Nat×Ob)
 | [],ob=>([],ob)
 | x :: l,ob=>((x.1,(frz x.2 ob).1) :: (Es l (frz x.2 ob).2).1,(Es l (frz x.2 ob).2).2)
theorem zFG(a:dom ob r)(j:Nat):dom ob j↔dom (put ob r .dead) j:=by
 refine⟨fun h=>BI h,fun h=>?_⟩;unfold dom at *;rw[B8]at h;split at h
 ·rename_i e;exact e▸a
 ·exact h
variable{x:Cv}
theorem zHT(c:AR w E ob){u:Value}(b:CvR w E (dom ob) x u) :
 ∃a,AV (dom ob) w E w a/\AR w a (frz1 ob x).2/\CvR w a (dom (frz1 ob x).2) (frz1 ob x).1 u/\∀j,dom ob j↔dom (frz1 ob x).2 j:=by
 cases x with
 | h r=>
  simp only[frz1];split
  ·rename_i k n f hr
   obtain⟨a,d,e,g⟩:=zHS c hr;refine⟨a,d,e,?_,zFG b.1⟩;rw[b.2.1];exact g
  ·exact⟨E,AV.refl _ _ _,c,b,fun _=>Iff.rfl⟩
 | _=>exact⟨E,AV.refl _ _ _,c,b,fun _=>Iff.rfl⟩
theorem Li{w:World}:∀{l:List Cv} {us:List Value} {E:En} {ob:List (Nat×Ob)},AR w E ob->CsR w E (dom ob) l us->
 ∃b,AV (dom ob) w E w b/\AR w b (frz l ob).2/\CsR w b (dom (frz l ob).2) (frz l ob).1 us/\∀j,dom ob j↔dom (frz l ob).2 j
 | [],us,E,ob,ho,h=>⟨E,AV.refl _ _ _,ho,h,fun _=>Iff.rfl⟩
 | x :: l,us,E,ob,ho,h=>by
  cases h with
  | cons hx ht=>
   obtain⟨p,d,k,m,c⟩:=zHT ho hx;obtain⟨i,e,n,o,g⟩:=Li (l:=l) k (CsR.ext d (fun j a=>(c j).1 a) ht);exact⟨i,d.trans e (fun j a=>(c j).1 a),n,AN.cons (m.ext e (fun j a=>(g j).1 a)) o,fun j=>(c j).trans (g j)⟩
theorem TP{w:World}:∀{l:List (Nat×List Cv)} {us:List (Nat×Value)} {E:En} {ob:List (Nat×Ob)},AR w E ob->AN (fun (p:Nat×List Cv) (q:Nat×Value)=>p.1=q.1/\CsR w E (dom ob) p.2 q.2.cells.toList) l us->
 ∃b,AV (dom ob) w E w b/\AR w b (Es l ob).2/\AN (fun (p:Nat×List Cv) (q:Nat×Value)=>p.1=q.1/\CsR w b (dom (Es l ob).2) p.2 q.2.cells.toList) (Es l ob).1 us/\∀j,dom ob j↔dom (Es l ob).2 j
 | [],us,E,ob,ho,h=>by cases h;exact⟨E,AV.refl _ _ _,ho,.nil,fun _=>Iff.rfl⟩
 | x :: l,us,E,ob,ho,h=>by
  cases h with
  | cons hx ht=>
   obtain⟨k,e,n,o,c⟩:=Li ho hx.2;have d:∀{l:List (Nat×List Cv)} {us:List (Nat×Value)},AN (fun (p:Nat×List Cv) (q:Nat×Value)=>p.1=q.1/\CsR w E (dom ob) p.2 q.2.cells.toList) l us->AN (fun (p:Nat×List Cv) (q:Nat×Value)=>p.1=q.1/\CsR w k (dom (frz x.2 ob).2) p.2 q.2.cells.toList) l us:=fun h=>by
    induction h with
    | nil=>exact .nil
    | cons h _ ih=>exact .cons ⟨h.1,CsR.ext e (fun j a=>(c j).1 a) h.2⟩ ih
   obtain⟨m,g,r,s,i⟩:=TP (l:=l) n (d ht);exact⟨m,e.trans g (fun j a=>(c j).1 a),r,.cons ⟨hx.1,CsR.ext g (fun j a=>(i j).1 a) o⟩ s,fun j=>(c j).trans (i j)⟩
def Mb(de:TyD)(ob:List (Nat×Ob))(i len:Nat)(ps:List (Nat×List Cv)):Option (List (Nat×Ob)):=evBuildSlice de (Es ps ob).2 i len (Es ps ob).1
theorem zCW(h:B1 P t d)(x:d.el≠0)(v:B1 P d.el de)(y:AR w E ob){len:Nat}
 (A:AN (fun (p:Nat×List Cv) (q:Nat×Value)=>p.1=q.1/\CsR w E (dom ob) p.2 q.2.cells.toList) ps vs) (b:Mb de ob i len ps=some ob') :
 ∃z w' a,(Instr.buildSlice t len vs.toArray).run P w = .ok z w'/\AV (dom ob) w E w' a/\(∀j,dom ob j->dom ob' j)/\AR w' a ob'/\AvR w' a (dom ob') (.m false [.h i]) z:=by
 obtain⟨B,g,k,l,e⟩:=TP y A;obtain⟨z,w',a,n,o,r,s,u⟩:=zDC h x v k l b;exact⟨z,w',a,n,g.trans o (fun j c=>(e j).1 c),fun j c=>r j ((e j).1 c),s,u⟩
def evLen(ob:List (Nat×Ob)):Cv->Option Nat
 | .s _ _ n _=>some n
 | .h i=>match rowE ob i with
  | some q=>some q.2.1
  | none=>none
 | .hs _ _ _ n=>some n
 | .v (.slice none 0 0)=>some 0
 | _=>none
variable{y:Value}
theorem zFJ(h:B1 P t d)(i:d.el≠0)(j:AR w E ob)(b:evLen ob x=some n)(g:CvR w E (dom ob) x y)(ty:Nat) :
 (Builtin.len_ #[t] ty #[y]).run P w = .ok (.int .i64 n) w:=by
 have:∃a c,y = .slice a n c:=by
  unfold evLen at b;split at b
  ·cases b;obtain⟨a,c,e,_⟩:=g;exact⟨a,c,e⟩
  ·split at b
   ·rename_i q hi
    obtain⟨k,m,f⟩:=q;cases b;obtain⟨_,a,c,e,_⟩:=Ku j hi;exact⟨a,c,g.2.1.trans e⟩
   ·cases b
  ·cases b;obtain⟨_,a,c,e,_⟩:=g;exact⟨a,c,e⟩
  ·cases b;exact⟨none,0,g.1⟩
  ·cases b
 obtain⟨a,c,rfl⟩:=this;simp[Builtin.len_,run_underlying (h.slice i),goInt]
def oOf:Tr->Option (Nat×Nat×(Nat->Nat->Tr))
 | .s .o k n f=>some (k,n,f)
 | _=>none
theorem zIA{T:Tr}(h:oOf T=some (k,n,f)):T = .s .o k n f:=by
 cases T with
 | v x=>cases h
 | s fl k n f=>cases fl<;>cases h;rfl
def evTake(ob:List (Nat×Ob))(r:Nat):Cv->Option (Prop×List (Nat×Ob))
 | .e i k a j=>match get ob i,get ob r with
  | some (.row k' n F),none=>match oOf (F a j)with
   | some (kk,m,h)=>if k'=k/\j+1<=k then some (a<n,put (put ob i (.row k n (Ab F a j [.s .z kk m h]))) r (.tl kk m h))else none
   | none=>none
  | _,_=>none
 | _=>none
theorem zHJ{p q a:Nat}(e:q<k)(d:j<k)(h:p*k+q=a*k+j):p=a/\q=j:=by
 have c:p=a:=by
  rcases Nat.lt_trichotomy p a with b | b | b
  ·have:=Nat.mul_le_mul_right k (show p+1<=a from b);rw[Nat.add_mul,Nat.one_mul]at this;omega
  ·exact b
  ·have:=Nat.mul_le_mul_right k (show a+1<=p from b);rw[Nat.add_mul,Nat.one_mul]at this;omega
 subst c;exact⟨rfl,by omega⟩
theorem zDc(h:B1 P t d)(lB:d.k=1)(jB:d.g=false)(ho:AR w E ob){c:Prop}(K:evTake ob r x=some (c,ob'))(hc:c)(hy:CvR w E (dom ob) x y) :
 ∃z E',(Instr.loadAt t y).run P w = .ok z w/\AV (dom ob) w E w E'/\(∀j,dom ob j->dom ob' j)/\AR w E' ob'/\AvR w E' (dom ob') (.m false [.h r]) z:=by
 cases x with
 | e i k a j=>
  simp only[evTake]at K;split at K
  ·rename_i k' n F hi hr
   split at K
   ·rename_i R m f hT
    split at K
    ·rename_i iA
     cases K;obtain⟨rfl,iA⟩:=iA;replace hT:=zIA hT;obtain⟨-,rfl⟩:=hy;obtain⟨a',cap,hv,hn,jA⟩:=ho i _ hi;obtain⟨bA,hg,cs,T,hh,hl,B⟩:=jA (by omega);obtain⟨u,hu,lA,nA⟩:=B a j hc (by omega);rw[hT]at lA nA;obtain⟨Z,J,rfl,fB⟩:=nA;obtain⟨a3,c3,e3,hm,kA⟩:=lA;cases e3;have Q:(Instr.loadAt t (.pointer (some ⟨E.bl i,a*k'+j,none⟩))).run P w = .ok (.slice Z m J) w:=by
      have:=h.run_load (w:=w) (b:=E.bl i) (o:=a*k'+j) (cs:=[.slice Z m J]) (by simp[lB]) (fun q v A=>by
       have:q=0:=by
        have:=(List.getElem?_eq_some_iff.1 A).1;simpa using this
       subst this;simp at A;subst A;rw[cell_of_row w _ _ _ T _ hh];simpa using hu)
      rw[jB]at this;simpa using this
     have iB:dom ob i:=(by unfold dom;rw[hi];rfl);have M:∀q,dom ob q->q≠r:=fun q A e=>by unfold dom at A;rw[e,hr]at A;cases A
     have I:i≠r:=M i iB;rcases Nat.eq_zero_or_pos J with e0 | e0
     ·have em:m=0:=(by omega);subst em;have hx:AV (dom ob) w E w ⟨E.g,E.bl,fun q=>if q=r then .slice Z 0 J else E.hv q⟩:=⟨Kp.refl _ _,fun _ _=>rfl,fun q A=>if_neg (M q A)⟩;refine⟨_,⟨E.g,E.bl,fun q=>if q=r then .slice Z 0 J else E.hv q⟩,Q,hx,fun q A=>BI (BI A),fun q o A=>?_,.h r,rfl,by unfold dom;rw[B8,if_pos rfl];rfl,by simp,rfl⟩;rw[B8,B8]at A;by_cases e:r=q
      ·rw[if_pos e]at A;cases A;subst e;exact⟨Z,J,by simp,by omega,fun O=>by omega⟩
      ·rw[if_neg e]at A;by_cases N:i=q
       ·rw[if_pos N]at A;cases A;subst N;refine⟨a',cap,by simp[I];exact hv,hn,fun O=>⟨bA,hg,cs,T,hh,hl,fun p q V A=>?_⟩⟩;obtain⟨u,C,W,Y⟩:=B p q V A;by_cases H:p=a/\j<=q/\q<j+1
        ·obtain⟨rfl,h3,h4⟩:=H;cases (show q=j by omega);rw[hu]at C;cases C;rw[show Ab F p j [.s .z R 0 f] p j = .s .z R 0 f by unfold Ab;rw[if_pos ⟨rfl,h3,h4⟩];simp];exact⟨_,hu,⟨Z,J,rfl,by omega,fun O=>by omega⟩,trivial⟩
        ·rw[show Ab F a j [.s .z R 0 f] p q=F p q by unfold Ab;rw[if_neg (by simpa using H)]];exact⟨u,C,W,Y⟩
       ·rw[if_neg N]at A;exact ObR.ext hx (fun q A=>BI (BI A)) (by unfold dom;rw[A];rfl) (X:=fun _=>False) (fun _ _ _=>⟨rfl,rfl⟩) (fun _ _ x=>x.elim) (fun _ _ _ _ x=>x.elim) (ho q o A)
     ·obtain⟨b,rfl,D,cc,tt,gA,mA⟩:=fB e0;have hk:Kp w E.g w (fun q=>if q=b then .ow (.nm r) (m*R)else E.g q):=by
       refine⟨rfl,rfl,rfl,Nat.le_refl _,fun q x S _=>⟨rfl,?_⟩,fun q o l S _=>⟨fun _ _=>rfl,.inl ?_⟩⟩
       ·rw[if_neg (fun e=>by rw[e,D]at S;cases S)];exact S
       ·by_cases e:q=b
        ·rw[e,D]at S;cases S;exact⟨_,_,if_pos e,Nat.le_refl _⟩
        ·exact⟨o,l,by rw[if_neg e];exact S,Nat.le_refl _⟩
      have hx:AV (dom ob) w E w ⟨fun q=>if q=b then .ow (.nm r) (m*R)else E.g q,fun q=>if q=r then b else E.bl q,fun q=>if q=r then .slice (some ⟨b,0,none⟩) m J else E.hv q⟩:=⟨hk,fun q A=>if_neg (M q A),fun q A=>if_neg (M q A)⟩;have eB:E.bl i≠b:=fun e=>by rw[e,D]at hg;cases hg
      refine⟨_,_,Q,hx,fun q A=>BI (BI A),fun q o A=>?_,.h r,rfl,by unfold dom;rw[B8,if_pos rfl];rfl,by simp,rfl⟩;rw[B8,B8]at A;by_cases e:r=q
      ·rw[if_pos e]at A;cases A;subst e;refine⟨some ⟨b,0,none⟩,J,by simp,hm,fun O=>⟨by simp,by simp,cc.toList,tt,by simpa using gA,by simpa using mA,fun p q V A=>?_⟩⟩;obtain⟨b',o',e4,cA,nB,U⟩:=kA (by omega);cases e4;obtain⟨v,pA,oB⟩:=U p q V A;refine⟨v,?_,oB.kp hk⟩;rw[Nat.zero_add,cell_of_row w _ _ _ tt _ gA]at pA;simpa using pA
      ·rw[if_neg e]at A;by_cases N:i=q
       ·rw[if_pos N]at A;cases A;subst N;refine⟨a',cap,by simp[I];exact hv,hn,fun O=>⟨by simp[I];exact bA,by simp[I,eB];exact hg,cs,T,by simp[I];exact hh,hl,fun p q V A=>?_⟩⟩;obtain⟨u,C,W,Y⟩:=B p q V A;by_cases H:p=a/\j<=q/\q<j+1
        ·obtain⟨rfl,h3,h4⟩:=H;cases (show q=j by omega);rw[hu]at C;cases C;rw[show Ab F p j [.s .z R m f] p j = .s .z R m f by unfold Ab;rw[if_pos ⟨rfl,h3,h4⟩];simp];refine⟨_,hu,⟨_,J,rfl,hm,fun O=>?_⟩,trivial⟩;obtain⟨b',o',e4,cA,nB,U⟩:=kA O;cases e4;refine⟨b,0,rfl,cA,by simp[Bs.ok],fun p q V A=>let ⟨v,hv,hs⟩:=U p q V A;⟨v,hv,hs.kp hk⟩⟩
        ·rw[show Ab F a j [.s .z R m f] p q=F p q by unfold Ab;rw[if_neg (by simpa using H)]];refine⟨u,C,W.kp hk,?_⟩;simp only[if_neg I];revert Y;cases F p q with
         | v x=>exact id
         | s fl k2 n2 f2=>
          cases fl with
          | b=>exact id
          | z=>exact id
          | o=>
           rintro⟨a4,c4,rfl,gB⟩;refine⟨a4,c4,rfl,fun O=>?_⟩;obtain⟨b4,e4,L,dA⟩:=gB O;refine⟨b4,e4,?_,dA⟩;show(if b4=b then _ else _)=_;rw[if_neg ?_]
           ·exact L
           ·intro e;rw[e,D]at L;simp only[Bs.ow.injEq,Ow.tl.injEq,true_and]at L;obtain⟨rfl,rfl⟩:=zHJ A (by omega) L.1.symm;exact H ⟨rfl,Nat.le_refl _,by omega⟩
       ·rw[if_neg N]at A;refine ObR.ext hx (fun q A=>BI (BI A)) (by unfold dom;rw[A];rfl) (X:=fun z=>z=b) (fun z _ hz=>⟨rfl,if_neg hz⟩) (fun z l hz G=>?_) (fun fA z j' l hz G=>?_) (ho q o A)
        ·rw[hz,D]at G;cases G
        ·rw[hz,D]at G;simp only[Bs.ow.injEq,Ow.tl.injEq]at G;rw[<-G.1.1,hg]at fA;cases fA;exact N rfl
    ·cases K
   ·cases K
  ·cases K
 | _=>cases K
end
section
variable {P : Program} {t : Nat} {d de : TyD}
variable{w:World}{n cap b o m c':Nat}{c:List Value}
theorem VY(h:B1 P t d)(y:d.el≠0)(s:B1 P d.el de){B:Nat}{T:TypeId}(z:w.heap[B]?=some (.cells c.toArray T (0,0)))(x:c.length=cap*de.k){a:List Value}
 (r:a.length=m*de.k) (g:∀(j:Nat) u,a[j]?=some u->w.cell? ⟨b,o+j,none⟩=some u) (v:∀u∈a,u.oneCell'=true) (e:n+m<=cap) (ty:Nat) :
 (Builtin.append_ #[t,t] ty #[.slice (some ⟨B,0,none⟩) n cap,.slice (some ⟨b,o,none⟩) m c']).run P w = .ok (.slice (some ⟨B,0,none⟩) (n+m) cap) (w.setRow B (c.take (n*de.k) ++ a ++ c.drop (n*de.k+a.length)).toArray):=by
 obtain⟨i,hi,hs,D,C⟩:=s.get;have l:n*de.k+a.length<=c.length:=by
  rw[r,x,<-Nat.add_mul];exact Nat.mul_le_mul_right _ e
 have q:=run_firstCells_some (P:=P) w i.size m ⟨b,o,none⟩ m c' a (by rw[hs];exact r) (fun j u A=>by rw[Gf];exact g j u A);have p:=run_storeCells_at P B (n*de.k) T a 0 c.toArray w z (by simpa using l) v;simp only[Nat.add_zero]at p;rw[hs]at q;simp[Builtin.append_,run_underlying (h.slice y),sizeOf,typeInfo,hi,hs,Builtin.lenOf,e,q,Gf,p]
variable{a:Option Addr}
theorem O4(h:B1 P t d)(c:d.el≠0)(e:B1 P d.el de){a':Option Addr}(hn:n<=cap)(ty:Nat) :
 (Builtin.append_ #[t,t] ty #[.slice a n cap,.slice a' 0 c']).run P w = .ok (.slice a n cap) w:=by
 obtain⟨i,hi,hs,j,g⟩:=e.get;cases a' with
 | none=>cases a<;>simp[Builtin.append_,run_underlying (h.slice c),sizeOf,typeInfo,hi,Builtin.lenOf,hn,Builtin.firstCells,storeCells]
 | some b=>cases a<;>simp[Builtin.append_,run_underlying (h.slice c),sizeOf,typeInfo,hi,Builtin.lenOf,hn,Builtin.firstCells,loadCells,loadCellsFrom,storeCells]
theorem Qj(h:B1 P t d)(G:d.el≠0)(x:B1 P d.el de){olds:List Value}(E:olds.length=n*de.k)(holds:0<n->∃B,a=some ⟨B,0,none⟩/\∀(j:Nat) u,olds[j]?=some u->w.cell? ⟨B,j,none⟩=some u)
 (J:c.length=m*de.k) (l:∀(j:Nat) u,c[j]?=some u->w.cell? ⟨b,o+j,none⟩=some u) (hn:n<=cap) (H:cap<n+m) (r:n+m<=1000000000) (ty:Nat) :
 ∃g rest,n+m<=g/\rest.length=(g - (n+m))*de.k/\
  (Builtin.append_ #[t,t] ty #[.slice a n cap,.slice (some ⟨b,o,none⟩) m c']).run P w = .ok (.slice (some ⟨w.heap.size,0,none⟩) (n+m) g) (w.drew.alloc (.cells (olds ++ c ++ rest).toArray d.el)):=by
 obtain⟨i,hi,hs,K,Q⟩:=x.get;have O:=x.Bo;have p:=growslice_fits H (show(n+m)*i.bytes<=140737488355328 by
  have:=Nat.mul_le_mul r (show i.bytes<=1024 by omega);omega)
 have s:de.zv.cells.size=de.k:=by rw[x.zcells];simpa using x.len
 cases a with
 | none=>
  have D:n=0:=by
   rcases Nat.eq_zero_or_pos n with e | e
   ·exact e
   ·obtain⟨B,L,_⟩:=holds e;cases L
  subst D;have q:olds = []:=(by simpa using E);subst q;simp only[Nat.zero_add]at *;refine⟨grownCap w m cap d.el,(Builtin.zeroCells de.zv.cells (grownCap w m cap d.el - m)).toList,grownCap_ge _ _ _ _,by rw[Array.length_toList,size_zeroCells,s],?_⟩;have y:=run_firstCells_some (P:=P) w.drew i.size m ⟨b,o,none⟩ m c' c (by rw[hs];exact J) (fun j u F=>by rw[Gf];simpa using l j u F);rw[hs]at y;have hn:¬(m<=cap):=(by omega);have z:¬(281474976710656<Builtin.nextslicecap m cap*i.bytes):=(by omega);have C:¬(9223372036854775807<(m:Int)):=(by omega);simp[Builtin.append_,run_underlying (h.slice G),sizeOf,typeInfo,zeroValue,hi,hs,K,Builtin.lenOf,hn,C,z,Question.forced,run_firstCells_none,y,newRow,grownCap];congr 2;apply Array.ext';simp
 | some A=>
  have y:=run_append_grow (P:=P) w t ty d.el i de.zv (h.slice G) hi K A n cap olds (by rw[hs];exact E) (fun j v I=>by
   have M:0<n:=by
    rcases Nat.eq_zero_or_pos n with e | e
    ·subst e;have q:olds = []:=(by simpa using E);subst q;simp at I
    ·exact e
   obtain⟨B,e,N⟩:=holds M;cases e;rw[Gf,Nat.zero_add];exact N j v I) ⟨b,o,none⟩ m c' c (by rw[hs];exact J) (fun j u F=>by rw[Gf];exact l j u F) H (by omega) p
  refine⟨grownCap w (n+m) cap d.el,(Builtin.zeroCells de.zv.cells (grownCap w (n+m) cap d.el - (n+m))).toList,grownCap_ge _ _ _ _,by rw[Array.length_toList,size_zeroCells,s],?_⟩;rw[y];congr 3;apply Array.ext';simp
end
def Tr.nt:Tr->Tr
 | .s .o k n f=>.s .z k n f
 | T=>T
variable{w:World}{g:Nat->Bs}{T:Tr}{u:Value}
theorem Sh.nt(h:Sh w g T u):Sh w g T.nt u:=by
 cases T with
 | v x=>exact h
 | s fl k n f=>
  cases fl with
  | b=>exact h
  | z=>exact h
  | o=>exact Sh.cv (E:=⟨g,fun _=>0,fun _=>.bool false⟩) (D:=fun _=>True) h
variable{B j:Nat}
theorem Tr.nt_tail:By w g B j T.nt u:=by
 cases T with
 | v x=>trivial
 | s fl k n f=>cases fl<;>trivial
def srcOf(k:Nat)(ob:List (Nat×Ob)):Cv->Option (Prop×Nat×(Nat->Nat->Tr))
 | .s _ k' n f=>if k'=k then some (True,n,fun p q=>(f p q).nt)else none
 | .h i=>match rowE ob i with
  | some (k',n,f)=>if k'=k then some (True,n,fun p q=>(f p q).nt)else none
  | none=>none
 | .hs i k' lo m=>match rowE ob i with
  | some (k2,n,f)=>if k'=k/\k2=k then some (lo+m<=n,m,fun p q=>(f (lo+p) q).nt)else none
  | none=>none
 | .v (.slice none 0 0)=>some (True,0,fun _ _=>.v (.bool false))
 | _=>none
def Zc(w:World)(g:Nat->Bs)(k m:Nat)(f:Nat->Nat->Tr)(y:Value):Prop:=
 ∃a c,y = .slice a m c/\(0<m->∃b o,a=some ⟨b,o,none⟩/\∀i j,i<m->j<k->∃u,w.cell? ⟨b,o+(i*k+j),none⟩=some u/\Sh w g (f i j) u)
variable{E:En}{ob:List (Nat×Ob)}{k:Nat}{f:Nat->Nat->Tr}{x:Cv}
theorem Ud(F:AR w E ob){m:Nat}{C:Prop}(h:srcOf k ob x=some (C,m,f))(J:C){y:Value}(z:CvR w E (dom ob) x y) :
 (∀p q,∀B j u,By w E.g B j (f p q) u)/\Zc w E.g k m f y:=by
 unfold srcOf at h;split at h
 ·split at h
  ·rename_i e
   subst e;cases h;obtain⟨a,c,e,hn,r⟩:=z;refine⟨fun p q B j u=>Tr.nt_tail,a,c,e,fun l=>?_⟩;obtain⟨b,o,v,_,_,d⟩:=r l;exact⟨b,o,v,fun i j hi s=>let ⟨u,t,hs⟩:=d i j hi s;⟨u,t,hs.nt⟩⟩
  ·cases h
 ·rename_i i
  split at h
  ·rename_i I n f' hi
   split at h
   ·rename_i e
    subst e;cases h;obtain⟨-,a,cap,hv,hn,r⟩:=Ku F hi;refine⟨fun p q B j u=>Tr.nt_tail,a,cap,z.2.1.trans hv,fun l=>?_⟩;obtain⟨v,_,cs,T,D,_,d⟩:=r (by omega);refine⟨E.bl i,0,v,fun p j G s=>?_⟩;obtain⟨u,t,hs⟩:=d p j G s;refine⟨u,?_,hs.nt⟩;rw[Nat.zero_add,cell_of_row w _ _ _ T _ D];simpa using t
   ·cases h
  ·cases h
 ·rename_i i I lo m'
  split at h
  ·rename_i K n f' hi
   split at h
   ·rename_i e
    obtain⟨rfl,rfl⟩:=e;cases h;obtain⟨-,a,cap,hv,hn,r⟩:=Ku F hi;obtain⟨-,H,c',e,A⟩:=z;refine⟨fun p q B j u=>Tr.nt_tail,H,c',e,fun l=>?_⟩;obtain⟨v,_,cs,T,D,_,d⟩:=r (by omega);refine⟨E.bl i,_,A l,fun p j G s=>?_⟩;obtain⟨u,t,hs⟩:=d (lo+p) j (by omega) s;refine⟨u,?_,hs.nt⟩;rw[cell_of_row w _ _ _ T _ D,<-Nat.add_assoc,<-Nat.add_mul];simpa using t
   ·cases h
  ·cases h
 ·cases h;exact⟨fun p q B j u=>trivial,none,0,z.1,fun l=>by omega⟩
 ·cases h
theorem YQ{b o:Nat}:∀(m:Nat),(∀i j,i<m->j<k->∃u,w.cell? ⟨b,o+(i*k+j),none⟩=some u)->∃cs:List Value,cs.length=m*k/\∀(j:Nat) u,cs[j]?=some u->w.cell? ⟨b,o+j,none⟩=some u:=by
 intro m h;obtain⟨cs,c,d,_⟩:=Oj (w:=w) (b:=b) (o:=o) (R:=fun _ _=>True) (fun _=>.h 0) (m*k) (fun q g=>by
  rcases Nat.eq_zero_or_pos k with e | e
  ·subst e;omega
  ·obtain⟨u,a⟩:=h (q / k) (q % k) ((Nat.div_lt_iff_lt_mul e).2 g) (Nat.mod_lt _ e);rw[Nat.mul_comm,Nat.div_add_mod]at a;exact⟨u,a,trivial⟩)
 exact⟨cs,c,d⟩
def Ai(f:Nat->Nat->Tr)(n:Nat)(f':Nat->Nat->Tr):Nat->Nat->Tr:=fun p q=>if p<n then f p q else f' (p - n) q
theorem Kp.turn{o o':Ow}(h:g B = .ow o 0)(c:Array Value):Kp w g (w.setRow B c) (fun b=>if b=B then .ow o' 0 else g b):=by
 refine⟨rfl,rfl,rfl,by simp[World.setRow],fun b r a l=>?_,fun b q i a l=>?_⟩
 ·have d:b≠B:=fun e=>by rw[e,h]at a;cases a
  exact⟨Fu w B c b d,by rw[if_neg d];exact a⟩
 ·by_cases e:b=B
  ·subst e;rw[h]at a;cases a;exact⟨fun j k=>by omega,.inl ⟨o',0,if_pos rfl,Nat.le_refl _⟩⟩
  ·exact⟨fun j k=>World.cell?_of_block (w:=w) (Fu w B c b e),.inl ⟨q,i,by rw[if_neg e];exact a,Nat.le_refl _⟩⟩
theorem By.ext{w':World}{g':Nat->Bs}{B':Nat}(h:By w g B j T u)(A:∀b e,g b = .ow (.tl B j) e->b<w.heap.size->w'.heap[b]?=w.heap[b]?/\g' b = .ow (.tl B' j) e):By w' g' B' j T u:=by
 revert h;cases T with
 | v x=>exact id
 | s fl k n f=>
  cases fl with
  | b=>exact id
  | z=>exact id
  | o=>
   rintro⟨a,c,rfl,y⟩;refine⟨a,c,rfl,fun q=>?_⟩;obtain⟨b,r,i,cs,t,d,l⟩:=y q;obtain⟨m,p⟩:=A b _ i (Array.getElem?_eq_some_iff.1 d).1;exact⟨b,r,p,cs,t,by rw[m];exact d,l⟩
variable{i:Nat}
theorem Ir(hi:dom ob i)(a:get ob j=none):i≠j:=fun e=>by unfold dom at hi;rw[e,a]at hi;cases hi
def Frm(w w':World)(E E':En)(i:Option Nat):Prop:=∀b,b<w.heap.size->(∀q,i=some q->(∀lim,E.g b≠.ow (.nm q) lim)/\∀j lim,E.g b≠.ow (.tl (E.bl q) j) lim)->w'.heap[b]?=w.heap[b]?/\E'.g b=E.g b
variable{r n:Nat}{c1:List Value}
theorem UL(G:AR w E ob)(hi:dom ob i)(J:get ob r=none)(s:E.g (E.bl i) = .ow (.nm i) 0){c:Array Value}{T:TypeId}(D:w.heap[E.bl i]?=some (.cells c T (0,0))){cap:Nat}
 (hn:n<=cap) (F:c1.length=cap*k) (B:∀p j,p<n->j<k->∃u,c1[p*k+j]?=some u/\Sh w E.g (f p j) u/\By w E.g (E.bl i) (p*k+j) (f p j) u) :
 ∃x,AV (dom ob) w E (w.setRow (E.bl i) c1.toArray) x/\AR (w.setRow (E.bl i) c1.toArray) x (put (put ob i .dead) r (.row k n f))/\AvR (w.setRow (E.bl i) c1.toArray) x (dom (put (put ob i .dead) r (.row k n f))) (.m false [.h r]) (.slice (some ⟨E.bl i,0,none⟩) n cap)/\Frm w (w.setRow (E.bl i) c1.toArray) E x (some i):=by
 have l:∀j,dom ob j->j≠r:=fun j a=>Ir a J
 have z:AV (dom ob) w E (w.setRow (E.bl i) c1.toArray) ⟨fun b=>if b=E.bl i then .ow (.nm r) 0 else E.g b,fun j=>if j=r then E.bl i else E.bl j,fun j=>if j=r then .slice (some ⟨E.bl i,0,none⟩) n cap else E.hv j⟩:=
  ⟨Kp.turn s _,fun j a=>if_neg (l j a),fun j a=>if_neg (l j a)⟩
 refine⟨_,z,fun j b a=>?_,⟨.h r,rfl,by unfold dom;rw[B8,if_pos rfl];rfl,by simp,rfl⟩,fun b o I=>?_⟩;rotate_left
 ·have l:b≠E.bl i:=fun e=>(I i rfl).1 0 (e▸s)
  exact⟨Fu _ _ _ _ l,if_neg l⟩
 rw[B8,B8]at a;by_cases e:r=j
 ·subst e;rw[if_pos rfl]at a;cases a;refine⟨some ⟨E.bl i,0,none⟩,cap,by simp,hn,fun M=>⟨by simp,by simp,c1,T,by simpa using setRow_heap _ _ _ _ _ _ D,F,fun p j H a=>?_⟩⟩;obtain⟨u,L,hs,K⟩:=B p j H a;refine⟨u,L,hs.kp z.kp,?_⟩;simp only[if_true];refine K.ext (fun b v o A=>?_);have q:b≠E.bl i:=fun e=>by rw[e,s]at o;cases o
  exact⟨Fu _ _ _ _ q,by rw[if_neg q];exact o⟩
 ·rw[if_neg e]at a;by_cases y:i=j
  ·rw[if_pos y]at a;cases a;trivial
  ·rw[if_neg y]at a;have C:dom ob j:=(by unfold dom;rw[a];rfl);refine ObR.ext z (fun j a=>BI (BI a)) C (X:=fun b=>b=E.bl i) (fun b o t=>⟨Fu _ _ _ _ t,if_neg t⟩) (fun b v o d=>?_) (fun _ b N v o d=>?_) (G j b a)
   ·rw[o,s]at d;cases d;exact y rfl
   ·rw[o,s]at d;cases d
def Bs.mv(B B':Nat):Bs->Bs
 | .ow (.tl b j) lim=>if b=B then .ow (.tl B' j) lim else .ow (.tl b j) lim
 | s=>s
theorem zGX(L:AR w E ob)(hi:dom ob i)(O:get ob r=none)(J:E.g (E.bl i) = .ow (.nm i) 0){cap:Nat}{T:TypeId}
 (hn:n<=cap) (t:c1.length=cap*k) (H:∀p j,p<n->j<k->∃u,c1[p*k+j]?=some u/\Sh w E.g (f p j) u/\By w E.g (E.bl i) (p*k+j) (f p j) u) :
 ∃z,AV (dom ob) w E (w.alloc (.cells c1.toArray T)) z/\AR (w.alloc (.cells c1.toArray T)) z (put (put ob i .dead) r (.row k n f))/\AvR (w.alloc (.cells c1.toArray T)) z (dom (put (put ob i .dead) r (.row k n f))) (.m false [.h r]) (.slice (some ⟨w.heap.size,0,none⟩) n cap)/\Frm w (w.alloc (.cells c1.toArray T)) E z (some i):=by
 have v:∀j,dom ob j->j≠r:=fun j c=>Ir c O
 have K:Kp w E.g (w.alloc (.cells c1.toArray T)) (fun b=>if b=w.heap.size then .ow (.nm r) 0 else(E.g b).mv (E.bl i) w.heap.size):=by
  refine⟨rfl,rfl,rfl,by simp,fun b q d t=>⟨Below.heap_alloc _ _ _ t,?_⟩,fun b q a d t=>⟨fun j _=>World.cell?_of_block (w:=w) (Below.heap_alloc _ _ _ t),?_⟩⟩
  ·rw[if_neg (by omega),d];rfl
  ·rw[if_neg (by omega),d];cases q with
   | nm x=>exact .inl ⟨_,a,rfl,Nat.le_refl _⟩
   | tl x y=>
    by_cases e:x=E.bl i
    ·exact .inl ⟨.tl w.heap.size y,a,by simp[Bs.mv,e],Nat.le_refl _⟩
    ·exact .inl ⟨.tl x y,a,by simp[Bs.mv,e],Nat.le_refl _⟩
 have F:AV (dom ob) w E (w.alloc (.cells c1.toArray T)) ⟨fun b=>if b=w.heap.size then .ow (.nm r) 0 else(E.g b).mv (E.bl i) w.heap.size,fun j=>if j=r then w.heap.size else E.bl j,fun j=>if j=r then .slice (some ⟨w.heap.size,0,none⟩) n cap else E.hv j⟩:=
  ⟨K,fun j c=>if_neg (v j c),fun j c=>if_neg (v j c)⟩
 refine⟨_,F,fun j b c=>?_,⟨.h r,rfl,by unfold dom;rw[B8,if_pos rfl];rfl,by simp,rfl⟩,fun b d N=>?_⟩;rotate_left
 ·refine⟨Below.heap_alloc _ _ _ d,?_⟩;show(if b=w.heap.size then _ else _)=_;rw[if_neg (by omega)];cases hgb:E.g b with
  | fz r=>rfl
  | ow o a=>
   cases o with
   | nm j=>rfl
   | tl B j=>
    refine if_neg (fun e=>(N i rfl).2 j a ?_);rw[<-e];exact hgb
 rw[B8,B8]at c;by_cases e:r=j
 ·subst e;rw[if_pos rfl]at c;cases c;refine⟨some ⟨w.heap.size,0,none⟩,cap,by simp,hn,fun R=>⟨by simp,by simp,c1,T,by simpa using OG w _,t,fun p j M c=>?_⟩⟩;obtain⟨u,Q,hs,P⟩:=H p j M c;refine⟨u,Q,hs.kp F.kp,?_⟩;simp only[if_true];exact P.ext (fun b a d C=>⟨Below.heap_alloc _ _ _ C,by rw[if_neg (by omega),d];simp[Bs.mv]⟩)
 ·rw[if_neg e]at c;by_cases A:i=j
  ·rw[if_pos A]at c;cases c;trivial
  ·rw[if_neg A]at c;have I:dom ob j:=(by unfold dom;rw[c];rfl);refine ObR.ext F (fun j c=>BI (BI c)) I (X:=fun b=>∃q a,E.g b = .ow (.tl (E.bl i) q) a) (fun b d D=>⟨Below.heap_alloc _ _ _ d,?_⟩) (fun b a ⟨q,l,d⟩ hgb=>?_) (fun s b S a ⟨q,l,d⟩ hgb=>?_) (L j b c)
   ·show(if b=w.heap.size then _ else _)=_;rw[if_neg (by omega)];cases hgb:E.g b with
    | fz x=>rfl
    | ow q a=>
     cases q with
     | nm x=>rfl
     | tl x y=>
      have:x≠E.bl i:=fun e=>D ⟨y,a,by rw[hgb,e]⟩
      simp[Bs.mv,this]
   ·rw[d]at hgb;cases hgb
   ·rw[d]at hgb;simp only[Bs.ow.injEq,Ow.tl.injEq]at hgb;have G:=hgb.1.1;rw[<-G,J]at s;cases s;exact A rfl
def dstOf(k:Nat)(ob:List (Nat×Ob)):Cv->Option (Option Nat×Nat×(Nat->Nat->Tr))
 | .h i=>match get ob i with
  | some (.row k' n f)=>if k'=k then some (some i,n,f)else none
  | _=>none
 | .v (.slice none 0 0)=>some (none,0,fun _ _=>.v (.bool false))
 | _=>none
def D4(ob:List (Nat×Ob)):Option Nat->List (Nat×Ob)
 | some i=>put ob i .dead
 | none=>ob
variable{P:Program}
theorem Yt{t:Nat}{d de:TyD}(h:B1 P t d)(he:d.el≠0)(h':B1 P d.el de)(ho:AR w E ob){m:Nat}{i:Option Nat}{f':Nat->Nat->Tr}(hr:get ob r=none)(N:dstOf de.k ob x=some (i,n,f))(hc:n+m<=1000000000){v:Value}(I:CvR w E (dom ob) x u)(vA:∀p q,∀B j u,By w E.g B j (f' p q) u)(S:Zc w E.g de.k m f' v)(ty:Nat) :
 ∃z w' D,(Builtin.append_ #[t,t] ty #[u,v]).run P w = .ok z w'/\AV (dom ob) w E w' D/\(∀j,dom ob j->dom (put (D4 ob i) r (.row de.k (n+m) (Ai f n f'))) j)/\AR w' D (put (D4 ob i) r (.row de.k (n+m) (Ai f n f')))/\AvR w' D (dom (put (D4 ob i) r (.row de.k (n+m) (Ai f n f')))) (.m false [.h r]) z/\Frm w w' E D i:=by
 obtain⟨a',c',rfl,tA⟩:=S;obtain⟨b,o,l,hl,H,aA,sA⟩:∃b o,∃l:List Value,l.length=m*de.k/\(∀(j:Nat) u,l[j]?=some u->w.cell? ⟨b,o+j,none⟩=some u)/\(0<m->a'=some ⟨b,o,none⟩)/\∀p j,p<m->j<de.k->∃u,l[p*de.k+j]?=some u/\Sh w E.g (f' p j) u:=by
  rcases Nat.eq_zero_or_pos m with e | e
  ·subst e;exact⟨0,0,[],by simp,fun j u h=>by simp at h,fun h=>by omega,fun p j F=>by omega⟩
  ·obtain⟨b,o,ha,A⟩:=tA e;obtain⟨cs,Z,W⟩:=YQ m (fun p j F c=>let ⟨u,I,_⟩:=A p j F c;⟨u,I⟩);refine⟨b,o,cs,Z,W,fun _=>ha,fun p j F c=>?_⟩;obtain⟨u,I,fA⟩:=A p j F c;have cA:=Fg F c;have h5:cs[p*de.k+j]?=some cs[p*de.k+j]:=List.getElem?_eq_getElem (by omega);have h6:=W _ _ h5;rw[I]at h6;cases h6;exact⟨_,h5,fA⟩
 have rA:∀u∈l,u.oneCell'=true:=fun u I=>by
  obtain⟨q,Y⟩:=List.getElem?_of_mem I;have cA:=(List.getElem?_eq_some_iff.1 Y).1;have F:=h'.pos;obtain⟨u',aB,vB⟩:=sA (q / de.k) (q % de.k) ((Nat.div_lt_iff_lt_mul F).2 (by omega)) (Nat.mod_lt _ F);rw[Nat.mul_comm,Nat.div_add_mod,Y]at aB;cases aB;exact vB.one
 have Q:∀(olds rest:List Value),olds.length=n*de.k->∀p j,p<n+m->j<de.k->¬p<n->∃u,(olds ++ l ++ rest)[p*de.k+j]?=some u/\Sh w E.g (Ai f n f' p j) u/\∀B q,By w E.g B q (Ai f n f' p j) u:=fun olds rest rB p j F c s=>by
  obtain⟨u,I,fA⟩:=sA (p - n) j (by omega) c;have e:p*de.k+j=n*de.k+((p - n)*de.k+j):=by
   rw[<-Nat.add_assoc,<-Nat.add_mul];congr 2;omega
  refine⟨u,?_,?_,fun B q=>?_⟩
  ·have cA:=(List.getElem?_eq_some_iff.1 I).1;rw[e,List.append_assoc,List.getElem?_append_right (by omega),rB,Nat.add_sub_cancel_left,List.getElem?_append_left cA];exact I
  ·unfold Ai;rw[if_neg s];exact fA
  ·unfold Ai;rw[if_neg s];exact vA _ _ _ _ _
 have y:u = .slice none 0 0\/(∃a,u = .slice a 0 0)->n=0->(∀j,dom ob j->dom (put (D4 ob i) r (.row de.k (n+m) (Ai f n f'))) j)->((i=none)\/∃q,i=some q/\dom ob q)->
  ∃z w' D,(Builtin.append_ #[t,t] ty #[u,.slice a' m c']).run P w = .ok z w'/\AV (dom ob) w E w' D/\(∀j,dom ob j->dom (put (D4 ob i) r (.row de.k (n+m) (Ai f n f'))) j)/\AR w' D (put (D4 ob i) r (.row de.k (n+m) (Ai f n f')))/\AvR w' D (dom (put (D4 ob i) r (.row de.k (n+m) (Ai f n f')))) (.m false [.h r]) z/\Frm w w' E D i:=by
  intro bC pB G Y;obtain⟨a,rfl⟩:∃a,u = .slice a 0 0:=by rcases bC with e | ⟨a,e⟩;exact⟨none,e⟩;exact⟨a,e⟩
  subst pB;have O:∀{w1:World} {E1:En},AR w1 E1 (put ob r (.row de.k (0+m) (Ai f 0 f')))->AR w1 E1 (put (D4 ob i) r (.row de.k (0+m) (Ai f 0 f'))):=by
   intro w1 E1 dA;rcases Y with rfl | ⟨q,rfl,sB⟩
   ·exact dA
   ·have oC:q≠r:=Ir sB hr;intro j bb c;have hD:∀j,dom (put ob r (.row de.k (0+m) (Ai f 0 f'))) j->dom (put (D4 ob (some q)) r (.row de.k (0+m) (Ai f 0 f'))) j:=by
     intro j c;unfold dom D4 at *;rw[B8]at c ⊢;by_cases e:r=j
     ·rw[if_pos e];rfl
     ·rw[if_neg e]at c ⊢;rw[B8];split
      ·rfl
      ·exact c
    simp only[D4]at c;rw[B8,B8]at c;by_cases e:r=j
    ·subst e;rw[if_pos rfl]at c;cases c;exact ObR.ext (AV.refl _ _ _) hD (by unfold dom;rw[B8,if_pos rfl];rfl) (X:=fun _=>False) (fun _ _ _=>⟨rfl,rfl⟩) (fun _ _ x=>x.elim) (fun _ _ _ _ x=>x.elim) (dA r _ (by rw[B8,if_pos rfl]))
    ·rw[if_neg e]at c;by_cases e':q=j
     ·rw[if_pos e']at c;cases c;trivial
     ·rw[if_neg e']at c;exact ObR.ext (AV.refl _ _ _) hD (by unfold dom;rw[B8,if_neg e,c];rfl) (X:=fun _=>False) (fun _ _ _=>⟨rfl,rfl⟩) (fun _ _ x=>x.elim) (fun _ _ _ _ x=>x.elim) (dA j _ (by rw[B8,if_neg e];exact c))
  rcases Nat.eq_zero_or_pos m with e | e
  ·subst e;have cB:AV (dom ob) w E w ⟨E.g,E.bl,fun j=>if j=r then .slice a 0 0 else E.hv j⟩:=⟨Kp.refl _ _,fun _ _=>rfl,fun j c=>if_neg (Ir c hr)⟩;refine⟨_,_,⟨E.g,E.bl,fun j=>if j=r then .slice a 0 0 else E.hv j⟩,O4 h he h' (Nat.le_refl _) ty,cB,G,O (fun j bb c=>?_),⟨.h r,rfl,by unfold dom;rw[B8,if_pos rfl];rfl,by simp,rfl⟩,fun _ _ _=>⟨rfl,rfl⟩⟩;rw[B8]at c;by_cases e:r=j
   ·subst e;rw[if_pos rfl]at c;cases c;exact⟨a,0,by simp,Nat.le_refl _,fun h0=>by omega⟩
   ·rw[if_neg e]at c;have N:dom ob j:=(by unfold dom;rw[c];rfl);exact ObR.ext cB (fun j c=>BI c) N (X:=fun _=>False) (fun _ _ _=>⟨rfl,rfl⟩) (fun _ _ x=>x.elim) (fun _ _ _ _ x=>x.elim) (ho j bb c)
  ·have ea:=aA e;subst ea;obtain⟨M,rest,Z,W,h3⟩:=Qj h he h' (w:=w) (a:=a) (n:=0) (cap:=0) (olds:=[]) (by simp) (fun h0=>by omega) hl H (Nat.le_refl _) (by omega) hc ty (c':=c');have eA:AR w.drew E ob:=fun j bb c=>ObR.ext ⟨Kp.drew _ _,fun _ _=>rfl,fun _ _=>rfl⟩ (fun _ h=>h) (by unfold dom;rw[c];rfl) (X:=fun _=>False) (fun _ _ _=>⟨rfl,rfl⟩) (fun _ _ x=>x.elim) (fun _ _ _ _ x=>x.elim) (ho j bb c)
   obtain⟨D,C,J,K,V⟩:=UG eA hr (k:=de.k) (n:=0+m) (cap:=M) (f:=Ai f 0 f') (cs:=[] ++ l ++ rest) Z (by simp[W,hl];rw[<-Nat.add_mul];congr 1;omega) (fun p j F c=>by
    obtain⟨u,C,J,K⟩:=Q [] rest (by simp) p j F c (by omega);exact⟨u,C,J.kp (Kp.drew _ _),fun B o=>(K B o).ext (fun b eB S _=>⟨rfl,S⟩)⟩) (fun p j F c k2 n2 f2 e=>by
    have:=vA (p - 0) j 0 0 (.bool false);unfold Ai at e;rw[if_neg (by omega)]at e;rw[e]at this;obtain⟨_,_,e',_⟩:=this;cases e') d.el
   refine⟨_,_,D,h3,⟨(Kp.drew _ _).trans C.kp,C.bl,C.hv⟩,G,O J,?_⟩;refine⟨K.ext (AV.refl _ _ _) (fun j c=>?_),fun b S _=>V b S⟩;unfold dom at *;rw[B8]at c ⊢;by_cases e:r=j
   ·rw[if_pos e];rfl
   ·rw[if_neg e]at c ⊢;cases i with
    | none=>exact c
    | some q=>exact BI c
 unfold dstOf at N;split at N
 ·rename_i i'
  split at N
  ·rename_i k' n' fo hi
   split at N
   ·rename_i ek
    subst ek;cases N;obtain⟨a,cap,bB,hn,nA⟩:=ho _ _ hi;obtain⟨U,rfl,-⟩:=I;rw[bB];have G:∀j,dom ob j->dom (put (D4 ob (some i')) r (.row de.k (n+m) (Ai f n f'))) j:=fun j c=>BI (BI c)
    rcases Nat.eq_zero_or_pos cap with e0 | e0
    ·subst e0;have en:n=0:=(by omega);rw[bB]at y;subst en;exact y (.inr ⟨a,rfl⟩) rfl G (.inr ⟨i',rfl,U⟩)
    ·obtain⟨ha,hg,cs,T,hh,bA,A⟩:=nA e0;subst ha;by_cases hm:n+m<=cap
     ·
      have L:∀(c1:List Value),(∀q,q<n*de.k->c1[q]?=cs[q]?)->(∀p j,p<n+m->j<de.k->¬p<n->∃u,c1[p*de.k+j]?=some u/\Sh w E.g (Ai f n f' p j) u/\∀B q,By w E.g B q (Ai f n f' p j) u)->∀p j,p<n+m->j<de.k->∃u,c1[p*de.k+j]?=some u/\Sh w E.g (Ai f n f' p j) u/\By w E.g (E.bl i') (p*de.k+j) (Ai f n f' p j) u:=by
       intro c1 Z W p j F c;by_cases s:p<n
       ·obtain⟨u,I,hs,ht⟩:=A p j s c;have ef:Ai f n f' p j=f p j:=(by unfold Ai;rw[if_pos s]);rw[ef];exact⟨u,(Z _ (Fg s c)).trans I,hs,ht⟩
       ·obtain⟨u,C,J,K⟩:=W p j F c s;exact⟨u,C,J,K _ _⟩
      rcases Nat.eq_zero_or_pos m with e | e
      ·subst e;obtain⟨D,C,J,K,V⟩:=UL ho U hr hg hh (k:=de.k) (n:=n+0) (cap:=cap) (f:=Ai f n f') (c1:=cs) hm bA (L cs (fun _ _=>rfl) (fun p j F c s=>by omega));rw[setRow_self _ _ _ T (0,0) hh]at C J K V;exact⟨_,_,D,O4 h he h' hn ty,C,G,J,K,V⟩
      ·have ea:=aA e;subst ea;have tB:=VY h he h' hh bA hl H rA hm ty (c':=c');have kC:n*de.k+l.length<=cs.length:=by
        rw[hl,bA,<-Nat.add_mul];exact Nat.mul_le_mul_right _ hm
       have R:(cs.take (n*de.k)).length=n*de.k:=(by simp;omega);obtain⟨D,C,J,K,V⟩:=UL ho U hr hg hh (k:=de.k) (n:=n+m) (cap:=cap) (f:=Ai f n f') (c1:=cs.take (n*de.k) ++ l ++ cs.drop (n*de.k+l.length)) hm (by simp;omega) (L _ (fun q Y=>by
        rw[List.append_assoc,List.getElem?_append_left (by omega),List.getElem?_take,if_pos Y]) (Q _ _ R))
       exact⟨_,_,D,tB,C,G,J,K,V⟩
     ·
      have oB:0<m:=(by omega);have ea:=aA oB;subst ea;have R:(cs.take (n*de.k)).length=n*de.k:=by
       have:=Nat.mul_le_mul_right de.k hn;simp;omega
      obtain⟨M,rest,Z,W,h3⟩:=Qj h he h' (w:=w) (a:=some ⟨E.bl i',0,none⟩) (n:=n) (cap:=cap) (olds:=cs.take (n*de.k)) R (fun _=>⟨_,rfl,fun j u c=>by
       rw[cell_of_row w _ _ _ T _ hh];rw[List.getElem?_take]at c;split at c
       ·simpa using c
       ·cases c⟩) hl H hn (by omega) hc ty (c':=c')
      have eA:AR w.drew E ob:=fun j bb c=>ObR.ext ⟨Kp.drew _ _,fun _ _=>rfl,fun _ _=>rfl⟩ (fun _ h=>h) (by unfold dom;rw[c];rfl) (X:=fun _=>False) (fun _ _ _=>⟨rfl,rfl⟩) (fun _ _ x=>x.elim) (fun _ _ _ _ x=>x.elim) (ho j bb c)
      obtain⟨D,C,J,K,V⟩:=zGX eA U hr hg (k:=de.k) (n:=n+m) (cap:=M) (f:=Ai f n f') (c1:=cs.take (n*de.k) ++ l ++ rest) (T:=d.el) Z (by
       rw[List.length_append,List.length_append,R,hl,W,<-Nat.add_mul,<-Nat.add_mul];congr 1;omega) (fun p j F c=>by
       by_cases s:p<n
       ·obtain⟨u,I,hs,ht⟩:=A p j s c;have ef:Ai f n f' p j=f p j:=(by unfold Ai;rw[if_pos s]);rw[ef];have Y:=Fg s c;refine⟨u,?_,hs.kp (Kp.drew _ _),ht.ext (fun b eB S _=>⟨rfl,S⟩)⟩;rw[List.append_assoc,List.getElem?_append_left (by omega),List.getElem?_take,if_pos Y];exact I
       ·obtain⟨u,C,J,K⟩:=Q _ rest R p j F c s;exact⟨u,C,J.kp (Kp.drew _ _),(K _ _).ext (fun b eB S _=>⟨rfl,S⟩)⟩)
      exact⟨_,_,D,h3,⟨(Kp.drew _ _).trans C.kp,C.bl,C.hv⟩,G,J,K,V⟩
   ·cases N
  ·cases N
 ·cases N;exact y (.inl I.1) rfl (fun j c=>BI c) (.inl rfl)
 ·cases N
def evAppend(de:TyD)(ob:List (Nat×Ob))(r:Nat)(x y:Cv):Option (Prop×List (Nat×Ob)):=
 match get ob r,dstOf de.k ob x,srcOf de.k ob y with
 | none,some (i,n,f),some (C,m,f')=>some (C/\n+m<=1000000000,put (D4 ob i) r (.row de.k (n+m) (Ai f n f')))
 | _,_,_=>none
theorem zBS{t:Nat}{d de:TyD}(h:B1 P t d)(D:d.el≠0)(s:B1 P d.el de){ob':List (Nat×Ob)}(g:AR w E ob){y:Cv}{c:Prop}(a:evAppend de ob r x y=some (c,ob'))(e:c){v:Value}(F:CvR w E (dom ob) x u)(hv:CvR w E (dom ob) y v)(ty:Nat) :
 ∃z w' b,(Builtin.append_ #[t,t] ty #[u,v]).run P w = .ok z w'/\AV (dom ob) w E w' b/\(∀j,dom ob j->dom ob' j)/\AR w' b ob'/\AvR w' b (dom ob') (.m false [.h r]) z:=by
 unfold evAppend at a;split at a
 ·rename_i i n f C m f' hr hd hs
  cases a;obtain⟨A,B⟩:=Ud g hs e.1 hv;obtain⟨z,w',b,k,l,o,p,q,-⟩:=Yt h D s g hr hd e.2 F A B ty;exact⟨z,w',b,k,l,o,p,q⟩
 ·cases a
end Go.Proofs.YtibhefllijahkaaGreatDoor
