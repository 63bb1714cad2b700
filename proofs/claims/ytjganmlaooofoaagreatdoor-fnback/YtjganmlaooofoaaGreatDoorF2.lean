/- A part of the proof. -/
import Derived.Test.YtjganmlaooofoaaGreatDoorF1
set_option linter.unusedVariables false
set_option maxRecDepth 20000
set_option maxHeartbeats 4000000
namespace Go.Proofs.YtjganmlaooofoaaGreatDoor
open Go.RowKit
section
variable {P : Program} {t : Nat} {d : TyD}
theorem zID(w:World)(o:Obj):(w.alloc o).heap[w.heap.size]?=some o:=by
 show(w.heap.push o)[w.heap.size]?=_;simp
theorem zVc{w:World}{E:En}{ob:List (Nat×Ob)}(ho:qO w E ob){i:Nat}(hi:get ob i=none){l:List Cv}{cs:List Value}(hc:CsR w E (dom ob) l cs)(T:TypeId) :
  ∃E',ql (dom ob) w E (w.alloc (.cells cs.toArray T)) E'/\qO (w.alloc (.cells cs.toArray T)) E' (put ob i (.var l))/\AvR (w.alloc (.cells cs.toArray T)) E' (dom (put ob i (.var l))) (.m false [.p i 0]) (.pointer (some ⟨w.heap.size,0,none⟩)):=by
 obtain⟨h1,h2⟩:=ho.new hi (o:=.cells cs.toArray T) (b:=.var l) (hv:=.bool false) (fun D hD hx=>⟨by simp,cs,T,by simpa using zID w _,hc.ext hx hD⟩);exact⟨_,h1,h2,.p i 0,rfl,by unfold dom;rw[ze,if_pos rfl];rfl,by simp⟩
def evAlloc(d:TyD)(ob:List (Nat×Ob))(i:Nat):Option (List (Nat×Ob)):=
 match get ob i with
 | none=>some (put ob i (.var (d.z.map .v)))
 | some _=>none
theorem zJn{w:World}{E:En}{D:Nat->Prop}:∀(z:List Value),z.all Value.oneCell'=true->CsR w E D (z.map .v) z
 | [],_=>.nil
 | x :: r,h=>by
  simp only[List.all_cons,Bool.and_eq_true]at h;exact qE.cons ⟨rfl,h.1⟩ (zJn r h.2)
theorem zTX(h:zAr P t d){w:World}{E:En}{ob ob':List (Nat×Ob)}(ho:qO w E ob){i:Nat}(he:evAlloc d ob i=some ob') :
  ∃z w' E',(Instr.alloc t true (.tuple #[])).run P w = .ok z w'/\ql (dom ob) w E w' E'/\(∀j,dom ob j->dom ob' j)/\qO w' E' ob'/\AvR w' E' (dom ob') (.m false [.p i 0]) z:=by
 unfold evAlloc at he;split at he
 ·rename_i hi
  cases he;obtain⟨E',h1,h2,h3⟩:=zVc ho hi (zJn (w:=w) (E:=E) (D:=dom ob) d.z h.one) t;exact⟨_,_,E',h.run_alloc w,h1,fun j hj=>qL hj,h2,h3⟩
 ·cases he
def zAn(ob:List (Nat×Ob))(i:Nat)(l:List Cv):Option (List (Nat×Ob)):=
 match get ob i with
 | none=>some (put ob i (.var l))
 | some _=>none
theorem zYH{w:World}{E:En}{ob ob':List (Nat×Ob)}(ho:qO w E ob){i:Nat}{l:List Cv}(he:zAn ob i l=some ob'){g:Bool}{y:Value}(hy:VlR w E (dom ob) g l y) :
  ∃z w' E',(Instr.box t y).run P w = .ok z w'/\ql (dom ob) w E w' E'/\(∀j,dom ob j->dom ob' j)/\qO w' E' ob'/\AvR w' E' (dom ob') (.m false [.p i 0]) z:=by
 unfold zAn at he;split at he
 ·rename_i hi
  cases he;obtain⟨E',h1,h2,h3⟩:=zVc ho hi hy.cells t;simp only[Array.toArray_toList]at h1 h2 h3;exact⟨_,_,E',zaB t y w,h1,fun j hj=>qL hj,h2,h3⟩
 ·cases he
theorem zSW{w:World}{E:En}{ob:List (Nat×Ob)}(ho:qO w E ob){i:Nat}(hi:get ob i=none){k n cap:Nat}{f:Nat->Nat->Tr}{cs:List Value}(hn:n<=cap)(hl:cs.length=cap*k)
  (hc:∀p j,p<n->j<k->∃u,cs[p*k+j]?=some u/\Sh w E.g (f p j) u/\∀B o,zAb w E.g B o (f p j) u) (ht:∀p j,p<n->j<k->∀k' n' f',f p j≠.s .o k' n' f') (T:TypeId) :
  ∃E',ql (dom ob) w E (w.alloc (.cells cs.toArray T)) E'/\qO (w.alloc (.cells cs.toArray T)) E' (put ob i (.row k n f))/\AvR (w.alloc (.cells cs.toArray T)) E' (dom (put ob i (.row k n f))) (.m false [.h i]) (.slice (some ⟨w.heap.size,0,none⟩) n cap)/\∀b,b<w.heap.size->(w.alloc (.cells cs.toArray T)).heap[b]?=w.heap[b]?/\E'.g b=E.g b:=by
 obtain⟨h1,h2⟩:=ho.new hi (o:=.cells cs.toArray T) (b:=.row k n f) (hv:=.slice (some ⟨w.heap.size,0,none⟩) n cap) (fun D hD hx=>by
  refine⟨some ⟨w.heap.size,0,none⟩,cap,by simp,hn,fun h0=>⟨by simp,by simp,cs,T,by simpa using zID w _,hl,fun p j hp hj=>?_⟩⟩;obtain⟨u,hu,hs,_⟩:=hc p j hp hj;refine⟨u,hu,hs.kp hx.kp,?_⟩;have:=ht p j hp hj;revert this;cases f p j with
  | v x=>exact fun _=>trivial
  | s fl k' n' f'=>
   cases fl with
   | b=>exact fun _=>trivial
   | z=>exact fun _=>trivial
   | o=>exact fun h=>absurd rfl (h k' n' f'))
 exact⟨_,h1,h2,⟨.h i,rfl,by unfold dom;rw[ze,if_pos rfl];rfl,by simp,rfl⟩,fun b hb=>⟨Below.heap_alloc _ _ _ hb,if_neg (by omega)⟩⟩
theorem zVb{w:World}{E:En}{ob:List (Nat×Ob)}(ho:qO w E ob){i:Nat}(hi:get ob i=none){k n cap:Nat}{f:Nat->Nat->Tr}{cs:List Value}(hn:n<=cap)(hl:cs.length=cap*k)
  (hc:∀p j,p<n->j<k->∃u,cs[p*k+j]?=some u/\Sh w E.g (f p j) u/\∀B o,zAb w E.g B o (f p j) u) (ht:∀p j,p<n->j<k->∀k' n' f',f p j≠.s .o k' n' f') (T:TypeId) :
  ∃E',ql (dom ob) w E (w.alloc (.cells cs.toArray T)) E'/\qO (w.alloc (.cells cs.toArray T)) E' (put ob i (.row k n f))/\AvR (w.alloc (.cells cs.toArray T)) E' (dom (put ob i (.row k n f))) (.m false [.h i]) (.slice (some ⟨w.heap.size,0,none⟩) n cap):=by
 obtain⟨E',h1,h2,h3,-⟩:=zSW ho hi hn hl hc ht T;exact⟨E',h1,h2,h3⟩
theorem zRo:∀(l:List Value) (i off:Nat) (c:Array Value),off+i+l.length<=c.size->
  (l.zipIdx i).foldl (fun cs q=>cs.setIfInBounds (off+q.2) q.1) c=(c.toList.take (off+i) ++ l ++ c.toList.drop (off+i+l.length)).toArray
 | [],i,off,c,_=>by simp
 | x :: r,i,off,c,h=>by
  simp only[List.zipIdx_cons,List.foldl_cons];simp only[List.length_cons]at h;rw[zRo r (i+1) off (c.setIfInBounds (off+i) x) (by simp;omega)];congr 1;have e:=list_seg_step c.toList (off+i) x r (by simp;omega);simpa[Array.toList_setIfInBounds,Nat.add_assoc]using e
def fillC(zeO:Nat->Option (Nat×Nat))(c:List Cv):List (Nat×List Cv)->Option (List Cv)
 | []=>some c
 | (f,l) :: r=>match zeO f with
  | some q=>if l.length=q.2/\q.1+q.2<=c.length then fillC zeO (c.take q.1 ++ l ++ c.drop (q.1+q.2)) r else none
  | none=>none
theorem zMi{w:World}{E:En}{D:Nat->Prop}{zeO:Nat->Option (Nat×Nat)}:∀{ps:List (Nat×List Cv)} {vs:List (Nat×Value)} {c c':List Cv} {cs:List Value},qE (fun (p:Nat×List Cv) (q:Nat×Value)=>p.1=q.1/\CsR w E D p.2 q.2.cells.toList) ps vs->CsR w E D c cs->fillC zeO c ps=some c'->
  ∃aA,Instr.fill zeO cs.toArray vs=some aA.toArray/\CsR w E D c' aA
 | [],vs,c,c',cs,hp,hc,h=>by cases hp;cases h;exact⟨cs,rfl,hc⟩
 | (f,l) :: r,vs,c,c',cs,hp,hc,h=>by
  cases hp with
  | @cons _ q _ m h1 t1=>
   obtain⟨i,v⟩:=q;obtain⟨rfl,h2⟩:=h1;replace h2:CsR w E D l v.cells.toList:=h2;simp only[fillC]at h;split at h
   ·rename_i q hq
    split at h
    ·rename_i fA
     have dA:=h2.length;have eA:=hc.length;have cA:v.cells.size=q.2:=(by rw[<-Array.length_toList];omega);obtain⟨aA,e,bA⟩:=zMi (cs:=cs.take q.1 ++ v.cells.toList ++ cs.drop (q.1+q.2)) t1 (qE.append (qE.append (qE.take hc q.1) h2) (qE.drop hc (q.1+q.2))) h;refine⟨aA,?_,bA⟩;rw[<-e];simp only[Instr.fill,hq];rw[if_neg (by simp[cA];omega)];congr 1;have:=zRo v.cells.toList 0 q.1 cs.toArray (by simp[cA];omega);simp only[Nat.add_zero,Array.length_toList,cA]at this;rw[<-Array.foldl_toList,Array.toList_zipIdx];simpa using this
    ·cases h
   ·cases h
theorem zAr.places(h:zAr P t d):∀(fs:List Field),(fs.map (fun f=>(f.offset,((P.info? f.type).map (·.size)).getD 0))).all (fun q=>q.2 != 0)=true->
  fs.mapM (fun f=>(P.info? f.type).map fun i=>(f.offset,i.size))=some (fs.map (fun f=>(f.offset,((P.info? f.type).map (·.size)).getD 0)))
 | [],_=>rfl
 | f :: r,hz=>by
  simp only[List.map_cons,List.all_cons,Bool.and_eq_true,bne_iff_ne,ne_eq]at hz;have ih:=h.places r hz.2;cases hi:P.info? f.type with
  | none=>rw[hi]at hz;exact absurd rfl hz.1
  | some i=>simp[List.mapM_cons,hi,ih]
theorem zTY(h:zAr P t d)(hf:d.fs≠[]){w:World}{E:En}{ob:List (Nat×Ob)}{ps:List (Nat×List Cv)}{vs:List (Nat×Value)}{c:List Cv}(hp:qE (fun (p:Nat×List Cv) (q:Nat×Value)=>p.1=q.1/\CsR w E (dom ob) p.2 q.2.cells.toList) ps vs)
  (he:fillC (fun f=>d.fs[f]?) (d.z.map .v) ps=some c):∃z,(Instr.build t vs.toArray).run P w = .ok z w/\AvR w E (dom ob) (.m true c) z:=by
 obtain⟨cs,h1,h2⟩:=zMi hp (zJn (w:=w) (E:=E) (D:=dom ob) d.z h.one) he;refine⟨.agg cs.toArray,run_build w t _ _ ?_,cs,rfl,h2⟩;obtain⟨i,hi,_,hz,_⟩:=h.get;obtain⟨u,hu,e⟩:=h.dsc;have aA:=h.fz;unfold Program.built;rw[hi,hu];cases u<;>simp only[zMd,Prod.mk.injEq]at e<;>first | (exact absurd e.2.1.symm hf) | skip
 rename_i fs
 rw[<-e.2.1]at aA h1;dsimp only;rw[hz];simp only[h.places fs.toList aA,h.zcells];simpa using h1
end
def zc(d:TyD)(n:Nat):List Cv:=(List.range (n*d.k)).map (fun q=>.v (d.z.getD (q % d.k) (.bool false)))
section
variable {P : Program} {t : Nat} {d de : TyD}
theorem zAr.zget(h:zAr P t d)(q:Nat):d.z.toArray[q % d.z.toArray.size]! = d.z.getD (q % d.k) (.bool false)/\(d.z.getD (q % d.k) (.bool false)).oneCell'=true:=by
 have hp:=h.pos;have hl:=h.len;have hm:=Nat.mod_lt q hp;have h1:d.z.toArray.size=d.k:=by simpa using hl
 rw[h1];have h2:d.z.toArray[q % d.k]! = d.z[q % d.k]:=by rw[getElem!_pos d.z.toArray (q % d.k) (by omega)];simp
 have h3:d.z.getD (q % d.k) (.bool false)=d.z[q % d.k]:=by rw[List.getD_eq_getElem?_getD,List.getElem?_eq_getElem (by omega)];rfl
 refine⟨h2.trans h3.symm,?_⟩;rw[h3];exact List.all_eq_true.1 h.one _ (List.getElem_mem _)
theorem zAr.zcs(h:zAr P t d){w:World}{E:En}{D:Nat->Prop}(m:Nat):CsR w E D ((List.range m).map (fun q=>.v (d.z.getD (q % d.k) (.bool false)))) ((List.range m).map (fun q=>d.z.toArray[q % d.z.toArray.size]!)):=by
 refine qE.of (by simp) (fun j x y hx hy=>?_);simp only[List.getElem?_map,Option.map_eq_some_iff]at hx hy;obtain⟨q,hq,rfl⟩:=hx;obtain⟨q',aA,rfl⟩:=hy;rw[hq]at aA;cases aA;obtain⟨h1,h2⟩:=h.zget q;exact⟨h1,h2⟩
def evMakeSlice(de:TyD)(ob:List (Nat×Ob))(i:Nat)(l:Int):Option (List (Nat×Ob)):=
 match get ob i with
 | none=>some (put ob i (.row de.k l.toNat (fun _ q=>.v (de.z.getD q (.bool false)))))
 | some _=>none
theorem zVa{p k j:Nat}(h:j<k):(p*k+j) % k=j:=by
 rw[Nat.add_comm,Nat.add_mul_mod_self_right,Nat.mod_eq_of_lt h]
theorem zMg(h:zAr P t d)(he:d.el≠0)(h':zAr P d.el de){w:World}{E:En}{ob ob':List (Nat×Ob)}(ho:qO w E ob){i:Nat}{kl kc:IntKind}{l:Int}(h0:0<=l)(h1:l<=1000000)(aA:evMakeSlice de ob i l=some ob') :
  ∃z w' E',(Instr.makeSlice t (.int kl l) (.int kc l)).run P w = .ok z w'/\ql (dom ob) w E w' E'/\(∀j,dom ob j->dom ob' j)/\qO w' E' ob'/\AvR w' E' (dom ob') (.m false [.h i]) z:=by
 unfold evMakeSlice at aA;split at aA
 ·rename_i hi
  cases aA;obtain⟨bA,cA,eA,hz,fA⟩:=h'.get;have gA:=h'.zeP;have hb:(bA.bytes:Int)*l<=281474976710656:=by
   have:=Int.mul_le_mul (show(bA.bytes:Int)<=1024 by omega) h1 h0 (by omega);omega
  have hr:=run_make (P:=P) w t d.el bA _ (h.slice he) cA hz kl kc l l h0 (Int.le_refl _) hb (by omega);have dA:madeCells de.zv.cells (l.toNat*bA.size)=((List.range (l.toNat*de.k)).map (fun q=>de.z.toArray[q % de.z.toArray.size]!)).toArray:=by
   unfold madeCells;rw[eA,h'.zcells];apply Array.ext';simp[Array.toList_range]
  rw[dA]at hr;obtain⟨E',g1,g2,g3⟩:=zVb ho hi (k:=de.k) (n:=l.toNat) (cap:=l.toNat) (f:=fun _ q=>.v (de.z.getD q (.bool false))) (cs:=(List.range (l.toNat*de.k)).map (fun q=>de.z.toArray[q % de.z.toArray.size]!)) (Nat.le_refl _) (by simp) (fun p j hp hj=>by
   obtain⟨e1,e2⟩:=h'.zget (p*de.k+j);refine⟨de.z.toArray[(p*de.k+j) % de.z.toArray.size]!,?_,?_,fun _ _=>trivial⟩
   ·rw[List.getElem?_map,List.getElem?_range (zEv hp hj)];rfl
   ·rw[e1,zVa hj];rw[zVa hj]at e2;exact⟨rfl,e2⟩) (fun p j hp hj k' n' f' h=>by cases h) d.el
  exact⟨_,_,E',hr,g1,fun j hj=>qL hj,g2,g3⟩
 ·cases aA
def evBuildSlice(de:TyD)(ob:List (Nat×Ob))(i len:Nat)(ps:List (Nat×List Cv)):Option (List (Nat×Ob)):=
 match get ob i,(fillC (fun x=>some (x*de.k,de.k)) (zc de len) ps).bind trs with
 | none,some ts=>if len*de.k<=1000 then some (put ob i (.row de.k len (fun p q=>ts.getD (p*de.k+q) (.v (.bool false)))))else none
 | _,_=>none
theorem zO9{zeO:Nat->Option (Nat×Nat)}:∀{ps:List (Nat×List Cv)} {c c':List Cv},fillC zeO c ps=some c'->c'.length=c.length
 | [],c,c',h=>by cases h;rfl
 | (f,l) :: r,c,c',h=>by
  simp only[fillC]at h;split at h
  ·split at h
   ·rename_i aA
    rw[zO9 h];simp;omega
   ·cases h
  ·cases h
theorem zLo(h:zAr P t d)(he:d.el≠0)(h':zAr P d.el de){w:World}{E:En}{ob ob':List (Nat×Ob)}(ho:qO w E ob){i len:Nat}{ps:List (Nat×List Cv)}{vs:List (Nat×Value)}
  (hp:qE (fun (p:Nat×List Cv) (q:Nat×Value)=>p.1=q.1/\CsR w E (dom ob) p.2 q.2.cells.toList) ps vs) (aA:evBuildSlice de ob i len ps=some ob') :
  ∃z w' E',(Instr.buildSlice t len vs.toArray).run P w = .ok z w'/\ql (dom ob) w E w' E'/\(∀j,dom ob j->dom ob' j)/\qO w' E' ob'/\AvR w' E' (dom ob') (.m false [.h i]) z:=by
 unfold evBuildSlice at aA;split at aA
 ·rename_i ts hi hb
  rw[Option.bind_eq_some_iff]at hb;obtain⟨c,hc,eA⟩:=hb;split at aA
  ·rename_i jA
   cases aA;obtain⟨cs,h1,h2⟩:=zMi hp (h'.zcs (w:=w) (E:=E) (D:=dom ob) (len*de.k)) hc;have h3:=zUg eA h2;have cA:cs.length=len*de.k:=by
    have:=h2.length;have:=zO9 hc;simp[zc]at this;omega
   have dA:(Instr.buildSlice t len vs.toArray).run P w = .ok (.slice (some ⟨w.heap.size,0,none⟩) len len) (w.alloc (.cells cs.toArray d.el)):=by
    have gA:=h'.pos;have iA:((Array.range (len*de.k)).map (de.zv.cells[· % de.zv.cells.size]!))=((List.range (len*de.k)).map (fun q=>de.z.toArray[q % de.z.toArray.size]!)).toArray:=by
     rw[h'.zcells];apply Array.ext';simp[Array.toList_range]
    unfold Instr.buildSlice;simp only[Sem.run_bind,run_underlying (h.slice he),Result.andThen_ok,h'.run_size];by_cases h0:len*de.k=0
    ·have bA:Instr.fill (fun i=>some (i*de.k,de.k)) (Array.map (fun x=>(#[]:Array Value)[x % (#[]:Array Value).size]!) (Array.range (len*de.k))) vs=some cs.toArray:=by
      rw[<-h1,h0];have e:(Array.map (fun x=>(#[]:Array Value)[x % (#[]:Array Value).size]!) (Array.range 0))=(List.map (fun q=>de.z.toArray[q % de.z.toArray.size]!) (List.range 0)).toArray:=(by apply Array.ext';simp[Array.toList_range]);rw[e]
     rw[h0]at bA ⊢;simp at bA;simp[bA,newRow]
    ·have bA:Instr.fill (fun i=>some (i*de.k,de.k)) (Array.map (fun x=>de.zv.cells[x % de.zv.cells.size]!) (Array.range (len*de.k))) vs=some cs.toArray:=(by rw[iA];exact h1);have h5:¬(16777216<len*de.k):=(by omega);simp[h0,h5,h'.run_zero,bA,newRow]
   obtain⟨E',g1,g2,g3⟩:=zVb ho hi (k:=de.k) (n:=len) (cap:=len) (f:=fun p q=>ts.getD (p*de.k+q) (.v (.bool false))) (cs:=cs) (Nat.le_refl _) cA (fun p j hp hj=>by
    have:=zEv hp hj;have fA:=h3.length;have h5:ts[p*de.k+j]?=some ts[p*de.k+j]:=List.getElem?_eq_getElem (by omega);obtain⟨u,hu,hs,ht⟩:=h3.at h5;have h6:ts.getD (p*de.k+j) (.v (.bool false))=ts[p*de.k+j]:=(by rw[List.getD_eq_getElem?_getD,h5];rfl);rw[h6];exact⟨u,hu,hs,ht⟩) (fun p j hp hj k' n' f' e=>by
    have:=zEv hp hj;have fA:=h3.length;have h5:ts[p*de.k+j]?=some (.s .o k' n' f'):=by
     rw[<-e];rw[List.getD_eq_getElem?_getD,List.getElem?_eq_getElem (by omega)];rfl
    have:∀{l:List Cv} {m:List Tr},trs l=some m->∀T∈m,∀k' n' f',T≠.s .o k' n' f':=by
     intro l
     induction l with
     | nil=>intro m hm T hT;cases hm;cases hT
     | cons x r ih=>
      intro m hm T hT k' n' f';simp only[trs]at hm;split at hm
      ·rename_i T' l' hT' hl'
       cases hm;cases hT with
       | head=>
        intro e;subst e;cases x with
        | v x=>cases hT'
        | s fl k n f=>cases fl<;>cases hT'
        | _=>cases hT'
       | tail _ hm=>exact ih hl' T hm k' n' f'
      ·cases hm
    exact this eA _ (List.mem_of_getElem? h5) k' n' f' rfl) d.el
   exact⟨_,_,E',dA,g1,fun j hj=>qL hj,g2,g3⟩
  ·cases aA
 ·cases aA
theorem ql.trans{D D':Nat->Prop}{w w1 w2:World}{E E1 E2:En}(h:ql D w E w1 E1)(h':ql D' w1 E1 w2 E2)(hD:∀j,D j->D' j):ql D w E w2 E2:=
 ⟨h.kp.trans h'.kp,fun i hi=>(h'.bl i (hD i hi)).trans (h.bl i hi),fun i hi=>(h'.hv i (hD i hi)).trans (h.hv i hi)⟩
theorem za0{w:World}{E:En}{ob:List (Nat×Ob)}(ho:qO w E ob){r k n:Nat}{f:Nat->Nat->Tr}(hr:rowE ob r=some (k,n,f)):∃E',ql (dom ob) w E w E'/\qO w E' (put ob r .dead)/\Sh w E'.g (.s .z k n f) (E.hv r):=by
 obtain⟨E',-,-,-,h1,h2,h3,-,-⟩:=zZz ho hr (s:=.fz none) (.inl rfl);exact⟨E',h1,h2,h3⟩
def frz1(ob:List (Nat×Ob)):Cv->Cv×List (Nat×Ob)
 | .h r=>match rowE ob r with
  | some (k,n,f)=>(.s .z k n f,put ob r .dead)
  | none=>(.h r,ob)
 | x=>(x,ob)
def frz:List Cv->List (Nat×Ob)->List Cv×List (Nat×Ob)
 | [],ob=>([],ob)
 | x :: l,ob=>((frz1 ob x).1 :: (frz l (frz1 ob x).2).1,(frz l (frz1 ob x).2).2)
def zBj:List (Nat×List Cv)->List (Nat×Ob)->List (Nat×List Cv)×List (Nat×Ob)
 | [],ob=>([],ob)
 | x :: l,ob=>((x.1,(frz x.2 ob).1) :: (zBj l (frz x.2 ob).2).1,(zBj l (frz x.2 ob).2).2)
theorem zYE{ob:List (Nat×Ob)}{r:Nat}(hr:dom ob r)(j:Nat):dom ob j↔dom (put ob r .dead) j:=by
 refine⟨fun h=>qL h,fun h=>?_⟩;unfold dom at *;rw[ze]at h;split at h
 ·rename_i e;exact e▸hr
 ·exact h
theorem za1{w:World}{E:En}{ob:List (Nat×Ob)}(ho:qO w E ob){x:Cv}{u:Value}(hx:CvR w E (dom ob) x u) :
  ∃E',ql (dom ob) w E w E'/\qO w E' (frz1 ob x).2/\CvR w E' (dom (frz1 ob x).2) (frz1 ob x).1 u/\∀j,dom ob j↔dom (frz1 ob x).2 j:=by
 cases x with
 | h r=>
  simp only[frz1];split
  ·rename_i k n f hr
   obtain⟨E',h1,h2,h3⟩:=za0 ho hr;refine⟨E',h1,h2,?_,zYE hx.1⟩;rw[hx.2.1];exact h3
  ·exact⟨E,ql.refl _ _ _,ho,hx,fun _=>Iff.rfl⟩
 | _=>exact⟨E,ql.refl _ _ _,ho,hx,fun _=>Iff.rfl⟩
theorem zMq{w:World}:∀{l:List Cv} {us:List Value} {E:En} {ob:List (Nat×Ob)},qO w E ob->CsR w E (dom ob) l us->
  ∃E',ql (dom ob) w E w E'/\qO w E' (frz l ob).2/\CsR w E' (dom (frz l ob).2) (frz l ob).1 us/\∀j,dom ob j↔dom (frz l ob).2 j
 | [],us,E,ob,ho,h=>⟨E,ql.refl _ _ _,ho,h,fun _=>Iff.rfl⟩
 | x :: l,us,E,ob,ho,h=>by
  cases h with
  | cons hx ht=>
   obtain⟨E1,a1,a2,a3,a4⟩:=za1 ho hx;obtain⟨E2,b1,b2,b3,b4⟩:=zMq (l:=l) a2 (CsR.ext a1 (fun j hj=>(a4 j).1 hj) ht);exact⟨E2,a1.trans b1 (fun j hj=>(a4 j).1 hj),b2,qE.cons (a3.ext b1 (fun j hj=>(b4 j).1 hj)) b3,fun j=>(a4 j).trans (b4 j)⟩
theorem zU0{w:World}:∀{l:List (Nat×List Cv)} {us:List (Nat×Value)} {E:En} {ob:List (Nat×Ob)},qO w E ob->qE (fun (p:Nat×List Cv) (q:Nat×Value)=>p.1=q.1/\CsR w E (dom ob) p.2 q.2.cells.toList) l us->
  ∃E',ql (dom ob) w E w E'/\qO w E' (zBj l ob).2/\qE (fun (p:Nat×List Cv) (q:Nat×Value)=>p.1=q.1/\CsR w E' (dom (zBj l ob).2) p.2 q.2.cells.toList) (zBj l ob).1 us/\∀j,dom ob j↔dom (zBj l ob).2 j
 | [],us,E,ob,ho,h=>by cases h;exact⟨E,ql.refl _ _ _,ho,.nil,fun _=>Iff.rfl⟩
 | x :: l,us,E,ob,ho,h=>by
  cases h with
  | cons hx ht=>
   obtain⟨E1,a1,a2,a3,a4⟩:=zMq ho hx.2;have aA:∀{l:List (Nat×List Cv)} {us:List (Nat×Value)},qE (fun (p:Nat×List Cv) (q:Nat×Value)=>p.1=q.1/\CsR w E (dom ob) p.2 q.2.cells.toList) l us->qE (fun (p:Nat×List Cv) (q:Nat×Value)=>p.1=q.1/\CsR w E1 (dom (frz x.2 ob).2) p.2 q.2.cells.toList) l us:=fun h=>by
    induction h with
    | nil=>exact .nil
    | cons h _ ih=>exact .cons ⟨h.1,CsR.ext a1 (fun j hj=>(a4 j).1 hj) h.2⟩ ih
   obtain⟨E2,b1,b2,b3,b4⟩:=zU0 (l:=l) a2 (aA ht);exact⟨E2,a1.trans b1 (fun j hj=>(a4 j).1 hj),b2,.cons ⟨hx.1,CsR.ext b1 (fun j hj=>(b4 j).1 hj) a3⟩ b3,fun j=>(a4 j).trans (b4 j)⟩
def zU(de:TyD)(ob:List (Nat×Ob))(i len:Nat)(ps:List (Nat×List Cv)):Option (List (Nat×Ob)):=evBuildSlice de (zBj ps ob).2 i len (zBj ps ob).1
theorem zOK(h:zAr P t d)(he:d.el≠0)(h':zAr P d.el de){w:World}{E:En}{ob ob':List (Nat×Ob)}(ho:qO w E ob){i len:Nat}{ps:List (Nat×List Cv)}{vs:List (Nat×Value)}
  (hp:qE (fun (p:Nat×List Cv) (q:Nat×Value)=>p.1=q.1/\CsR w E (dom ob) p.2 q.2.cells.toList) ps vs) (aA:zU de ob i len ps=some ob') :
  ∃z w' E',(Instr.buildSlice t len vs.toArray).run P w = .ok z w'/\ql (dom ob) w E w' E'/\(∀j,dom ob j->dom ob' j)/\qO w' E' ob'/\AvR w' E' (dom ob') (.m false [.h i]) z:=by
 obtain⟨E1,a1,a2,a3,a4⟩:=zU0 ho hp;obtain⟨z,w',E',b1,b2,b3,b4,b5⟩:=zLo h he h' a2 a3 aA;exact⟨z,w',E',b1,a1.trans b2 (fun j hj=>(a4 j).1 hj),fun j hj=>b3 j ((a4 j).1 hj),b4,b5⟩
def evLen(ob:List (Nat×Ob)):Cv->Option Nat
 | .s _ _ n _=>some n
 | .h i=>match rowE ob i with
  | some q=>some q.2.1
  | none=>none
 | .hs _ _ _ n=>some n
 | .v (.slice none 0 0)=>some 0
 | _=>none
theorem zYI(h:zAr P t d)(he:d.el≠0){w:World}{E:En}{ob:List (Nat×Ob)}(ho:qO w E ob){x:Cv}{n:Nat}(aA:evLen ob x=some n){y:Value}(hy:CvR w E (dom ob) x y)(ty:Nat) :
  (Builtin.len_ #[t] ty #[y]).run P w = .ok (.int .i64 n) w:=by
 have:∃a c,y = .slice a n c:=by
  unfold evLen at aA;split at aA
  ·cases aA;obtain⟨a,c,e,_⟩:=hy;exact⟨a,c,e⟩
  ·split at aA
   ·rename_i q hi
    obtain⟨k,m,f⟩:=q;cases aA;obtain⟨_,a,c,e,_⟩:=zGc ho hi;exact⟨a,c,hy.2.1.trans e⟩
   ·cases aA
  ·cases aA;obtain⟨_,a,c,e,_⟩:=hy;exact⟨a,c,e⟩
  ·cases aA;exact⟨none,0,hy.1⟩
  ·cases aA
 obtain⟨a,c,rfl⟩:=this;simp[Builtin.len_,run_underlying (h.slice he),goInt]
def oOf:Tr->Option (Nat×Nat×(Nat->Nat->Tr))
 | .s .o k n f=>some (k,n,f)
 | _=>none
theorem zdA{T:Tr}{k n:Nat}{f:Nat->Nat->Tr}(h:oOf T=some (k,n,f)):T = .s .o k n f:=by
 cases T with
 | v x=>cases h
 | s fl k n f=>cases fl<;>cases h;rfl
def evTake(ob:List (Nat×Ob))(r:Nat):Cv->Option (Prop×List (Nat×Ob))
 | .e i k a j=>match get ob i,get ob r with
  | some (.row k' n F),none=>match oOf (F a j)with
   | some (kk,m,h)=>if k'=k/\j+1<=k then some (a<n,put (put ob i (.row k n (yN F a j [.s .z kk m h]))) r (.tl kk m h))else none
   | none=>none
  | _,_=>none
 | _=>none
theorem zat{k p q a j:Nat}(hq:q<k)(hj:j<k)(h:p*k+q=a*k+j):p=a/\q=j:=by
 have aA:p=a:=by
  rcases Nat.lt_trichotomy p a with h7 | h7 | h7
  ·have:=Nat.mul_le_mul_right k (show p+1<=a from h7);rw[Nat.add_mul,Nat.one_mul]at this;omega
  ·exact h7
  ·have:=Nat.mul_le_mul_right k (show a+1<=p from h7);rw[Nat.add_mul,Nat.one_mul]at this;omega
 subst aA;exact⟨rfl,by omega⟩
theorem zWX(h:zAr P t d)(mB:d.k=1)(lB:d.g=false){w:World}{E:En}{ob ob':List (Nat×Ob)}(ho:qO w E ob){x:Cv}{r:Nat}{c:Prop}(he:evTake ob r x=some (c,ob'))(hc:c){y:Value}(hy:CvR w E (dom ob) x y) :
  ∃z E',(Instr.loadAt t y).run P w = .ok z w/\ql (dom ob) w E w E'/\(∀j,dom ob j->dom ob' j)/\qO w E' ob'/\AvR w E' (dom ob') (.m false [.h r]) z:=by
 cases x with
 | e i k a j=>
  simp only[evTake]at he;split at he
  ·rename_i k' n F hi hr
   split at he
   ·rename_i kk m f hT
    split at he
    ·rename_i aB
     cases he;obtain⟨rfl,aB⟩:=aB;replace hT:=zdA hT;obtain⟨-,rfl⟩:=hy;obtain⟨a',cap,hv,hn,mA⟩:=ho i _ hi;obtain⟨rA,hg,cs,T,hh,hl,aA⟩:=mA (by omega);obtain⟨u,hu,cB,eB⟩:=aA a j hc (by omega);rw[hT]at cB eB;obtain⟨a2,c2,rfl,iB⟩:=eB;obtain⟨a3,c3,e3,hm,bB⟩:=cB;cases e3;have gA:(Instr.loadAt t (.pointer (some ⟨E.bl i,a*k'+j,none⟩))).run P w = .ok (.slice a2 m c2) w:=by
      have:=h.run_load (w:=w) (b:=E.bl i) (o:=a*k'+j) (cs:=[.slice a2 m c2]) (by simp[mB]) (fun q v hq=>by
       have:q=0:=by
        have:=(List.getElem?_eq_some_iff.1 hq).1;simpa using this
       subst this;simp at hq;subst hq;rw[cell_of_row w _ _ _ T _ hh];simpa using hu)
      rw[lB]at this;simpa using this
     have kB:dom ob i:=(by unfold dom;rw[hi];rfl);have jA:∀q,dom ob q->q≠r:=fun q hq e=>by unfold dom at hq;rw[e,hr]at hq;cases hq
     have fA:i≠r:=jA i kB;rcases Nat.eq_zero_or_pos c2 with e0 | e0
     ·have em:m=0:=(by omega);subst em;have hx:ql (dom ob) w E w ⟨E.g,E.bl,fun q=>if q=r then .slice a2 0 c2 else E.hv q⟩:=⟨Kp.refl _ _,fun _ _=>rfl,fun q hq=>if_neg (jA q hq)⟩;refine⟨_,⟨E.g,E.bl,fun q=>if q=r then .slice a2 0 c2 else E.hv q⟩,gA,hx,fun q hq=>qL (qL hq),fun q o hq=>?_,.h r,rfl,by unfold dom;rw[ze,if_pos rfl];rfl,by simp,rfl⟩;rw[ze,ze]at hq;by_cases e:r=q
      ·rw[if_pos e]at hq;cases hq;subst e;exact⟨a2,c2,by simp,by omega,fun h0=>by omega⟩
      ·rw[if_neg e]at hq;by_cases e':i=q
       ·rw[if_pos e']at hq;cases hq;subst e';refine⟨a',cap,by simp[fA];exact hv,hn,fun h0=>⟨rA,hg,cs,T,hh,hl,fun p q hp hq=>?_⟩⟩;obtain⟨u,bA,nA,pA⟩:=aA p q hp hq;by_cases eA:p=a/\j<=q/\q<j+1
        ·obtain⟨rfl,h3,h4⟩:=eA;cases (show q=j by omega);rw[hu]at bA;cases bA;rw[show yN F p j [.s .z kk 0 f] p j = .s .z kk 0 f by unfold yN;rw[if_pos ⟨rfl,h3,h4⟩];simp];exact⟨_,hu,⟨a2,c2,rfl,by omega,fun h0=>by omega⟩,trivial⟩
        ·rw[show yN F a j [.s .z kk 0 f] p q=F p q by unfold yN;rw[if_neg (by simpa using eA)]];exact⟨u,bA,nA,pA⟩
       ·rw[if_neg e']at hq;exact ObR.ext hx (fun q hq=>qL (qL hq)) (by unfold dom;rw[hq];rfl) (X:=fun _=>False) (fun _ _ _=>⟨rfl,rfl⟩) (fun _ _ x=>x.elim) (fun _ _ _ _ x=>x.elim) (ho q o hq)
     ·obtain⟨b,rfl,cA,cc,tt,vA,oA⟩:=iB e0;have hk:Kp w E.g w (fun q=>if q=b then .ow (.nm r) (m*kk)else E.g q):=by
       refine⟨rfl,rfl,rfl,Nat.le_refl _,fun q x hb _=>⟨rfl,?_⟩,fun q o l hb _=>⟨fun _ _=>rfl,.inl ?_⟩⟩
       ·rw[if_neg (fun e=>by rw[e,cA]at hb;cases hb)];exact hb
       ·by_cases e:q=b
        ·rw[e,cA]at hb;cases hb;exact⟨_,_,if_pos e,Nat.le_refl _⟩
        ·exact⟨o,l,by rw[if_neg e];exact hb,Nat.le_refl _⟩
      have hx:ql (dom ob) w E w ⟨fun q=>if q=b then .ow (.nm r) (m*kk)else E.g q,fun q=>if q=r then b else E.bl q,fun q=>if q=r then .slice (some ⟨b,0,none⟩) m c2 else E.hv q⟩:=⟨hk,fun q hq=>if_neg (jA q hq),fun q hq=>if_neg (jA q hq)⟩;have gB:E.bl i≠b:=fun e=>by rw[e,cA]at hg;cases hg
      refine⟨_,_,gA,hx,fun q hq=>qL (qL hq),fun q o hq=>?_,.h r,rfl,by unfold dom;rw[ze,if_pos rfl];rfl,by simp,rfl⟩;rw[ze,ze]at hq;by_cases e:r=q
      ·rw[if_pos e]at hq;cases hq;subst e;refine⟨some ⟨b,0,none⟩,c2,by simp,hm,fun h0=>⟨by simp,by simp,cc.toList,tt,by simpa using vA,by simpa using oA,fun p q hp hq=>?_⟩⟩;obtain⟨b',o',e4,sA,nB,kA⟩:=bB (by omega);cases e4;obtain⟨v,fB,oB⟩:=kA p q hp hq;refine⟨v,?_,oB.kp hk⟩;rw[Nat.zero_add,cell_of_row w _ _ _ tt _ vA]at fB;simpa using fB
      ·rw[if_neg e]at hq;by_cases e':i=q
       ·rw[if_pos e']at hq;cases hq;subst e';refine⟨a',cap,by simp[fA];exact hv,hn,fun h0=>⟨by simp[fA];exact rA,by simp[fA,gB];exact hg,cs,T,by simp[fA];exact hh,hl,fun p q hp hq=>?_⟩⟩;obtain⟨u,bA,nA,pA⟩:=aA p q hp hq;by_cases eA:p=a/\j<=q/\q<j+1
        ·obtain⟨rfl,h3,h4⟩:=eA;cases (show q=j by omega);rw[hu]at bA;cases bA;rw[show yN F p j [.s .z kk m f] p j = .s .z kk m f by unfold yN;rw[if_pos ⟨rfl,h3,h4⟩];simp];refine⟨_,hu,⟨_,c2,rfl,hm,fun h0=>?_⟩,trivial⟩;obtain⟨b',o',e4,sA,nB,kA⟩:=bB h0;cases e4;refine⟨b,0,rfl,sA,by simp[Bs.ok],fun p q hp hq=>let ⟨v,hv,hs⟩:=kA p q hp hq;⟨v,hv,hs.kp hk⟩⟩
        ·rw[show yN F a j [.s .z kk m f] p q=F p q by unfold yN;rw[if_neg (by simpa using eA)]];refine⟨u,bA,nA.kp hk,?_⟩;simp only[if_neg fA];revert pA;cases F p q with
         | v x=>exact id
         | s fl k2 n2 f2=>
          cases fl with
          | b=>exact id
          | z=>exact id
          | o=>
           rintro⟨a4,c4,rfl,jB⟩;refine⟨a4,c4,rfl,fun h0=>?_⟩;obtain⟨b4,e4,iA,lA⟩:=jB h0;refine⟨b4,e4,?_,lA⟩;show(if b4=b then _ else _)=_;rw[if_neg ?_]
           ·exact iA
           ·intro e;rw[e,cA]at iA;simp only[Bs.ow.injEq,Ow.tl.injEq,true_and]at iA;obtain⟨rfl,rfl⟩:=zat hq (by omega) iA.1.symm;exact eA ⟨rfl,Nat.le_refl _,by omega⟩
       ·rw[if_neg e']at hq;refine ObR.ext hx (fun q hq=>qL (qL hq)) (by unfold dom;rw[hq];rfl) (X:=fun z=>z=b) (fun z _ hz=>⟨rfl,if_neg hz⟩) (fun z l hz dA=>?_) (fun tA z j' l hz dA=>?_) (ho q o hq)
        ·rw[hz,cA]at dA;cases dA
        ·rw[hz,cA]at dA;simp only[Bs.ow.injEq,Ow.tl.injEq]at dA;rw[<-dA.1.1,hg]at tA;cases tA;exact e' rfl
    ·cases he
   ·cases he
  ·cases he
 | _=>cases he
end
section
variable {P : Program} {t : Nat} {d de : TyD}
theorem zRQ(h:zAr P t d)(he:d.el≠0)(h':zAr P d.el de){w:World}{B n cap:Nat}{c:List Value}{T:TypeId}(hg:w.heap[B]?=some (.cells c.toArray T (0,0)))(hc:c.length=cap*de.k){b o m c':Nat}{aA:List Value}
  (hl:aA.length=m*de.k) (cA:∀(j:Nat) u,aA[j]?=some u->w.cell? ⟨b,o+j,none⟩=some u) (h1:∀u∈aA,u.oneCell'=true) (bA:n+m<=cap) (ty:Nat) :
  (Builtin.append_ #[t,t] ty #[.slice (some ⟨B,0,none⟩) n cap,.slice (some ⟨b,o,none⟩) m c']).run P w = .ok (.slice (some ⟨B,0,none⟩) (n+m) cap) (w.setRow B (c.take (n*de.k) ++ aA ++ c.drop (n*de.k+aA.length)).toArray):=by
 obtain⟨i,hi,hs,hz,hb⟩:=h'.get;have dA:n*de.k+aA.length<=c.length:=by
  rw[hl,hc,<-Nat.add_mul];exact Nat.mul_le_mul_right _ bA
 have hf:=run_firstCells_some (P:=P) w i.size m ⟨b,o,none⟩ m c' aA (by rw[hs];exact hl) (fun j u hu=>by rw[zCk];exact cA j u hu);have eA:=run_storeCells_at P B (n*de.k) T aA 0 c.toArray w hg (by simpa using dA) h1;simp only[Nat.add_zero]at eA;rw[hs]at hf;simp[Builtin.append_,run_underlying (h.slice he),sizeOf,typeInfo,hi,hs,Builtin.lenOf,bA,hf,zCk,eA]
theorem zJi(h:zAr P t d)(he:d.el≠0)(h':zAr P d.el de){w:World}{a a':Option Addr}{n cap c':Nat}(hn:n<=cap)(ty:Nat) :
  (Builtin.append_ #[t,t] ty #[.slice a n cap,.slice a' 0 c']).run P w = .ok (.slice a n cap) w:=by
 obtain⟨i,hi,hs,hz,hb⟩:=h'.get;cases a' with
 | none=>cases a<;>simp[Builtin.append_,run_underlying (h.slice he),sizeOf,typeInfo,hi,Builtin.lenOf,hn,Builtin.firstCells,storeCells]
 | some b=>cases a<;>simp[Builtin.append_,run_underlying (h.slice he),sizeOf,typeInfo,hi,Builtin.lenOf,hn,Builtin.firstCells,loadCells,loadCellsFrom,storeCells]
theorem zMP(h:zAr P t d)(he:d.el≠0)(h':zAr P d.el de){w:World}{a:Option Addr}{n cap:Nat}{olds:List Value}(ho:olds.length=n*de.k)(holds:0<n->∃B,a=some ⟨B,0,none⟩/\∀(j:Nat) u,olds[j]?=some u->w.cell? ⟨B,j,none⟩=some u){b o m c':Nat}{aA:List Value}
  (hl:aA.length=m*de.k) (bA:∀(j:Nat) u,aA[j]?=some u->w.cell? ⟨b,o+j,none⟩=some u) (hn:n<=cap) (hg:cap<n+m) (eA:n+m<=1000000000) (ty:Nat) :
  ∃cA rest,n+m<=cA/\rest.length=(cA - (n+m))*de.k/\
   (Builtin.append_ #[t,t] ty #[.slice a n cap,.slice (some ⟨b,o,none⟩) m c']).run P w = .ok (.slice (some ⟨w.heap.size,0,none⟩) (n+m) cA) (w.drew.alloc (.cells (olds ++ aA ++ rest).toArray d.el)):=by
 obtain⟨i,hi,hs,hz,hb⟩:=h'.get;have lA:=h'.zeP;have dA:=growslice_fits hg (show(n+m)*i.bytes<=140737488355328 by
  have:=Nat.mul_le_mul eA (show i.bytes<=1024 by omega);omega)
 have gA:de.zv.cells.size=de.k:=by rw[h'.zcells];simpa using h'.len
 cases a with
 | none=>
  have kA:n=0:=by
   rcases Nat.eq_zero_or_pos n with e | e
   ·exact e
   ·obtain⟨B,e',_⟩:=holds e;cases e'
  subst kA;have fA:olds = []:=(by simpa using ho);subst fA;simp only[Nat.zero_add]at *;refine⟨grownCap w m cap d.el,(Builtin.zeroCells de.zv.cells (grownCap w m cap d.el - m)).toList,grownCap_ge _ _ _ _,by rw[Array.length_toList,size_zeroCells,gA],?_⟩;have hf:=run_firstCells_some (P:=P) w.drew i.size m ⟨b,o,none⟩ m c' aA (by rw[hs];exact hl) (fun j u hu=>by rw[zCk];simpa using bA j u hu);rw[hs]at hf;have hn:¬(m<=cap):=(by omega);have iA:¬(281474976710656<Builtin.nextslicecap m cap*i.bytes):=(by omega);have jA:¬(9223372036854775807<(m:Int)):=(by omega);simp[Builtin.append_,run_underlying (h.slice he),sizeOf,typeInfo,zeroValue,hi,hs,hz,Builtin.lenOf,hn,jA,iA,Question.forced,run_firstCells_none,hf,newRow,grownCap];congr 2;apply Array.ext';simp
 | some A=>
  have hf:=run_append_grow (P:=P) w t ty d.el i de.zv (h.slice he) hi hz A n cap olds (by rw[hs];exact ho) (fun j v hj=>by
   have h0:0<n:=by
    rcases Nat.eq_zero_or_pos n with e | e
    ·subst e;have fA:olds = []:=(by simpa using ho);subst fA;simp at hj
    ·exact e
   obtain⟨B,e,hB⟩:=holds h0;cases e;rw[zCk,Nat.zero_add];exact hB j v hj) ⟨b,o,none⟩ m c' aA (by rw[hs];exact hl) (fun j u hu=>by rw[zCk];exact bA j u hu) hg (by omega) dA
  refine⟨grownCap w (n+m) cap d.el,(Builtin.zeroCells de.zv.cells (grownCap w (n+m) cap d.el - (n+m))).toList,grownCap_ge _ _ _ _,by rw[Array.length_toList,size_zeroCells,gA],?_⟩;rw[hf];congr 3;apply Array.ext';simp
end
def Tr.nt:Tr->Tr
 | .s .o k n f=>.s .z k n f
 | T=>T
theorem Sh.nt{w:World}{g:Nat->Bs}{T:Tr}{u:Value}(h:Sh w g T u):Sh w g T.nt u:=by
 cases T with
 | v x=>exact h
 | s fl k n f=>
  cases fl with
  | b=>exact h
  | z=>exact h
  | o=>exact Sh.cv (E:=⟨g,fun _=>0,fun _=>.bool false⟩) (D:=fun _=>True) h
theorem Tr.nt_tail{w:World}{g:Nat->Bs}{B j:Nat}{T:Tr}{u:Value}:zAb w g B j T.nt u:=by
 cases T with
 | v x=>trivial
 | s fl k n f=>cases fl<;>trivial
def srcOf(k:Nat)(ob:List (Nat×Ob)):Cv->Option (Prop×Nat×(Nat->Nat->Tr))
 | .s _ k' n f=>if k'=k then some (True,n,fun p q=>(f p q).nt)else none
 | .h i=>match rowE ob i with
  | some (k',n,f)=>if k'=k then some (True,n,fun p q=>(f p q).nt)else none
  | none=>none
 | .hs i k' lo m=>match rowE ob i with
  | some (k2,n,f)=>if k'=k/\k2=k then some (lo+m<=n,m,fun p q=>(f (lo+p) q).nt)else none
  | none=>none
 | .v (.slice none 0 0)=>some (True,0,fun _ _=>.v (.bool false))
 | _=>none
def zXl(w:World)(g:Nat->Bs)(k m:Nat)(f:Nat->Nat->Tr)(y:Value):Prop:=
 ∃a c,y = .slice a m c/\(0<m->∃b o,a=some ⟨b,o,none⟩/\∀i j,i<m->j<k->∃u,w.cell? ⟨b,o+(i*k+j),none⟩=some u/\Sh w g (f i j) u)
theorem zSy{w:World}{E:En}{ob:List (Nat×Ob)}(ho:qO w E ob){k m:Nat}{f:Nat->Nat->Tr}{x:Cv}{C:Prop}(h:srcOf k ob x=some (C,m,f))(hC:C){y:Value}(hy:CvR w E (dom ob) x y) :
  (∀p q,∀B j u,zAb w E.g B j (f p q) u)/\zXl w E.g k m f y:=by
 unfold srcOf at h;split at h
 ·split at h
  ·rename_i e
   subst e;cases h;obtain⟨a,c,e,hn,hc⟩:=hy;refine⟨fun p q B j u=>Tr.nt_tail,a,c,e,fun h0=>?_⟩;obtain⟨b,o,ha,_,_,aA⟩:=hc h0;exact⟨b,o,ha,fun i j hi hj=>let ⟨u,hu,hs⟩:=aA i j hi hj;⟨u,hu,hs.nt⟩⟩
  ·cases h
 ·rename_i i
  split at h
  ·rename_i k' n f' hi
   split at h
   ·rename_i e
    subst e;cases h;obtain⟨-,a,cap,hv,hn,hc⟩:=zGc ho hi;refine⟨fun p q B j u=>Tr.nt_tail,a,cap,hy.2.1.trans hv,fun h0=>?_⟩;obtain⟨ha,_,cs,T,hh,_,aA⟩:=hc (by omega);refine⟨E.bl i,0,ha,fun p j hp hj=>?_⟩;obtain⟨u,hu,hs⟩:=aA p j hp hj;refine⟨u,?_,hs.nt⟩;rw[Nat.zero_add,cell_of_row w _ _ _ T _ hh];simpa using hu
   ·cases h
  ·cases h
 ·rename_i i k' lo m'
  split at h
  ·rename_i k2 n f' hi
   split at h
   ·rename_i e
    obtain⟨rfl,rfl⟩:=e;cases h;obtain⟨-,a,cap,hv,hn,hc⟩:=zGc ho hi;obtain⟨-,a',c',e,bA⟩:=hy;refine⟨fun p q B j u=>Tr.nt_tail,a',c',e,fun h0=>?_⟩;obtain⟨ha,_,cs,T,hh,_,aA⟩:=hc (by omega);refine⟨E.bl i,_,bA h0,fun p j hp hj=>?_⟩;obtain⟨u,hu,hs⟩:=aA (lo+p) j (by omega) hj;refine⟨u,?_,hs.nt⟩;rw[cell_of_row w _ _ _ T _ hh,<-Nat.add_assoc,<-Nat.add_mul];simpa using hu
   ·cases h
  ·cases h
 ·cases h;exact⟨fun p q B j u=>trivial,none,0,hy.1,fun h0=>by omega⟩
 ·cases h
theorem zMl{w:World}{b o k:Nat}:∀(m:Nat),(∀i j,i<m->j<k->∃u,w.cell? ⟨b,o+(i*k+j),none⟩=some u)->∃cs:List Value,cs.length=m*k/\∀(j:Nat) u,cs[j]?=some u->w.cell? ⟨b,o+j,none⟩=some u:=by
 intro m h;obtain⟨cs,h1,h2,_⟩:=zGr (w:=w) (b:=b) (o:=o) (R:=fun _ _=>True) (fun _=>.h 0) (m*k) (fun q hq=>by
  rcases Nat.eq_zero_or_pos k with e | e
  ·subst e;omega
  ·obtain⟨u,hu⟩:=h (q / k) (q % k) ((Nat.div_lt_iff_lt_mul e).2 hq) (Nat.mod_lt _ e);rw[Nat.mul_comm,Nat.div_add_mod]at hu;exact⟨u,hu,trivial⟩)
 exact⟨cs,h1,h2⟩
def yX(f:Nat->Nat->Tr)(n:Nat)(f':Nat->Nat->Tr):Nat->Nat->Tr:=fun p q=>if p<n then f p q else f' (p - n) q
theorem Kp.turn{w:World}{g:Nat->Bs}{B:Nat}{o o':Ow}(h:g B = .ow o 0)(c:Array Value):Kp w g (w.setRow B c) (fun b=>if b=B then .ow o' 0 else g b):=by
 refine⟨rfl,rfl,rfl,by simp[World.setRow],fun b r hb hl=>?_,fun b q bA hb hl=>?_⟩
 ·have aA:b≠B:=fun e=>by rw[e,h]at hb;cases hb
  exact⟨zAB w B c b aA,by rw[if_neg aA];exact hb⟩
 ·by_cases e:b=B
  ·subst e;rw[h]at hb;cases hb;exact⟨fun j hj=>by omega,.inl ⟨o',0,if_pos rfl,Nat.le_refl _⟩⟩
  ·exact⟨fun j hj=>World.cell?_of_block (w:=w) (zAB w B c b e),.inl ⟨q,bA,by rw[if_neg e];exact hb,Nat.le_refl _⟩⟩
theorem zAb.ext{w w':World}{g g':Nat->Bs}{B B' j:Nat}{T:Tr}{u:Value}(h:zAb w g B j T u)(hx:∀b bA,g b = .ow (.tl B j) bA->b<w.heap.size->w'.heap[b]?=w.heap[b]?/\g' b = .ow (.tl B' j) bA):zAb w' g' B' j T u:=by
 revert h;cases T with
 | v x=>exact id
 | s fl k n f=>
  cases fl with
  | b=>exact id
  | z=>exact id
  | o=>
   rintro⟨a,c,rfl,hc⟩;refine⟨a,c,rfl,fun h0=>?_⟩;obtain⟨b,hb,cA,cs,t,aA,dA⟩:=hc h0;obtain⟨e1,e2⟩:=hx b _ cA (Array.getElem?_eq_some_iff.1 aA).1;exact⟨b,hb,e2,cs,t,by rw[e1];exact aA,dA⟩
theorem zHe{ob:List (Nat×Ob)}{i j:Nat}(hi:dom ob i)(hj:get ob j=none):i≠j:=fun e=>by unfold dom at hi;rw[e,hj]at hi;cases hi
def Frm(w w':World)(E E':En)(i:Option Nat):Prop:=∀b,b<w.heap.size->(∀q,i=some q->(∀lim,E.g b≠.ow (.nm q) lim)/\∀j lim,E.g b≠.ow (.tl (E.bl q) j) lim)->w'.heap[b]?=w.heap[b]?/\E'.g b=E.g b
theorem zSk{w:World}{E:En}{ob:List (Nat×Ob)}(ho:qO w E ob){i r:Nat}(hi:dom ob i)(hr:get ob r=none)(hg:E.g (E.bl i) = .ow (.nm i) 0){c:Array Value}{T:TypeId}(hh:w.heap[E.bl i]?=some (.cells c T (0,0))){k n cap:Nat}{f:Nat->Nat->Tr}{c1:List Value}
  (hn:n<=cap) (hl:c1.length=cap*k) (hc:∀p j,p<n->j<k->∃u,c1[p*k+j]?=some u/\Sh w E.g (f p j) u/\zAb w E.g (E.bl i) (p*k+j) (f p j) u) :
  ∃E',ql (dom ob) w E (w.setRow (E.bl i) c1.toArray) E'/\qO (w.setRow (E.bl i) c1.toArray) E' (put (put ob i .dead) r (.row k n f))/\AvR (w.setRow (E.bl i) c1.toArray) E' (dom (put (put ob i .dead) r (.row k n f))) (.m false [.h r]) (.slice (some ⟨E.bl i,0,none⟩) n cap)/\Frm w (w.setRow (E.bl i) c1.toArray) E E' (some i):=by
 have bA:∀j,dom ob j->j≠r:=fun j hj=>zHe hj hr
 have hx:ql (dom ob) w E (w.setRow (E.bl i) c1.toArray) ⟨fun b=>if b=E.bl i then .ow (.nm r) 0 else E.g b,fun j=>if j=r then E.bl i else E.bl j,fun j=>if j=r then .slice (some ⟨E.bl i,0,none⟩) n cap else E.hv j⟩:=
  ⟨Kp.turn hg _,fun j hj=>if_neg (bA j hj),fun j hj=>if_neg (bA j hj)⟩
 refine⟨_,hx,fun j b hj=>?_,⟨.h r,rfl,by unfold dom;rw[ze,if_pos rfl];rfl,by simp,rfl⟩,fun b hb hq=>?_⟩;rotate_left
 ·have bA:b≠E.bl i:=fun e=>(hq i rfl).1 0 (e▸hg)
  exact⟨zAB _ _ _ _ bA,if_neg bA⟩
 rw[ze,ze]at hj;by_cases e:r=j
 ·subst e;rw[if_pos rfl]at hj;cases hj;refine⟨some ⟨E.bl i,0,none⟩,cap,by simp,hn,fun h0=>⟨by simp,by simp,c1,T,by simpa using setRow_heap _ _ _ _ _ _ hh,hl,fun p j hp hj=>?_⟩⟩;obtain⟨u,hu,hs,ht⟩:=hc p j hp hj;refine⟨u,hu,hs.kp hx.kp,?_⟩;simp only[if_true];refine ht.ext (fun b eA hb fA=>?_);have cA:b≠E.bl i:=fun e=>by rw[e,hg]at hb;cases hb
  exact⟨zAB _ _ _ _ cA,by rw[if_neg cA];exact hb⟩
 ·rw[if_neg e]at hj;by_cases e':i=j
  ·rw[if_pos e']at hj;cases hj;trivial
  ·rw[if_neg e']at hj;have hd:dom ob j:=(by unfold dom;rw[hj];rfl);refine ObR.ext hx (fun j hj=>qL (qL hj)) hd (X:=fun b=>b=E.bl i) (fun b hb dA=>⟨zAB _ _ _ _ dA,if_neg dA⟩) (fun b eA hb aA=>?_) (fun _ b j' eA hb aA=>?_) (ho j b hj)
   ·rw[hb,hg]at aA;cases aA;exact e' rfl
   ·rw[hb,hg]at aA;cases aA
def Bs.mv(B B':Nat):Bs->Bs
 | .ow (.tl b j) lim=>if b=B then .ow (.tl B' j) lim else .ow (.tl b j) lim
 | s=>s
theorem zZ5{w:World}{E:En}{ob:List (Nat×Ob)}(ho:qO w E ob){i r:Nat}(hi:dom ob i)(hr:get ob r=none)(hg:E.g (E.bl i) = .ow (.nm i) 0){k n cap:Nat}{f:Nat->Nat->Tr}{c1:List Value}{T:TypeId}
  (hn:n<=cap) (hl:c1.length=cap*k) (hc:∀p j,p<n->j<k->∃u,c1[p*k+j]?=some u/\Sh w E.g (f p j) u/\zAb w E.g (E.bl i) (p*k+j) (f p j) u) :
  ∃E',ql (dom ob) w E (w.alloc (.cells c1.toArray T)) E'/\qO (w.alloc (.cells c1.toArray T)) E' (put (put ob i .dead) r (.row k n f))/\AvR (w.alloc (.cells c1.toArray T)) E' (dom (put (put ob i .dead) r (.row k n f))) (.m false [.h r]) (.slice (some ⟨w.heap.size,0,none⟩) n cap)/\Frm w (w.alloc (.cells c1.toArray T)) E E' (some i):=by
 have cA:∀j,dom ob j->j≠r:=fun j hj=>zHe hj hr
 have hk:Kp w E.g (w.alloc (.cells c1.toArray T)) (fun b=>if b=w.heap.size then .ow (.nm r) 0 else(E.g b).mv (E.bl i) w.heap.size):=by
  refine⟨rfl,rfl,rfl,by simp,fun b q hb hl=>⟨Below.heap_alloc _ _ _ hl,?_⟩,fun b q aA hb hl=>⟨fun j _=>World.cell?_of_block (w:=w) (Below.heap_alloc _ _ _ hl),?_⟩⟩
  ·rw[if_neg (by omega),hb];rfl
  ·rw[if_neg (by omega),hb];cases q with
   | nm x=>exact .inl ⟨_,aA,rfl,Nat.le_refl _⟩
   | tl x y=>
    by_cases e:x=E.bl i
    ·exact .inl ⟨.tl w.heap.size y,aA,by simp[Bs.mv,e],Nat.le_refl _⟩
    ·exact .inl ⟨.tl x y,aA,by simp[Bs.mv,e],Nat.le_refl _⟩
 have hx:ql (dom ob) w E (w.alloc (.cells c1.toArray T)) ⟨fun b=>if b=w.heap.size then .ow (.nm r) 0 else(E.g b).mv (E.bl i) w.heap.size,fun j=>if j=r then w.heap.size else E.bl j,fun j=>if j=r then .slice (some ⟨w.heap.size,0,none⟩) n cap else E.hv j⟩:=
  ⟨hk,fun j hj=>if_neg (cA j hj),fun j hj=>if_neg (cA j hj)⟩
 refine⟨_,hx,fun j b hj=>?_,⟨.h r,rfl,by unfold dom;rw[ze,if_pos rfl];rfl,by simp,rfl⟩,fun b hb hq=>?_⟩;rotate_left
 ·refine⟨Below.heap_alloc _ _ _ hb,?_⟩;show(if b=w.heap.size then _ else _)=_;rw[if_neg (by omega)];cases hgb:E.g b with
  | fz r=>rfl
  | ow o aA=>
   cases o with
   | nm j=>rfl
   | tl B j=>
    refine if_neg (fun e=>(hq i rfl).2 j aA ?_);rw[<-e];exact hgb
 rw[ze,ze]at hj;by_cases e:r=j
 ·subst e;rw[if_pos rfl]at hj;cases hj;refine⟨some ⟨w.heap.size,0,none⟩,cap,by simp,hn,fun h0=>⟨by simp,by simp,c1,T,by simpa using zID w _,hl,fun p j hp hj=>?_⟩⟩;obtain⟨u,hu,hs,ht⟩:=hc p j hp hj;refine⟨u,hu,hs.kp hx.kp,?_⟩;simp only[if_true];exact ht.ext (fun b aA hb dA=>⟨Below.heap_alloc _ _ _ dA,by rw[if_neg (by omega),hb];simp[Bs.mv]⟩)
 ·rw[if_neg e]at hj;by_cases e':i=j
  ·rw[if_pos e']at hj;cases hj;trivial
  ·rw[if_neg e']at hj;have hd:dom ob j:=(by unfold dom;rw[hj];rfl);refine ObR.ext hx (fun j hj=>qL (qL hj)) hd (X:=fun b=>∃q aA,E.g b = .ow (.tl (E.bl i) q) aA) (fun b hb eA=>⟨Below.heap_alloc _ _ _ hb,?_⟩) (fun b aA ⟨q,l,hb⟩ hgb=>?_) (fun bA b j' aA ⟨q,l,hb⟩ hgb=>?_) (ho j b hj)
   ·show(if b=w.heap.size then _ else _)=_;rw[if_neg (by omega)];cases hgb:E.g b with
    | fz x=>rfl
    | ow q aA=>
     cases q with
     | nm x=>rfl
     | tl x y=>
      have:x≠E.bl i:=fun e=>eA ⟨y,aA,by rw[hgb,e]⟩
      simp[Bs.mv,this]
   ·rw[hb]at hgb;cases hgb
   ·rw[hb]at hgb;simp only[Bs.ow.injEq,Ow.tl.injEq]at hgb;have e3:=hgb.1.1;rw[<-e3,hg]at bA;cases bA;exact e' rfl
def dstOf(k:Nat)(ob:List (Nat×Ob)):Cv->Option (Option Nat×Nat×(Nat->Nat->Tr))
 | .h i=>match get ob i with
  | some (.row k' n f)=>if k'=k then some (some i,n,f)else none
  | _=>none
 | .v (.slice none 0 0)=>some (none,0,fun _ _=>.v (.bool false))
 | _=>none
def zA7(ob:List (Nat×Ob)):Option Nat->List (Nat×Ob)
 | some i=>put ob i .dead
 | none=>ob
theorem zLH{P:Program}{t:Nat}{d de:TyD}(h:zAr P t d)(he:d.el≠0)(h':zAr P d.el de){w:World}{E:En}{ob:List (Nat×Ob)}(ho:qO w E ob){r n m:Nat}{i:Option Nat}{f f':Nat->Nat->Tr}{x:Cv}(hr:get ob r=none)(hd:dstOf de.k ob x=some (i,n,f))(hc:n+m<=1000000000){u v:Value}(hu:CvR w E (dom ob) x u)(eB:∀p q,∀B j u,zAb w E.g B j (f' p q) u)(hb:zXl w E.g de.k m f' v)(ty:Nat) :
  ∃z w' E',(Builtin.append_ #[t,t] ty #[u,v]).run P w = .ok z w'/\ql (dom ob) w E w' E'/\(∀j,dom ob j->dom (put (zA7 ob i) r (.row de.k (n+m) (yX f n f'))) j)/\qO w' E' (put (zA7 ob i) r (.row de.k (n+m) (yX f n f')))/\AvR w' E' (dom (put (zA7 ob i) r (.row de.k (n+m) (yX f n f')))) (.m false [.h r]) z/\Frm w w' E E' i:=by
 obtain⟨a',c',rfl,aB⟩:=hb;obtain⟨b,o,aA,hl,fA,nA,cB⟩:∃b o,∃aA:List Value,aA.length=m*de.k/\(∀(j:Nat) u,aA[j]?=some u->w.cell? ⟨b,o+j,none⟩=some u)/\(0<m->a'=some ⟨b,o,none⟩)/\∀p j,p<m->j<de.k->∃u,aA[p*de.k+j]?=some u/\Sh w E.g (f' p j) u:=by
  rcases Nat.eq_zero_or_pos m with e | e
  ·subst e;exact⟨0,0,[],by simp,fun j u h=>by simp at h,fun h=>by omega,fun p j hp=>by omega⟩
  ·obtain⟨b,o,ha,cA⟩:=aB e;obtain⟨cs,h1,h2⟩:=zMl m (fun p j hp hj=>let ⟨u,hu,_⟩:=cA p j hp hj;⟨u,hu⟩);refine⟨b,o,cs,h1,h2,fun _=>ha,fun p j hp hj=>?_⟩;obtain⟨u,hu,bB⟩:=cA p j hp hj;have rA:=zEv hp hj;have h5:cs[p*de.k+j]?=some cs[p*de.k+j]:=List.getElem?_eq_getElem (by omega);have h6:=h2 _ _ h5;rw[hu]at h6;cases h6;exact⟨_,h5,bB⟩
 have vA:∀u∈aA,u.oneCell'=true:=fun u hu=>by
  obtain⟨q,hq⟩:=List.getElem?_of_mem hu;have rA:=(List.getElem?_eq_some_iff.1 hq).1;have hp:=h'.pos;obtain⟨u',fB,rB⟩:=cB (q / de.k) (q % de.k) ((Nat.div_lt_iff_lt_mul hp).2 (by omega)) (Nat.mod_lt _ hp);rw[Nat.mul_comm,Nat.div_add_mod,hq]at fB;cases fB;exact rB.one
 have kA:∀(olds rest:List Value),olds.length=n*de.k->∀p j,p<n+m->j<de.k->¬p<n->∃u,(olds ++ aA ++ rest)[p*de.k+j]?=some u/\Sh w E.g (yX f n f' p j) u/\∀B q,zAb w E.g B q (yX f n f' p j) u:=fun olds rest nB p j hp hj dA=>by
  obtain⟨u,hu,bB⟩:=cB (p - n) j (by omega) hj;have e:p*de.k+j=n*de.k+((p - n)*de.k+j):=by
   rw[<-Nat.add_assoc,<-Nat.add_mul];congr 2;omega
  refine⟨u,?_,?_,fun B q=>?_⟩
  ·have rA:=(List.getElem?_eq_some_iff.1 hu).1;rw[e,List.append_assoc,List.getElem?_append_right (by omega),nB,Nat.add_sub_cancel_left,List.getElem?_append_left rA];exact hu
  ·unfold yX;rw[if_neg dA];exact bB
  ·unfold yX;rw[if_neg dA];exact eB _ _ _ _ _
 have bA:u = .slice none 0 0\/(∃a,u = .slice a 0 0)->n=0->(∀j,dom ob j->dom (put (zA7 ob i) r (.row de.k (n+m) (yX f n f'))) j)->((i=none)\/∃q,i=some q/\dom ob q)->
   ∃z w' E',(Builtin.append_ #[t,t] ty #[u,.slice a' m c']).run P w = .ok z w'/\ql (dom ob) w E w' E'/\(∀j,dom ob j->dom (put (zA7 ob i) r (.row de.k (n+m) (yX f n f'))) j)/\qO w' E' (put (zA7 ob i) r (.row de.k (n+m) (yX f n f')))/\AvR w' E' (dom (put (zA7 ob i) r (.row de.k (n+m) (yX f n f')))) (.m false [.h r]) z/\Frm w w' E E' i:=by
  intro sB mB jA hq;obtain⟨a,rfl⟩:∃a,u = .slice a 0 0:=by rcases sB with e | ⟨a,e⟩;exact⟨none,e⟩;exact⟨a,e⟩
  subst mB;have gA:∀{w1:World} {E1:En},qO w1 E1 (put ob r (.row de.k (0+m) (yX f 0 f')))->qO w1 E1 (put (zA7 ob i) r (.row de.k (0+m) (yX f 0 f'))):=by
   intro w1 E1 sA;rcases hq with rfl | ⟨q,rfl,oB⟩
   ·exact sA
   ·have tB:q≠r:=zHe oB hr;intro j bb hj;have hD:∀j,dom (put ob r (.row de.k (0+m) (yX f 0 f'))) j->dom (put (zA7 ob (some q)) r (.row de.k (0+m) (yX f 0 f'))) j:=by
     intro j hj;unfold dom zA7 at *;rw[ze]at hj ⊢;by_cases e:r=j
     ·rw[if_pos e];rfl
     ·rw[if_neg e]at hj ⊢;rw[ze];split
      ·rfl
      ·exact hj
    simp only[zA7]at hj;rw[ze,ze]at hj;by_cases e:r=j
    ·subst e;rw[if_pos rfl]at hj;cases hj;exact ObR.ext (ql.refl _ _ _) hD (by unfold dom;rw[ze,if_pos rfl];rfl) (X:=fun _=>False) (fun _ _ _=>⟨rfl,rfl⟩) (fun _ _ x=>x.elim) (fun _ _ _ _ x=>x.elim) (sA r _ (by rw[ze,if_pos rfl]))
    ·rw[if_neg e]at hj;by_cases e':q=j
     ·rw[if_pos e']at hj;cases hj;trivial
     ·rw[if_neg e']at hj;exact ObR.ext (ql.refl _ _ _) hD (by unfold dom;rw[ze,if_neg e,hj];rfl) (X:=fun _=>False) (fun _ _ _=>⟨rfl,rfl⟩) (fun _ _ x=>x.elim) (fun _ _ _ _ x=>x.elim) (sA j _ (by rw[ze,if_neg e];exact hj))
  rcases Nat.eq_zero_or_pos m with e | e
  ·subst e;have iB:ql (dom ob) w E w ⟨E.g,E.bl,fun j=>if j=r then .slice a 0 0 else E.hv j⟩:=⟨Kp.refl _ _,fun _ _=>rfl,fun j hj=>if_neg (zHe hj hr)⟩;refine⟨_,_,⟨E.g,E.bl,fun j=>if j=r then .slice a 0 0 else E.hv j⟩,zJi h he h' (Nat.le_refl _) ty,iB,jA,gA (fun j bb hj=>?_),⟨.h r,rfl,by unfold dom;rw[ze,if_pos rfl];rfl,by simp,rfl⟩,fun _ _ _=>⟨rfl,rfl⟩⟩;rw[ze]at hj;by_cases e:r=j
   ·subst e;rw[if_pos rfl]at hj;cases hj;exact⟨a,0,by simp,Nat.le_refl _,fun h0=>by omega⟩
   ·rw[if_neg e]at hj;have hd:dom ob j:=(by unfold dom;rw[hj];rfl);exact ObR.ext iB (fun j hj=>qL hj) hd (X:=fun _=>False) (fun _ _ _=>⟨rfl,rfl⟩) (fun _ _ x=>x.elim) (fun _ _ _ _ x=>x.elim) (ho j bb hj)
  ·have ea:=nA e;subst ea;obtain⟨iA,rest,h1,h2,h3⟩:=zMP h he h' (w:=w) (a:=a) (n:=0) (cap:=0) (olds:=[]) (by simp) (fun h0=>by omega) hl fA (Nat.le_refl _) (by omega) hc ty (c':=c');have tA:qO w.drew E ob:=fun j bb hj=>ObR.ext ⟨Kp.drew _ _,fun _ _=>rfl,fun _ _=>rfl⟩ (fun _ h=>h) (by unfold dom;rw[hj];rfl) (X:=fun _=>False) (fun _ _ _=>⟨rfl,rfl⟩) (fun _ _ x=>x.elim) (fun _ _ _ _ x=>x.elim) (ho j bb hj)
   obtain⟨E',g1,g2,g3,g4⟩:=zSW tA hr (k:=de.k) (n:=0+m) (cap:=iA) (f:=yX f 0 f') (cs:=[] ++ aA ++ rest) h1 (by simp[h2,hl];rw[<-Nat.add_mul];congr 1;omega) (fun p j hp hj=>by
    obtain⟨u,g1,g2,g3⟩:=kA [] rest (by simp) p j hp hj (by omega);exact⟨u,g1,g2.kp (Kp.drew _ _),fun B o=>(g3 B o).ext (fun b jB hb _=>⟨rfl,hb⟩)⟩) (fun p j hp hj k2 n2 f2 e=>by
    have:=eB (p - 0) j 0 0 (.bool false);unfold yX at e;rw[if_neg (by omega)]at e;rw[e]at this;obtain⟨_,_,e',_⟩:=this;cases e') d.el
   refine⟨_,_,E',h3,⟨(Kp.drew _ _).trans g1.kp,g1.bl,g1.hv⟩,jA,gA g2,?_⟩;refine⟨g3.ext (ql.refl _ _ _) (fun j hj=>?_),fun b hb _=>g4 b hb⟩;unfold dom at *;rw[ze]at hj ⊢;by_cases e:r=j
   ·rw[if_pos e];rfl
   ·rw[if_neg e]at hj ⊢;cases i with
    | none=>exact hj
    | some q=>exact qL hj
 unfold dstOf at hd;split at hd
 ·rename_i i'
  split at hd
  ·rename_i k' n' fo hi
   split at hd
   ·rename_i ek
    subst ek;cases hd;obtain⟨a,cap,gB,hn,oA⟩:=ho _ _ hi;obtain⟨mA,rfl,-⟩:=hu;rw[gB];have jA:∀j,dom ob j->dom (put (zA7 ob (some i')) r (.row de.k (n+m) (yX f n f'))) j:=fun j hj=>qL (qL hj)
    rcases Nat.eq_zero_or_pos cap with e0 | e0
    ·subst e0;have en:n=0:=(by omega);rw[gB]at bA;subst en;exact bA (.inr ⟨a,rfl⟩) rfl jA (.inr ⟨i',rfl,mA⟩)
    ·obtain⟨ha,hg,cs,T,hh,pA,cA⟩:=oA e0;subst ha;by_cases hm:n+m<=cap
     ·
      have eA:∀(c1:List Value),(∀q,q<n*de.k->c1[q]?=cs[q]?)->(∀p j,p<n+m->j<de.k->¬p<n->∃u,c1[p*de.k+j]?=some u/\Sh w E.g (yX f n f' p j) u/\∀B q,zAb w E.g B q (yX f n f' p j) u)->∀p j,p<n+m->j<de.k->∃u,c1[p*de.k+j]?=some u/\Sh w E.g (yX f n f' p j) u/\zAb w E.g (E.bl i') (p*de.k+j) (yX f n f' p j) u:=by
       intro c1 h1 h2 p j hp hj;by_cases dA:p<n
       ·obtain⟨u,hu,hs,ht⟩:=cA p j dA hj;have ef:yX f n f' p j=f p j:=(by unfold yX;rw[if_pos dA]);rw[ef];exact⟨u,(h1 _ (zEv dA hj)).trans hu,hs,ht⟩
       ·obtain⟨u,g1,g2,g3⟩:=h2 p j hp hj dA;exact⟨u,g1,g2,g3 _ _⟩
      rcases Nat.eq_zero_or_pos m with e | e
      ·subst e;obtain⟨E',g1,g2,g3,g4⟩:=zSk ho mA hr hg hh (k:=de.k) (n:=n+0) (cap:=cap) (f:=yX f n f') (c1:=cs) hm pA (eA cs (fun _ _=>rfl) (fun p j hp hj dA=>by omega));rw[setRow_self _ _ _ T (0,0) hh]at g1 g2 g3 g4;exact⟨_,_,E',zJi h he h' hn ty,g1,jA,g2,g3,g4⟩
      ·have ea:=nA e;subst ea;have pB:=zRQ h he h' hh pA hl fA vA hm ty (c':=c');have kB:n*de.k+aA.length<=cs.length:=by
        rw[hl,pA,<-Nat.add_mul];exact Nat.mul_le_mul_right _ hm
       have lA:(cs.take (n*de.k)).length=n*de.k:=(by simp;omega);obtain⟨E',g1,g2,g3,g4⟩:=zSk ho mA hr hg hh (k:=de.k) (n:=n+m) (cap:=cap) (f:=yX f n f') (c1:=cs.take (n*de.k) ++ aA ++ cs.drop (n*de.k+aA.length)) hm (by simp;omega) (eA _ (fun q hq=>by
        rw[List.append_assoc,List.getElem?_append_left (by omega),List.getElem?_take,if_pos hq]) (kA _ _ lA))
       exact⟨_,_,E',pB,g1,jA,g2,g3,g4⟩
     ·
      have lB:0<m:=(by omega);have ea:=nA lB;subst ea;have lA:(cs.take (n*de.k)).length=n*de.k:=by
       have:=Nat.mul_le_mul_right de.k hn;simp;omega
      obtain⟨iA,rest,h1,h2,h3⟩:=zMP h he h' (w:=w) (a:=some ⟨E.bl i',0,none⟩) (n:=n) (cap:=cap) (olds:=cs.take (n*de.k)) lA (fun _=>⟨_,rfl,fun j u hj=>by
       rw[cell_of_row w _ _ _ T _ hh];rw[List.getElem?_take]at hj;split at hj
       ·simpa using hj
       ·cases hj⟩) hl fA hn (by omega) hc ty (c':=c')
      have tA:qO w.drew E ob:=fun j bb hj=>ObR.ext ⟨Kp.drew _ _,fun _ _=>rfl,fun _ _=>rfl⟩ (fun _ h=>h) (by unfold dom;rw[hj];rfl) (X:=fun _=>False) (fun _ _ _=>⟨rfl,rfl⟩) (fun _ _ x=>x.elim) (fun _ _ _ _ x=>x.elim) (ho j bb hj)
      obtain⟨E',g1,g2,g3,g4⟩:=zZ5 tA mA hr hg (k:=de.k) (n:=n+m) (cap:=iA) (f:=yX f n f') (c1:=cs.take (n*de.k) ++ aA ++ rest) (T:=d.el) h1 (by
       rw[List.length_append,List.length_append,lA,hl,h2,<-Nat.add_mul,<-Nat.add_mul];congr 1;omega) (fun p j hp hj=>by
       by_cases dA:p<n
       ·obtain⟨u,hu,hs,ht⟩:=cA p j dA hj;have ef:yX f n f' p j=f p j:=(by unfold yX;rw[if_pos dA]);rw[ef];have hq:=zEv dA hj;refine⟨u,?_,hs.kp (Kp.drew _ _),ht.ext (fun b jB hb _=>⟨rfl,hb⟩)⟩;rw[List.append_assoc,List.getElem?_append_left (by omega),List.getElem?_take,if_pos hq];exact hu
       ·obtain⟨u,g1,g2,g3⟩:=kA _ rest lA p j hp hj dA;exact⟨u,g1,g2.kp (Kp.drew _ _),(g3 _ _).ext (fun b jB hb _=>⟨rfl,hb⟩)⟩)
      exact⟨_,_,E',h3,⟨(Kp.drew _ _).trans g1.kp,g1.bl,g1.hv⟩,jA,g2,g3,g4⟩
   ·cases hd
  ·cases hd
 ·cases hd;exact bA (.inl hu.1) rfl (fun j hj=>qL hj) (.inl rfl)
 ·cases hd
def evAppend(de:TyD)(ob:List (Nat×Ob))(r:Nat)(x y:Cv):Option (Prop×List (Nat×Ob)):=
 match get ob r,dstOf de.k ob x,srcOf de.k ob y with
 | none,some (i,n,f),some (C,m,f')=>some (C/\n+m<=1000000000,put (zA7 ob i) r (.row de.k (n+m) (yX f n f')))
 | _,_,_=>none
theorem zRg{P:Program}{t:Nat}{d de:TyD}(h:zAr P t d)(he:d.el≠0)(h':zAr P d.el de){w:World}{E:En}{ob ob':List (Nat×Ob)}(ho:qO w E ob){r:Nat}{x y:Cv}{c:Prop}(aA:evAppend de ob r x y=some (c,ob'))(hc:c){u v:Value}(hu:CvR w E (dom ob) x u)(hv:CvR w E (dom ob) y v)(ty:Nat) :
  ∃z w' E',(Builtin.append_ #[t,t] ty #[u,v]).run P w = .ok z w'/\ql (dom ob) w E w' E'/\(∀j,dom ob j->dom ob' j)/\qO w' E' ob'/\AvR w' E' (dom ob') (.m false [.h r]) z:=by
 unfold evAppend at aA;split at aA
 ·rename_i i n f C m f' hr hd hs
  cases aA;obtain⟨h1,h2⟩:=zSy ho hs hc.1 hv;obtain⟨z,w',E',g1,g2,g3,g4,g5,-⟩:=zLH h he h' ho hr hd hc.2 hu h1 h2 ty;exact⟨z,w',E',g1,g2,g3,g4,g5⟩
 ·cases aA
end Go.Proofs.YtjganmlaooofoaaGreatDoor
