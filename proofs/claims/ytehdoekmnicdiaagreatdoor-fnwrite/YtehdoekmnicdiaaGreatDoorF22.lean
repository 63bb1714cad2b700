/- A part of the proof. -/
import Derived.Test.YtehdoekmnicdiaaGreatDoorF21
import Derived.WideKeyEntry
import Derived.Shelf.Abstract
set_option linter.unusedVariables false
set_option maxRecDepth 20000
set_option maxHeartbeats 4000000
namespace Go.Proofs.YtehdoekmnicdiaaGreatDoor
open Go.RowKit
def Du(w:World)(v:Value)(n:Nat)(f:Nat->ByteArray):Prop:=
 n<=1000/\∃a c,v = .slice a n c/\(∀i,i<n->(f i).size<=maxLen)/\(0<n->∃b off,a=some ⟨b,off,none⟩/\∀i,i<n->w.cell? ⟨b,off+i,none⟩=some (.string (f i)))
variable{w w':World}{v:Value}{n:Nat}{f:Nat->ByteArray}
theorem Du.A0(h:Du w v n f)(t:Below w.heap.size w w'):Du w' v n f:=by
 obtain⟨m,a,c,hv,hs,j⟩:=h;refine⟨m,a,c,hv,hs,fun e=>?_⟩;obtain⟨b,off,g,d⟩:=j e;exact⟨b,off,g,fun i hi=>(t.cell (AZ (d i hi))).trans (d i hi)⟩
variable{c i:Nat}
theorem Du.cells{a:Option Addr}(h:Du w (.slice a n c) n f)(hi:i<n):∃b off,a=some ⟨b,off,none⟩/\w.cell? ⟨b,off+i,none⟩=some (.string (f i)):=by
 obtain⟨m,j,c0,hv,hs,g⟩:=h;simp only[Value.slice.injEq,true_and]at hv;obtain⟨rfl,rfl⟩:=hv;obtain⟨b,off,d,e⟩:=g (by omega);exact⟨b,off,d,e i hi⟩
theorem zk(s:ByteArray)(w:World)(hs:s.size<=maxLen):Calls Tryz.prog 123 #[.string s] w fun e w'=>AL (8000<s.size) e/\Below w.heap.size w w':=by
 unfold maxLen at hs;by_cases h:8000<s.size
 ·have a:(8000:Int)<(s.size:Int):=(by omega);have H:=AO h;clear h;go_enter Tryz.func123,Tryz.ntmps123;go_wp2;go_ret;exact⟨AL.yes H.out,Below.refl _ _⟩
 ·have a:¬(8000:Int)<(s.size:Int):=(by omega);have H:=AO h;clear h;go_enter Tryz.func123,Tryz.ntmps123;go_wp2;go_ret;exact⟨AL.no H.out,Below.refl _ _⟩
theorem zES(s:ByteArray)(w:World)(hs:s.size<=maxLen):Calls Tryz.prog 124 #[.string s] w fun e w'=>AL (¬Bp s) e/\Below w.heap.size w w':=by
 go_enter Tryz.func124,Tryz.ntmps124;go_wp2_with fail;refine(Rm s w hs).mono ?_;rintro e d ⟨⟨t,rfl,b⟩,rfl⟩;by_cases a:Bp s
 ·obtain rfl:t=true:=b.2 a;have c:=AO a;clear b a;go_wp2;go_ret;exact⟨AL.no (fun h=>h c.out),Below.refl _ _⟩
 ·obtain rfl:t=false:=BR b a;have c:=AO a;clear b a;go_wp2;go_ret;exact⟨AL.yes c.out,Below.refl _ _⟩
theorem zBj(v:Value)(n:Nat)(f:Nat->ByteArray)(w:World)(h:Du w v n f) :
 Calls Tryz.prog 166 #[v,.func (.func 123) #[] #[]] w fun e w'=>((∃i:Nat,i<n/\8000<(f i).size/\e = .returned (.int .i64 (i:Int)))\/((∀j,j<n->¬8000<(f j).size)/\e = .returned (.int .i64 (-1))))/\Below w.heap.size w w':=by
 have z:=AO h;obtain⟨D,a,c,rfl,hs,-⟩:=h;have A:=AO hs;clear hs;go_enter Tryz.func166,Tryz.ntmps166;go_wp2
 go_loopw [8] (fun i wr=>∃k:Nat,k<=n/\i = .int .i64 k/\(∀j,j<k->¬8000<(f j).size)/\Below w.heap.size w wr) (fun i _=>n - (intOf i).toNat)
 case atStart=>exact⟨0,Nat.zero_le _,rfl,fun j x=>absurd x (Nat.not_lt_zero _),Below.refl _ _⟩
 case round=>
  obtain⟨k,C,rfl,g,s⟩:=hrel;have d:=AO g;clear g;by_cases l:k<n
  ·have y:(k:Int)<(n:Int):=(by omega);obtain⟨b,off,rfl,B⟩:=(z.out.A0 s).cells l;have u:=A.out k l;go_wp2_with fail;refine(zk (f k) _ u).mono ?_;rintro e E ⟨⟨t,rfl,q⟩,o⟩;have p:=A7 s o;clear o B;by_cases m:8000<(f k).size
   ·obtain rfl:t=true:=q.2 m;have r:=AO m;clear q m;go_wp2;go_ret;exact⟨Or.inl ⟨k,l,r.out,rfl⟩,p⟩
   ·obtain rfl:t=false:=BR q m;have r:=AO m;clear q m;go_wp2;go_roundw
    case rel=>
     refine⟨k+1,by omega,by go_num,fun j x=>?_,p⟩;by_cases e:j=k
     ·subst e;exact r.out
     ·exact d.out j (by omega)
    case measure=>simp[intOf];omega
  ·obtain rfl:k=n:=(by omega);go_wp2;go_ret;exact⟨Or.inr ⟨d.out,rfl⟩,s⟩
theorem zAB(v:Value)(n:Nat)(f:Nat->ByteArray)(w:World)(h:Du w v n f) :
 Calls Tryz.prog 122 #[v,.func (.func 123) #[] #[]] w fun e w'=>AL (∃i,i<n/\8000<(f i).size) e/\Below w.heap.size w w':=by
 have k:=AO h;obtain⟨o,a,c,rfl,hs,-⟩:=h;go_enter Tryz.func122,Tryz.ntmps122;go_wp2_with fail;refine(zBj _ n f w k.out).mono ?_;rintro e p ⟨l,b⟩;rcases l with⟨i,hi,j,rfl⟩ | ⟨d,rfl⟩
 ·have g:=AO (show ∃i,i<n/\8000<(f i).size from⟨i,hi,j⟩);have m:(0:Int)<=(i:Int):=(by omega);clear j;go_wp2;go_ret;exact⟨AL.yes g.out,b⟩
 ·have g:=AO d;clear d;go_wp2;go_ret;exact⟨AL.no fun ⟨i,hi,hq⟩=>g.out i hi hq,b⟩
theorem zBk(v:Value)(n:Nat)(f:Nat->ByteArray)(w:World)(h:Du w v n f) :
 Calls Tryz.prog 166 #[v,.func (.func 124) #[] #[]] w fun e w'=>((∃i:Nat,i<n/\¬Bp (f i)/\e = .returned (.int .i64 (i:Int)))\/((∀j,j<n->¬¬Bp (f j))/\e = .returned (.int .i64 (-1))))/\Below w.heap.size w w':=by
 have z:=AO h;obtain⟨D,a,c,rfl,hs,-⟩:=h;have A:=AO hs;clear hs;go_enter Tryz.func166,Tryz.ntmps166;go_wp2
 go_loopw [8] (fun i wr=>∃k:Nat,k<=n/\i = .int .i64 k/\(∀j,j<k->¬¬Bp (f j))/\Below w.heap.size w wr) (fun i _=>n - (intOf i).toNat)
 case atStart=>exact⟨0,Nat.zero_le _,rfl,fun j x=>absurd x (Nat.not_lt_zero _),Below.refl _ _⟩
 case round=>
  obtain⟨k,C,rfl,g,s⟩:=hrel;have d:=AO g;clear g;by_cases l:k<n
  ·have y:(k:Int)<(n:Int):=(by omega);obtain⟨b,off,rfl,B⟩:=(z.out.A0 s).cells l;have u:=A.out k l;go_wp2_with fail;refine(zES (f k) _ u).mono ?_;rintro e E ⟨⟨t,rfl,q⟩,o⟩;have p:=A7 s o;clear o B;by_cases m:¬Bp (f k)
   ·obtain rfl:t=true:=q.2 m;have r:=AO m;clear q m;go_wp2;go_ret;exact⟨Or.inl ⟨k,l,r.out,rfl⟩,p⟩
   ·obtain rfl:t=false:=BR q m;have r:=AO m;clear q m;go_wp2;go_roundw
    case rel=>
     refine⟨k+1,by omega,by go_num,fun j x=>?_,p⟩;by_cases e:j=k
     ·subst e;exact r.out
     ·exact d.out j (by omega)
    case measure=>simp[intOf];omega
  ·obtain rfl:k=n:=(by omega);go_wp2;go_ret;exact⟨Or.inr ⟨d.out,rfl⟩,s⟩
theorem zAC(v:Value)(n:Nat)(f:Nat->ByteArray)(w:World)(h:Du w v n f) :
 Calls Tryz.prog 122 #[v,.func (.func 124) #[] #[]] w fun e w'=>AL (∃i,i<n/\¬Bp (f i)) e/\Below w.heap.size w w':=by
 have k:=AO h;obtain⟨o,a,c,rfl,hs,-⟩:=h;go_enter Tryz.func122,Tryz.ntmps122;go_wp2_with fail;refine(zBk _ n f w k.out).mono ?_;rintro e p ⟨l,b⟩;rcases l with⟨i,hi,j,rfl⟩ | ⟨d,rfl⟩
 ·have g:=AO (show ∃i,i<n/\¬Bp (f i)from⟨i,hi,j⟩);have m:(0:Int)<=(i:Int):=(by omega);clear j;go_wp2;go_ret;exact⟨AL.yes g.out,b⟩
 ·have g:=AO d;clear d;go_wp2;go_ret;exact⟨AL.no fun ⟨i,hi,hq⟩=>g.out i hi hq,b⟩
open Go.Maps
open Go.ChangeMaps Go.MapKept
open Go.WideElems (Fit rd rg pl rd_val elemAt findIdx_arr findIdx_born modify_last set_self)
open Go.WideMaps (KeyLaw)
theorem zD0(w:World)(b:Nat)(o o':Obj):setBlock (setBlock w b o) b o'=setBlock w b o':=by simp[setBlock]
variable{b:Nat}
theorem zCr{o:Obj}(h:w.heap[b]?=some o):setBlock w b o=w:=by
 have e:w.heap.setIfInBounds b o=w.heap:=by
  apply Array.ext_getElem?;intro i;by_cases hi:i=b
  ·subst hi;rw[Array.getElem?_setIfInBounds_self_of_lt (Array.getElem?_eq_some_iff.1 h).1];exact h.symm
  ·rw[Array.getElem?_setIfInBounds_ne (fun e=>hi e.symm)]
 unfold setBlock;rw[e]
theorem zDA{es a:Array MapEntry}{c':Nat}(d:w.heap[b]?=some (.map es c)):w.grownBy (setBlock w b (.map a c')) (some b):=
 ⟨rfl,rfl,rfl,by simp[setBlock],fun i _ hi=>heap_setBlock_other d _ (fun e=>hi (by rw[e]))⟩
variable{P:Program}{D:DataW Value}
theorem Xi{k e t:TypeId}(h:w.ownsMap P k D2 b n D)(l:KeyLaw P k)(i:P.underlying t=some (.map k e))(hn:n<maxLen){z:Value}(I:∀u:World,(zeroValue e).run P u = .ok z u){key val:Value} {kl:Lit} (a:keyOf P k key=some kl) (S:D.atKey kl (.held z) = .held v) :
 ∃(v0:Value) (Q:Nat) (J w2:World),(Instr.mapEntry t (.map (some b)) key).run P w = .ok (.tuple #[v0,goInt Q]) J/\(Instr.lookup t (.map (some b)) key false).run P J = .ok v J/\(Instr.entryStore t (.map (some b)) (goInt Q) val).run P J = .ok () w2/\w2.ownsMap P k D2 b (n+1) (D.put kl (.held val))/\w.grownBy J (some b)/\w.grownBy w2 (some b):=by
 have K:=Keyed.of_law l;obtain⟨w',E,q,U⟩:=h.update K i hn a (Ga val);obtain⟨wz,G,r,pA⟩:=h.update K i hn a (Ga z);have o:=h.lookup K i (I w) (Ga z) a;obtain⟨m,c,f,F,hs,hD⟩:=h;obtain⟨v0,Q,d,c1,g,sA,aA⟩:=WideElems.entry_then_store l i I f F a;have T:(setBlock w b (.map d c1)).heap[b]?=some (.map d c1):=heap_setBlock_same f _;obtain⟨R,c2,Z,bA⟩:=aA _ val T;have e2:setBlock (setBlock w b (.map d c1)) b (.map R c2)=w':=by
  rw[zD0];rw[bA]at E;injection E
 refine⟨v0,Q,setBlock w b (.map d c1),w',g,?_,by rw[<-e2];exact Z,q,zDA f,U⟩;obtain⟨v',ps,B,cA⟩:=o;have ev:v'=v:=by
  have L:=M1 cA;rw[S]at L;injection L with L;exact L.symm
 subst ev
 suffices hh:∀x:World,x=setBlock w b (.map d c1)->(Instr.lookup t (.map (some b)) key false).run P x = .ok v' x from hh _ rfl
 intro x H;rcases l.find w a m.toList F.keys with⟨N,A⟩ | ⟨j,e0,N,A,h3⟩
 ·
  have eA:setBlock w b (.map d c1)=wz:=by
   have p:(Instr.mapEntry t (.map (some b)) key).run P w = .ok (.tuple #[z,goInt c]) (setBlock w b (.map (m.push ⟨key,z,c⟩) (c+1))):=by
    simp[Instr.mapEntry,run_underlying i,MapKept.run_getObj_map f,l.check w false a,N,I,MapKept.run_setObj_map _ f,Result.andThen,setBlock]
   have O:(Instr.mapUpdate t (.map (some b)) key z).run P w = .ok () (setBlock w b (.map (m.push ⟨key,z,c⟩) (c+1))):=by
    simp[Instr.mapUpdate,run_underlying i,MapKept.run_getObj_map f,l.check w false a,N,MapKept.run_setObj_map _ f,Result.andThen,setBlock]
   rw[g]at p;rw[G]at O;injection p with _ p;injection O with _ O;rw[p,O]
  obtain rfl:x=wz:=H.trans eA;obtain⟨v2,tA,X,dA⟩:=r.lookup K i (I _) (Ga z) a;have M:=M1 dA;rw[atKey_put_same (show IsMap D from⟨_,hD⟩) (K.key a)]at M;replace M:=DataW.held.inj M;have e4:v'=z:=by
   have W:(Instr.lookup t (.map (some b)) key false).run P w = .ok z w:=by
    rcases Maps.fit_look false K i (I w) f F a with⟨C,_,_⟩ | ⟨e0,y,Y,V,_,_,_,_⟩
    ·exact C
    ·exact absurd V (A e0 Y)
   rw[W]at B;injection B with B _;exact B.symm
  subst M;subst e4;exact X
 ·
  have hj:m[j]?=some e0:=(by simpa using A);have s:m.modify j (fun e=>{e with key:=key})=m:=by
   apply Array.ext';rw[Array.toList_modify,modify_eq_set _ _ _ _ A];have:({e0 with key:=key}:MapEntry)=e0:=(by rw[<-h3]);rw[this];exact set_self _ _ _ A
  have p:(Instr.mapEntry t (.map (some b)) key).run P w = .ok (.tuple #[e0.val,goInt e0.born]) (setBlock w b (.map m c)):=by
   simp[Instr.mapEntry,run_underlying i,MapKept.run_getObj_map f,l.check w false a,N,hj,h3,l.stays w a,s,MapKept.run_setObj_map _ f,Result.andThen,setBlock]
  rw[g,zCr f]at p;obtain rfl:x=w:=H.trans (Result.ok.inj p).2;exact B
theorem Xm (W : A4) (m : Dd) : (Cd W m).length <= 73 := by
 unfold Cd E5 treeM;exact Nat.le_trans (List.length_filter_le _ _) (DX _ _ _)
theorem Ve (W : A4) : ∀ k, (B3 W k).length <= 73 * k
 | 0 => by simp[B3]
 | k + 1 => by
   have a := Ve W k;have b := Xm W (A8 W k);unfold B3;rw[List.length_append];omega
theorem Vf (W : A4) {k : Nat} : ∀ {n : Nat}, k <= n -> ∃ l, B3 W n = B3 W k ++ l
 | 0, h => ⟨[], by obtain rfl : k = 0 := by omega
                   simp⟩
 | n + 1, h => by
   by_cases e : k = n + 1
   · subst e;exact ⟨[], by simp⟩
   · obtain ⟨l, a⟩ := Vf W (k := k) (n := n) (by omega)
     exact ⟨l ++ Cd W (A8 W n), by rw[show B3 W (n + 1) = B3 W n ++ Cd W (A8 W n) from rfl, a, List.append_assoc]⟩
theorem zEp (W : A4){k j:Nat} (c : k < n) (a : j < (Cd W (A8 W k)).length) : (B3 W k).length + j < (B3 W n).length /\ (B3 W n).getD ((B3 W k).length + j) (0, 0) = (Cd W (A8 W k)).getD j (0, 0) := by
 obtain ⟨l, b⟩ := Vf W (k := k + 1) (n := n) (by omega);rw[b, show B3 W (k + 1) = B3 W k ++ Cd W (A8 W k) from rfl];constructor
 · simp only[List.length_append];omega
 · rw[List.getD_eq_getElem?_getD, List.getD_eq_getElem?_getD, List.append_assoc, List.getElem?_append_right (by omega), show (B3 W k).length + j - (B3 W k).length = j by omega, List.getElem?_append_left a]
def LG (x : Int × Int) : Value := .agg #[.int .i64 x.1, .int .i64 x.2]
/-- The keys of the homes, one behind the other. -/
structure EX (W : A4) (key : Nat -> Lit) : Prop where
 ok : H6 key
 at_ : ∀ i, i < (B3 W (memN W)).length -> keyOf Tryz.prog 38 (LG ((B3 W (memN W)).getD i (0, 0))) = some (key i)
variable{W:A4}{x:Int × Int}
theorem zCR (a : AY W.pool) (b : ∀ i, i < memN W -> Ay W.pool (A8 W i).rs (A8 W i).rb) (c : x ∈ B3 W (memN W)) : B5 W.pool x.1 x.2 := by
 obtain ⟨i, hi, h⟩ := MH.1 c;unfold Cd E5 treeM at h;exact (EE a (b i hi) (List.mem_filter.1 h).1).1
theorem zEj {l : List (Int × Int)} (h : i < l.length) : l.getD i (0, 0) ∈ l := by
 rw[List.getD_eq_getElem?_getD, List.getElem?_eq_getElem h, Option.getD_some];exact List.getElem_mem h
theorem zAE (b : AY W.pool) (j : ∀ i, i < memN W -> Ay W.pool (A8 W i).rs (A8 W i).rb) : ∃ key, EX W key := by
 have a : ∀ i, ∃ l, WideAt.IsKeyLit l /\ (i < (B3 W (memN W)).length -> keyOf Tryz.prog 38 (LG ((B3 W (memN W)).getD i (0, 0))) = some l) := fun i => by
  by_cases hi' : i < (B3 W (memN W)).length
  · have c := zCR b j (zEj hi')
    generalize (B3 W (memN W)).getD i (0, 0) = x at c ⊢;have e := (Er b c).1;have d := b.1;obtain ⟨n, o, p, g⟩ := c;rw[g]at e;obtain ⟨k, m⟩ := e;obtain ⟨l, f⟩ := zGA (x := x.1) (y := x.2) (WalkArith.wf_i64 (by omega)) (WalkArith.wf_i64 (by omega));exact ⟨l, SR.key f, fun _ => f⟩
  · exact ⟨.string [], trivial, fun h => absurd h hi'⟩
 exact ⟨fun i => (a i).choose, fun i => (a i).choose_spec.1, fun i => (a i).choose_spec.2⟩
theorem zDk{y:Int × Int} (h : LG x = LG y) : x = y := by
 unfold LG at h;simp only[Value.agg.injEq, Array.mk.injEq, List.cons.injEq, Value.int.injEq, true_and, and_true]at h;exact Prod.ext h.1 h.2
variable{key:Nat -> Lit}
theorem EX.same (h : EX W key){j:Nat} (hi : i < (B3 W (memN W)).length) (c : j < (B3 W (memN W)).length) : key i = key j ↔ (B3 W (memN W)).getD i (0, 0) = (B3 W (memN W)).getD j (0, 0) := by
 have a := h.at_ i hi;have b := h.at_ j c;constructor
 · intro e
   rw[e]at a;exact zDk (SR.inj a b)
 · intro e
   rw[e, b]at a;exact (Option.some.inj a).symm
theorem EX.dist (h : EX W key) : Gw (B3 W (memN W)).length key ↔ (B3 W (memN W)).Nodup := by
 rw[List.Nodup, List.pairwise_iff_getElem];have a : ∀ i (hi : i < (B3 W (memN W)).length), (B3 W (memN W)).getD i (0, 0) = (B3 W (memN W))[i] := fun i hi => by rw[List.getD_eq_getElem?_getD, List.getElem?_eq_getElem hi, Option.getD_some]
 constructor
 · intro b i j hi d c e
   refine b j d i c ((h.same hi d).2 ?_);rw[a i hi, a j d];exact e
 · intro b i hi k f e
   have := (h.same (by omega) hi).1 e;rw[a k (by omega), a i hi]at this;exact b k i (by omega) hi f this
/-- The map behind the first p homes. -/
def KA (key : Nat -> Lit) (p : Nat) : DataW Value := putD key (fun _ => .int .i64 1) p
variable{p:Nat}
theorem EX.new (hn : ∀ i, i < p -> key i ≠ key p) (h : EX W key) : (KA key p).atKey (key p) (.held (.int .i64 0)) = .held (.int .i64 0) := Qz h.ok _ hn _
theorem EX.old (hi : i < p) (d : key i = key p) (c : Gw p key) (h : EX W key) : (KA key p).atKey (key p) (.held (.int .i64 0)) = .held (.int .i64 1) := by
 rw[<- d];exact Pe h.ok _ _ p i hi (fun j a b e => c j b i a e.symm)
theorem EX.put (h : EX W key) (p : Nat) (v : Value) : ((KA key p).put (key p) (.held v)).atKey (key p) (.held (.int .i64 0)) = .held v := atKey_put_same (Kt h.ok _ p).isMap (h.ok p) _ _
theorem EX.not_nodup (hi : i < p) (b : p < (B3 W (memN W)).length) (a : key i = key p) (h : EX W key) : ¬ (B3 W (memN W)).Nodup := fun hn => h.dist.2 hn p b i hi a
theorem EX.size (h : EX W key) (a : Gw p key) : Maps.size (KA key p) = p := (R0 h.ok _ p).2.2 a
theorem zDL(A v1:Value)(lo hi:Nat)(p:A5)(w:World)(E:C6 w lo hi A v1 p) :
 Calls Tryz.prog 147 #[.agg #[A,v1]] w fun e w'=>e = .returned (.int .i64 (Mp p))/\Below w.heap.size w w':=by
 have B:Hid (C6 w lo hi A v1 p):=E;obtain⟨⟨N,a,c,rfl,X,K⟩,⟨O,D,c',rfl,P,L⟩⟩:=E;unfold maxLen at N O;clear K L;have v:=AC w (.cells #[.slice a p.n c,.slice D p.hn c'] 26);go_enter Tryz.func147,Tryz.ntmps147;go_wp2_with fail;refine(Mc _ _ lo hi p _ (B.out.A0 v)).mono ?_;rintro e H ⟨⟨t,rfl,f⟩,d⟩;have J:Hid (Ac H w.heap.size (.slice a p.n c) (.slice D p.hn c')):=(Ac.new w _ _ _).A0 d;have j:=A7 v d;clear v d;by_cases g:AY p
 ·obtain rfl:t=true:=f.2 g;have r:Hid (AY p):=g;have z:(p.n:Int)<=200:=(by have:=g.1;omega);clear f g;obtain⟨⟨S,T⟩,⟨U,V⟩⟩:=J.out;have u:Hid (Mp p=(roomN p.s p.n:Int)):=if_pos r.out;have I:Hid (Below w.heap.size w H):=j;go_wp2;clear S T U V j
  go_loopw [3,12] (fun m i wr=>∃k:Nat,k<=p.n/\i = .int .i64 k/\m = .int .i64 (roomN p.s k:Int)/\Below w.heap.size w wr) (fun _ i _=>p.n - (intOf i).toNat)
  case atStart=>exact⟨0,Nat.zero_le _,rfl,rfl,I.out⟩
  case round=>
   obtain⟨k,W,rfl,rfl,x⟩:=hrel;have M:=O1 p.s k;by_cases y:k<p.n
   ·have F:(k:Int)<(p.n:Int):=(by omega);obtain⟨b,off,G,kc,rfl,hs⟩:=(B.out.1.A0 x).cells y;have C:Hid (Jo wr b (off+k*3) lo hi G kc (p.s k)):=hs;obtain⟨Q,q1,R,_⟩:=hs;go_wp2_with fail;have h:=AC wr (.cells #[.int .i64 (p.s k).birth,.slice G (p.s k).kn kc,.string (p.s k).data] 86);refine(L3 _ _ _ lo hi (p.s k) _ (C.out.slot.A0 h)).mono ?_;rintro e Y ⟨⟨t,rfl,f⟩,d⟩;have o:=A7 x (A7 h d);clear d Q q1 R C h;by_cases l:Ag (p.s k)
    ·obtain rfl:t=true:=f.2 l;have q:Hid (Ag (p.s k)):=l;clear f l;go_wp2;go_roundw
     case rel=>exact⟨k+1,by omega,by go_num,congrArg (Value.int .i64) (by rw[Jl q.out];omega),o⟩
     case measure=>simp[intOf];omega
    ·obtain rfl:t=false:=BR f l;have q:Hid (¬Ag (p.s k)):=l;clear f l;go_wp2;go_roundw
     case rel=>exact⟨k+1,by omega,by go_num,congrArg (Value.int .i64) (by rw[J2 q.out]),o⟩
     case measure=>simp[intOf];omega
   ·obtain rfl:k=p.n:=(by omega);go_wp2;go_ret;exact⟨by rw[u.out];rfl,x⟩
 ·obtain rfl:t=false:=BR f g;have r:Hid (¬AY p):=g;clear f g;go_wp2;go_ret;refine⟨?_,j⟩;have e:Mp p=0:=if_neg r.out;rw[e];rfl
variable{w1:World}{M:Nat}
theorem Jq{k:TypeId}{g o:Nat}(c:w.grownBy w1 (some M))(d:w.ownsMap P k D2 M n D)(h:w.cell? ⟨g,o,none⟩=some v):w1.cell? ⟨g,o,none⟩=some v:=by
 refine(c.cell_far ⟨g,o,none⟩ (AZ h) ?_).trans h;intro e;simp only[Option.some.injEq]at e;subst e;obtain⟨f,a,b,-⟩:=d;simp[World.cell?,b]at h
theorem L2{w2:World}{row:Option Nat}(h:w.grownBy w1 row)(k:w1.grownBy w2 row):w.grownBy w2 row:=
 ⟨k.os.trans h.os,k.tape.trans h.tape,k.output.trans h.output,Nat.le_trans h.size k.size,fun i hi a=>(k.block i (Nat.lt_of_lt_of_le hi h.size) a).trans (h.block i hi a)⟩
theorem JY.side{kt:TypeId}{lo hi:Nat}{vd:Nat->Value}(h:JY w lo hi v W vd)(a:w.grownBy w1 (some M))(b:w.ownsMap P kt D2 M n D)(i:Nat)(hi':i<memN W) :
 ∃g c,v = .slice (some ⟨g,0,none⟩) (memN W) c/\w1.cell? ⟨g,i*5,none⟩=some (.int .i64 (A8 W i).A6)/\w1.cell? ⟨g,i*5+1,none⟩=some (.int .i64 (A8 W i).time)/\w1.cell? ⟨g,i*5+2,none⟩=some (.int .i64 (A8 W i).rs)/\w1.cell? ⟨g,i*5+3,none⟩=some (.int .i64 (A8 W i).rb)/\w1.cell? ⟨g,i*5+4,none⟩=some (vd i):=by
 obtain⟨g,c,e,d,f,j,k,l⟩:=h.cells i hi';exact⟨g,c,e,Jq a b d,Jq a b f,Jq a b j,Jq a b k,Jq a b l⟩
theorem As.side{a0 a1 a2 a3 a4 a5:Value}(h:As w b a0 a1 a2 a3 a4 a5)(d:w.grownBy w1 (some M))(c:b≠M):As w1 b a0 a1 a2 a3 a4 a5:=by
 obtain⟨f,g,i,j,k,l⟩:=h;have a:∀{o:Nat} {v:Value},AN w b o v->AN w1 b o v:=fun a=>⟨(d.cell_far _ (AZ a.1) (fun e=>c (Option.some.inj e))).trans a.1,(d.frozen_far _ (AZ a.1) (fun e=>c (Option.some.inj e))).trans a.2⟩
 exact⟨a f,a g,a i,a j,a k,a l⟩
theorem zAx(v:Value)(s:Ae)(w:World):(Instr.field 83 (DE v s) 4).run Tryz.prog w = .ok (.int .i64 s.time) w:=by kernel_rfl
theorem qu:Go.WideMaps.KeyLaw Tryz.prog 38:=deep_law_laid SE (m:=5) (by decide) (SF (by kernel_rfl)) (by kernel_rfl) (by kernel_rfl)
theorem LZ:Tryz.prog.underlying 189=some (.map 38 2):=by kernel_rfl
theorem SK(w:World):(zeroValue 2).run Tryz.prog w = .ok (.int .i64 0) w:=by kernel_rfl
theorem wrap_small{n:Int}(c:-9223372036854775808<=n)(d:n<9223372036854775808):IntKind.i64.wrap n=n:=by
 unfold IntKind.wrap;simp only[IntKind.signed,IntKind.bits,Bool.true_and];split
 ·rename_i a
  have b:=of_decide_eq_true a;omega
 ·rename_i a
  have b:=of_decide_eq_false (Bool.eq_false_iff.2 a);omega
theorem zB2{N r h:Nat}(d:r<=n)(hn:n<=200)(c:h<=9223372036854775807):((N:Int) == IntKind.i64.wrap (IntKind.i64.wrap ((n:Int) - (r:Int)) - (h:Int)))=true↔N+r+h=n:=by
 have a:IntKind.i64.wrap ((n:Int) - (r:Int))=(n:Int) - (r:Int):=wrap_small (by omega) (by omega);rw[a];have b:IntKind.i64.wrap ((n:Int) - (r:Int) - (h:Int))=(n:Int) - (r:Int) - (h:Int):=wrap_small (by omega) (by omega);rw[b,beq_iff_eq];omega
theorem Nq{ky:Value}{kl:Lit}(h:w.ownsMap Tryz.prog 38 D2 b n D)(a:keyOf Tryz.prog 38 ky=some kl)(d:D.atKey kl (.held (.int .i64 0)) = .held v):(Instr.lookup 189 (.map (some b)) ky false).run Tryz.prog w = .ok v w:=by
 obtain⟨f,ps,c,hv⟩:=h.lookup SR LZ (SK w) (Ga _) a;have e:=M1 hv;rw[d]at e;obtain rfl:=DataW.held.inj e;exact c
theorem zDB(R v1 T U:Value)(lo hi:Nat)(W:A4)(A:Nat)(w:World)(h:CE w lo hi R v1 T U W)(hs:W.sn<=8)(hp:W.pn<=20)(hA:G6 w lo hi W A)(hD:I2 W)(vC:G7 W)(hR:AY W.pool)(hT:Pm W)(gB:∀i,i<memN W->Ay W.pool (A8 W i).rs (A8 W i).rb) :
 Calls Tryz.prog 80 #[Cn R v1 T U W,KP A] w fun e w'=>AL (Lp W) e/\Below w.heap.size w w':=by
 obtain⟨key,hK⟩:=zAE hR gB;have X:=A3 hK;have Hp:=A3 h;have HA:=A3 hA;have HD:=A3 hD;have aE:=A3 vC;have HR:=A3 hR;have nD:=A3 hT;have oD:=A3 gB;clear h hA hD vC hR hT gB hK;have ha:=AC w (.cells #[R,v1,.int .i64 W.time,.int .i64 W.next,T,U] 30);have HB:=A3 (As.new w R v1 (.int .i64 W.time) (.int .i64 W.next) T U 30);have sB:(w.alloc (.cells #[R,v1,.int .i64 W.time,.int .i64 W.next,T,U] 30)).heap.size=w.heap.size+1:=World.size_alloc _ _;have hm:=World.ownsMap_made (w.alloc (.cells #[R,v1,.int .i64 W.time,.int .i64 W.next,T,U] 30)) Tryz.prog 38 D2;rw[sB]at hm;have HM:=A3 hm;have Z:=A3 (HB.out.A0 (AC _ (.map #[] 0)));have aA:=A3 (A7 ha (AC _ (.map #[] 0)));have sG:=@run_makeMap Tryz.prog;obtain⟨x0,x2,x4,x6,x8,sE⟩:=Z.out.c;clear hm;go_enter Tryz.func80,Tryz.ntmps80;go_wp2_with fail;go_step3;go_wp2_with fail;go_step3;go_wp2_with fail;clear x0 x2 x4 x6 x8 sE ha HB;have fB:=A3 (show((w.alloc (.cells #[R,v1,.int .i64 W.time,.int .i64 W.next,T,U] 30)).alloc (.map #[] 0)).heap.size=w.heap.size+2 by rw[World.size_alloc,sB]);clear sB;generalize (w.alloc (.cells #[R,v1,.int .i64 W.time,.int .i64 W.next,T,U] 30)).alloc (.map #[] 0)=W0 at HM Z aA fB ⊢;refine(Rr R v1 T U lo hi W W0 (Hp.out.A0 aA.out) hs hp).mono ?_;rintro e w1 ⟨vm,vd,rfl,hm,J⟩;have aC:=A3 hm;have bC:=A3 (Z.out.A0 J);have vB:=A3 (HM.out.kept (EC J none) (by simp));have dE:=A7 aA.out J;have hz:w.heap.size+2<=w1.heap.size:=by have h1:=J.size;have h2:=fB.out;omega
 obtain⟨am,cm,rfl,oG⟩:=id hm.form;have tG:memN W<=28:=by unfold memN;omega
 clear J hm Z aA HM fB;go_wp2
 go_loopw [6,15] (fun s i wr=>∃k:Nat,k<=memN W/\s = .bool true/\i = .int .i64 k/\wr.ownsMap Tryz.prog 38 D2 (w.heap.size+1) (B3 W k).length (KA key (B3 W k).length)/\Gw (B3 W k).length key/\w1.grownBy wr (some (w.heap.size+1))/\Below w.heap.size w wr) (fun _ i _=>memN W - (intOf i).toNat)
 case atStart=>exact⟨0,Nat.zero_le _,rfl,rfl,vB.out,fun i hi=>absurd hi (Nat.not_lt_zero _),World.grownBy.refl _ _,dE⟩
 case round=>
  obtain⟨k,hk,rfl,rfl,z,L,M,hb⟩:=hrel;have b:=A3 z;have B:=A3 L;have d:=A3 M;clear z L M;by_cases O:k<memN W;rotate_left
  ·obtain rfl:k=memN W:=(by omega);obtain⟨⟨m0,a0,c0,rfl,rH,-⟩,⟨m1,a1,c1,rfl,sH,-⟩⟩:=id Hp.out.pool;have rB:=X.out.size B.out;have pC:=(b.out.kept (EC ((Below.refl _ _).drew) none) (by simp)).len LZ 3;rw[rB]at pC;have vD:=A3 rB;clear rB;have P:=O1 W.pool.s W.pool.n;have oA:=HR.out.1;unfold maxLen at m0 m1;have l:=A3 (bC.out.side d.out (by omega));obtain⟨x0,x1,x2,x3,x4,x5⟩:=l.out.c;have lD:=A3 (X.out.dist.1 B.out);have mE:Mp W.pool=(roomN W.pool.s W.pool.n:Int):=if_pos HR.out;generalize hN:(B3 W (memN W)).length=N at *;have HN:=A3 hN;clear hN;go_wp2_with fail;go_region_held3 (fun w'=>w'.cell? ⟨w.heap.size,0,none⟩=some (.slice a0 W.pool.n c0)/\w'.cell? ⟨w.heap.size,1,none⟩=some (.slice a1 W.pool.hn c1)/\(Builtin.len_ #[189] 3 #[.map (some (w.heap.size+1))]).run Tryz.prog w' = .ok (.int .i64 (N:Nat)) w') (go_keep)
    (first
     | (go_at_call 147;refine(zDL _ _ lo hi W.pool _ ((Hp.out.A0 hb).pool.A0 (Below.refl _ _).drew)).mono ?_;rintro e w5 ⟨rfl,eA⟩;have u:=Cr eA;obtain⟨⟨k0,_⟩,⟨k1,_⟩,_⟩:=l.out.A0 u;have oC:=(b.out.kept (EC u none) (by simp)).len LZ 3;rw[vD.out]at oC))
   have rA:=zB2 (N:=N) P oA (by omega:W.pool.hn<=9223372036854775807);have iC:=A3 rA;have gE:=A7 hb u;clear rA pC oC mE P oA;go_wp2
   try rw[Exit.noGoto_ret]
   go_ret;refine⟨⟨_,rfl,?_⟩,gE⟩;rw[iC.out];unfold Lp;rw[HN.out];exact⟨fun Y=>⟨lD.out,Y⟩,fun Y=>Y.2⟩
  have iF:(k:Int)<(memN W:Int):=(by omega);obtain⟨g,cg,e,q0,q1,q2,q3,q4⟩:=aC.out.side d.out vB.out k O;obtain⟨-,ad,cd,tC,-,-⟩:=id (aC.out.dead k O);rw[tC]at q4;cases e;have m:=AC wr (.cells #[.int .i64 (A8 W k).A6,.int .i64 (A8 W k).time,.int .i64 (A8 W k).rs,.int .i64 (A8 W k).rb,.slice ad (A8 W k).dn cd] 186);have H:=A3 (Fz.new wr (.int .i64 (A8 W k).A6) (.int .i64 (A8 W k).time) (.int .i64 (A8 W k).rs) (.int .i64 (A8 W k).rb) (.slice ad (A8 W k).dn cd) 186);have l:=A3 ((bC.out.side d.out (by omega)).A0 m);have dA:=A7 hb m;have C:=A3 (b.out.kept (EC m none) (by simp));have G:=A3 (L2 d.out (EC m (some (w.heap.size+1))));have sA:=A3 (HA.out.A0 dA);have bB:=A3 (Hp.out.A0 dA);have bE:=A3 (aE.out k O);have vA:=A3 (oD.out k O);have cB:=A3 (nD.out (A8 W k).A6);have eB:=A3 (show Cd W (A8 W k)=E5 (AF W.pool (A8 W k).rs (A8 W k).rb) (AI W (A8 W k).A6).time from rfl);have mA:=A3 (show(B3 W (k+1)).length=(B3 W k).length+(Cd W (A8 W k)).length from List.length_append);have pD:=A3 (fun (j:Nat) (hj:j<(Cd W (A8 W k)).length)=>zEp W (k:=k) (n:=memN W) O hj);have cE:=A3 (Xm W (A8 W k));have sD:=A3 (Ve W k);clear tC m d b;generalize A8 W k=mk at *;go_wp2_with fail;clear q0 q1 q2 q3 q4;have I:=A3 (show w.heap.size+2<=(wr.alloc (.cells #[.int .i64 mk.A6,.int .i64 mk.time,.int .i64 mk.rs,.int .i64 mk.rb,.slice ad mk.dn cd] 186)).heap.size from Nat.le_trans hz G.out.size);generalize wr.alloc (.cells #[.int .i64 mk.A6,.int .i64 mk.time,.int .i64 mk.rs,.int .i64 mk.rb,.slice ad mk.dn cd] 186)=W2 at H l sA bB dA C G I ⊢;generalize wr.heap.size=V at H ⊢;obtain⟨⟨y0,-⟩,⟨y1,-⟩,⟨y2,-⟩,⟨y3,-⟩,⟨y4,-⟩⟩:=H.out;obtain⟨x0,x1,x2,x3,x4,x5⟩:=l.out.c;have nE:=DX W.pool mk.rs mk.rb;have tA:=A3 (show Cc (AF W.pool mk.rs mk.rb).length (AK (AF W.pool mk.rs mk.rb)) (AM (AF W.pool mk.rs mk.rb))from L7 HR.out (fun x Y=>(EE HR.out vA.out Y).1) (L8 HR.out vA.out) (by omega));have iE:=YR;have jE:=zAx;generalize jC:AI W mk.A6=S at cB eB ⊢;have jD:=A3 jC;clear jC;generalize kC:AF W.pool mk.rs mk.rb=tree at tA nE eB ⊢;have mD:=A3 kC;clear kC;go_region_held3 (fun w'=>w'.cell? ⟨w.heap.size,0,none⟩=some R/\w'.cell? ⟨w.heap.size,1,none⟩=some v1/\w'.cell? ⟨w.heap.size,2,none⟩=some (.int .i64 W.time)/\w'.cell? ⟨w.heap.size,3,none⟩=some (.int .i64 W.next)/\w'.cell? ⟨w.heap.size,4,none⟩=some T/\w'.cell? ⟨w.heap.size,5,none⟩=some U/\w'.cell? ⟨V,0,none⟩=some (.int .i64 mk.A6)/\w'.cell? ⟨V,2,none⟩=some (.int .i64 mk.rs)/\w'.cell? ⟨V,3,none⟩=some (.int .i64 mk.rb)) (go_keep)
   (first
    | (go_at_call 146;refine(L1 R v1 T U lo hi W mk.rs mk.rb _ ?_ HR.out vA.out).mono ?_;(exact bB.out.A0 (Below.refl _ _).drew);rintro e w5 ⟨vt,rfl,iA,eA⟩;rw[mD.out]at iA;obtain⟨fG,gG,rfl,-⟩:=Bh iA;have u:=Cr eA;obtain⟨⟨k0,_⟩,⟨k1,_⟩,⟨k2,_⟩,⟨k3,_⟩,⟨k4,_⟩,⟨k5,_⟩⟩:=l.out.A0 u;obtain⟨⟨l0,_⟩,_,⟨l2,_⟩,⟨l3,_⟩,_⟩:=H.out.A0 u)
    | (go_at_call 142;refine(Jp lo hi W A mk.A6 _ (sA.out.A0 u) HD.out bE.out hp).mono ?_;rintro e w6 ⟨aa,ca,rfl,lE,iB⟩;rw[jD.out];have cA:=A7 u iB;obtain⟨⟨f0,_⟩,⟨f1,_⟩,⟨f2,_⟩,⟨f3,_⟩,⟨f4,_⟩,⟨f5,_⟩⟩:=l.out.A0 cA;obtain⟨⟨g0,_⟩,_,⟨g2,_⟩,⟨g3,_⟩,_⟩:=H.out.A0 cA)
    | (go_at_call 112;refine(Rq _ tree.length 0 _ (AK tree) (AM tree) S.time _ ((iA.A0 iB).atW (by omega))).mono ?_;rintro e w7 ⟨vy,vz,ly,lz,rfl,hY,-,hy,-,-,lC⟩;rw[(hY.1 ⟨tA.out,cB.out⟩).trans (QG tree S.time)]at hy;rw[<-eB.out]at hy;obtain⟨ay,cy,rfl,pG⟩:=Bh hy;have y:=A7 cA lC;obtain⟨⟨m0,_⟩,⟨m1,_⟩,⟨m2,_⟩,⟨m3,_⟩,⟨m4,_⟩,⟨m5,_⟩⟩:=l.out.A0 y;obtain⟨⟨n0,_⟩,_,⟨n2,_⟩,⟨n3,_⟩,_⟩:=H.out.A0 y))
  have HY:=A3 hy;have D:=A3 (C.out.kept (EC y none) (by simp));have cC:=A3 (L2 G.out (EC y (some (w.heap.size+1))));have bG:=A3 (l.out.A0 y);have E:=A7 dA y;have dH:w.heap.size+2<=w7.heap.size:=Nat.le_trans I.out y.size;have bH:=cE.out;have rG:=sD.out;clear hy y lC cA iB u eA iA lE hY l H sA bB C G I tA cB iE jE x0 x1 x2 x3 x4 x5 y0 y1 y2 y3 y4 k0 k1 k2 k3 k4 k5 l0 l2 l3 f0 f1 f2 f3 f4 f5 g0 g2 g3 m0 m1 m2 m3 m4 m5 n0 n2 n3;generalize aH:Cd W mk=yl at *;go_wp2_with fail
  go_loopw [6,31] (fun s i wr=>∃j:Nat,j<=yl.length/\s = .bool true/\i = .int .i64 j/\wr.ownsMap Tryz.prog 38 D2 (w.heap.size+1) ((B3 W k).length+j) (KA key ((B3 W k).length+j))/\Gw ((B3 W k).length+j) key/\w7.grownBy wr (some (w.heap.size+1))/\Below w.heap.size w wr) (fun _ i _=>yl.length - (intOf i).toNat)
  case atStart=>exact⟨0,Nat.zero_le _,rfl,rfl,D.out,B.out,World.grownBy.refl _ _,E⟩
  case round=>
   clear E;obtain⟨j,hj,rfl,rfl,z,mC,M,E⟩:=hrel;have b:=A3 z;have bA:=A3 mC;have d:=A3 M;clear z mC M;by_cases lB:j<yl.length;rotate_left
   ·obtain rfl:j=yl.length:=(by omega);go_wp2;go_roundw
    case rel=>
     refine⟨k+1,by omega,rfl,by go_num,?_,?_,L2 cC.out d.out,E⟩
     ·rw[mA.out];exact b.out
     ·rw[mA.out];exact bA.out
    case measure=>simp[intOf];omega
   have gF:(j:Int)<(yl.length:Int):=(by omega);obtain⟨-,a7,c7,e7,-,K⟩:=id (HY.out.atW (by omega));cases e7;obtain⟨b7,o7,rfl,-,-,K⟩:=K (by omega);have q0:=Jq d.out D.out (K j lB).1;have q1:=Jq d.out D.out (K j lB).2;clear K;obtain⟨pB,rC⟩:=pD.out j lB;have pA:keyOf Tryz.prog 38 (.agg #[.int .i64 (AK yl j),.int .i64 (AM yl j)])=some (key ((B3 W k).length+j)):=by
    have:=X.out.at_ _ pB;rw[rC]at this;exact this
   have tD:=A3 pB;have r:=A3 pA;clear rC pB pA;have m:=AC wr (.cells #[.int .i64 (AK yl j),.int .i64 (AM yl j)] 38);have H:=A3 (Ac.new wr (.int .i64 (AK yl j)) (.int .i64 (AM yl j)) 38);have f:=A3 ((b.out.kept (EC m none) (by simp)).kept (EC ((Below.refl _ _).drew) none) (by simp));have lA:=A3 (L2 d.out (EC m (some (w.heap.size+1))));have F:=A7 E m;have v:=A3 (show w.heap.size+1<wr.heap.size by have:=d.out.size;omega);clear m d b;have vG:(B3 W k).length+j<=3000:=(by omega);generalize sC:(B3 W k).length+j=p at *;have fC:=A3 sC;clear sC;generalize AK yl j=xs at *;generalize AM yl j=xb at *;go_wp2_with fail;clear q0 q1;generalize wr.alloc (.cells #[.int .i64 xs,.int .i64 xb] 38)=W3 at H f lA F ⊢;generalize wr.heap.size=V at H v ⊢;by_cases t:∀i,i<p->key i≠key p
   ·have mB:=Nq f.out r.out (X.out.new t);obtain⟨ev,st,wa,wb,he,nB,Q,a,kB,o⟩:=Xi f.out qu LZ (by unfold maxLen;omega) SK r.out (X.out.new t) (val:=.int .i64 1);obtain⟨⟨y0,-⟩,⟨y1,-⟩⟩:=H.out.A0 ((Below.refl _ _).drew);have z0:=(o.cell_far _ (AZ y0) (fun e=>by have h1:=Option.some.inj e;have h2:=v.out;simp only at h1;omega)).trans y0;have z1:=(o.cell_far _ (AZ y1) (fun e=>by have h1:=Option.some.inj e;have h2:=v.out;simp only at h1;omega)).trans y1;have kE:=Nq a r.out (X.out.put p _);have aB:=A3 a;have rD:=A3 (L2 (L2 lA.out (EC ((Below.refl _ _).drew) (some (w.heap.size+1)))) o);have jB:=F.drew.grown o (Nat.le_trans F.size (Nat.le_refl _)) (fun q e=>by cases e;omega);have dC:=A3 t;clear a kB o t F E;unfold goInt at he Q;go_region;clear mB nB he Q y0 y1;go_wp2;go_roundw
    case rel=>exact⟨j+1,by omega,rfl,by go_num,by rw[show(B3 W k).length+(j+1)=p+1 by have:=fC.out;omega];exact aB.out,by rw[show(B3 W k).length+(j+1)=p+1 by have:=fC.out;omega];exact RL.2 ⟨bA.out,dC.out⟩,rD.out,jB⟩
    case measure=>simp[intOf];omega
   ·obtain⟨i0,gA,fA⟩:∃i,i<p/\key i=key p:=by
     by_cases Y:∃i,i<p/\key i=key p
     ·exact Y
     ·exact absurd (fun i hi e=>Y ⟨i,hi,e⟩) t
    have eC:=A3 (X.out.not_nodup gA tD.out fA);have mB:=Nq f.out r.out (X.out.old gA fA bA.out);obtain⟨ev,st,wa,wb,he,nB,Q,a,kB,o⟩:=Xi f.out qu LZ (by unfold maxLen;omega) SK r.out (X.out.old gA fA bA.out) (val:=.int .i64 2);obtain⟨⟨y0,-⟩,⟨y1,-⟩⟩:=H.out.A0 ((Below.refl _ _).drew);have z0:=(o.cell_far _ (AZ y0) (fun e=>by have h1:=Option.some.inj e;have h2:=v.out;simp only at h1;omega)).trans y0;have z1:=(o.cell_far _ (AZ y1) (fun e=>by have h1:=Option.some.inj e;have h2:=v.out;simp only at h1;omega)).trans y1;have kE:=Nq a r.out (X.out.put p _);have jB:=F.drew.grown o (Nat.le_trans F.size (Nat.le_refl _)) (fun q e=>by cases e;omega);clear a kB o t F E gA fA;unfold goInt at he Q;go_region;clear mB nB he Q y0 y1;go_wp2_with fail;go_region;go_wp2;rw[Exit.noGoto_ret];go_ret;exact⟨AL.no fun Y=>eC.out Y.1,jB.drew⟩
theorem Zc(p v1 q r:Value)(lo hi:Nat)(W:A4)(w:World)(h:CE w lo hi p v1 q r W)(P:G7 W) :
 Calls Tryz.prog 30 #[Cn p v1 q r W] w fun e w'=>AL (D3 W) e/\Below w.heap.size w w':=by
 have t:=A3 h;have u:=A3 P;clear h P;have M:=AC w (.cells #[p,v1,.int .i64 W.time,.int .i64 W.next,q,r] 30);have S:=A3 (As.new w p v1 (.int .i64 W.time) (.int .i64 W.next) q r 30);obtain⟨j,k,l,m,n,o⟩:=S.out.c;go_enter Tryz.func30,Tryz.ntmps30;go_wp2_with fail;generalize w.alloc (.cells #[p,v1,.int .i64 W.time,.int .i64 W.next,q,r] 30)=W0 at M S j k l m n o ⊢;refine(ZY W.time W0).mono ?_;rintro e w1 ⟨⟨f,rfl,b⟩,rfl⟩;have a:=A3 b;clear b;cases f
 ·have g:=A3 (show ¬D3 W from fun i=>absurd (a.out.2 i.Ap.time) (by simp));clear a;go_wp2;go_ret;exact⟨AL.no g.out,M⟩
 have H1:=A3 (a.out.1 rfl);clear a;go_wp2_with fail;refine(ZY W.next _).mono ?_;rintro e w1 ⟨⟨f,rfl,b⟩,rfl⟩;have a:=A3 b;clear b;cases f
 ·have g:=A3 (show ¬D3 W from fun i=>absurd (a.out.2 i.Ap.next) (by simp));clear a;go_wp2;go_ret;exact⟨AL.no g.out,M⟩
 have H2:=A3 (a.out.1 rfl);clear a;go_wp2_with fail;refine(zCt q W.sn lo hi W.A1 _ (t.out.A0 M).A1).mono ?_;rintro e w2 ⟨⟨f,rfl,b⟩,d⟩;have a:=A3 b;have v:=A7 M d;have G:=A3 (S.out.A0 d);clear b d j k l m n o;obtain⟨j,k,l,m,n,o⟩:=G.out.c;cases f
 ·have g:=A3 (show ¬D3 W from fun i=>absurd (a.out.2 i.Ap.A1) (by simp));clear a;go_wp2;go_ret;exact⟨AL.no g.out,v⟩
 have V:=A3 (a.out.1 rfl);clear a;have hs:=V.out.1;go_wp2_with fail;refine(zD2 p v1 q r lo hi W _ (t.out.A0 v) hs).mono ?_;rintro e w3 ⟨⟨f,rfl,b⟩,d⟩;have a:=A3 b;have x:=A7 v d;have H:=A3 (G.out.A0 d);clear b d j k l m n o;obtain⟨j,k,l,m,n,o⟩:=H.out.c;cases f
 ·have g:=A3 (show ¬D3 W from fun i=>absurd (a.out.2 i.Ap.A2) (by simp));clear a;go_wp2;go_ret;exact⟨AL.no g.out,x⟩
 have X:=A3 (a.out.1 rfl);clear a;have O:=X.out.1;have s:=A3 (show Eh W from⟨H1.out,H2.out,V.out,X.out⟩);go_wp2_with fail;refine(Mc p v1 lo hi W.pool _ (t.out.A0 x).pool).mono ?_;rintro e w4 ⟨⟨f,rfl,b⟩,d⟩;have a:=A3 b;have y:=A7 x d;have I:=A3 (H.out.A0 d);clear b d j k l m n o;obtain⟨j,k,l,m,n,o⟩:=I.out.c;cases f
 ·have g:=A3 (show ¬D3 W from fun i=>absurd (a.out.2 i.right) (by simp));clear a;go_wp2;go_ret;exact⟨AL.no g.out,y⟩
 have Q:=A3 (a.out.1 rfl);clear a;go_wp2_with fail;refine(Yx p v1 q r lo hi W _ (t.out.A0 y) O s.out.idsWf).mono ?_;rintro e w5 ⟨A,rfl,hA,d⟩;have D:=A3 hA;have N:=A7 y d;have J:=A3 (I.out.A0 d);clear hA d j k l m n o;obtain⟨j,k,l,m,n,o⟩:=J.out.c;go_wp2_with fail;refine(zCz p v1 q r lo hi W A _ (t.out.A0 N) hs O D.out s.out.dist u.out).mono ?_;rintro e w6 ⟨⟨f,rfl,b⟩,d⟩;have a:=A3 b;have z:=A7 N d;have K:=A3 (J.out.A0 d);have E:=A3 (D.out.A0 d);clear b d j k l m n o;obtain⟨j,k,l,m,n,o⟩:=K.out.c;cases f
 ·have g:=A3 (show ¬D3 W from fun i=>absurd (a.out.2 i.prevs) (by simp));clear a;go_wp2;go_ret;exact⟨AL.no g.out,z⟩
 have Y:=A3 (a.out.1 rfl);clear a;go_wp2_with fail;refine(zD5 p v1 q r lo hi W A _ (t.out.A0 z) O hs E.out s.out.dist (s.out.EM Y.out)).mono ?_;rintro e w7 ⟨⟨f,rfl,b⟩,d⟩;have a:=A3 b;have B:=A7 z d;have L:=A3 (K.out.A0 d);have F:=A3 (E.out.A0 d);clear b d j k l m n o;obtain⟨j,k,l,m,n,o⟩:=L.out.c;cases f
 ·have g:=A3 (show ¬D3 W from fun i=>absurd (a.out.2 i.lines) (by simp));clear a;go_wp2;go_ret;exact⟨AL.no g.out,B⟩
 have H8:=A3 (a.out.1 rfl);clear a;go_wp2_with fail;refine(zD4 p v1 q r lo hi W A _ (t.out.A0 B) hs O F.out s.out.dist u.out Q.out s.out.times).mono ?_;rintro e w8 ⟨⟨f,rfl,b⟩,d⟩;have a:=A3 b;have C:=A7 B d;have T:=A3 (L.out.A0 d);have R:=A3 (F.out.A0 d);clear b d j k l m n o;obtain⟨j,k,l,m,n,o⟩:=T.out.c;cases f
 ·have g:=A3 (show ¬D3 W from fun i=>absurd (a.out.2 i.trees) (by simp));clear a;go_wp2;go_ret;exact⟨AL.no g.out,C⟩
 have Z:=A3 (a.out.1 rfl);clear a;go_wp2_with fail;refine(zDB p v1 q r lo hi W A _ (t.out.A0 C) hs O R.out s.out.dist u.out Q.out s.out.times Z.out.1).mono ?_;rintro e w9 ⟨⟨f,rfl,b⟩,d⟩;have a:=A3 b;have U:=A7 C d;clear b d;have g:=A3 (show f=true↔D3 W from⟨fun e=>⟨s.out,Q.out,Y.out,H8.out,Z.out,a.out.1 e⟩,fun i=>a.out.2 i.homes⟩);clear a;go_wp2;go_ret;exact⟨⟨f,rfl,g.out⟩,U⟩
def JF(w:World)(b:Nat)(v0 v1 v2 v3:Value):Prop:=AN w b 0 v0/\AN w b 1 v1/\AN w b 2 v2/\AN w b 3 v3
theorem JF.A0{v0 v1 v2 v3:Value}(h:JF w b v0 v1 v2 v3)(t:Below w.heap.size w w'):JF w' b v0 v1 v2 v3:=⟨h.1.A0 t,h.2.1.A0 t,h.2.2.1.A0 t,h.2.2.2.A0 t⟩
theorem JF.new(w:World)(b v1 c d:Value)(t:TypeId):JF (w.alloc (.cells #[b,v1,c,d] t)) w.heap.size b v1 c d:=by
 have a:(w.alloc (.cells #[b,v1,c,d] t)).heap[w.heap.size]?=some (.cells #[b,v1,c,d] t):=heap_alloc_new _ _;exact⟨Au a rfl,Au a rfl,Au a rfl,Au a rfl⟩
def Iu(w:World)(p:Nat->Addr)(v:Value)(m:Nat)(g:Nat->Nat)(lb:Nat->Array Value)(ei:Nat->Nat):Prop:=
 m<=1000/\∃a c,v = .slice a m c/\(0<m->∃b off,a=some ⟨b,off,none⟩/\∀i,i<m->w.cell? ⟨b,off+i*2,none⟩=some (.func (.func (g i)) #[] (lb i))/\w.cell? ⟨b,off+i*2+1,none⟩=some (Ax (p (ei i))))
variable{p:Nat->Addr}{g ei:Nat->Nat}{lb:Nat->Array Value}
theorem Iu.A0{m:Nat}(h:Iu w p v m g lb ei)(t:Below w.heap.size w w'):Iu w' p v m g lb ei:=by
 obtain⟨k,a,c,hv,j⟩:=h;refine⟨k,a,c,hv,fun e=>?_⟩;obtain⟨b,off,f,d⟩:=j e;exact⟨b,off,f,fun i hi=>⟨(t.cell (AZ (d i hi).1)).trans (d i hi).1,(t.cell (AZ (d i hi).2)).trans (d i hi).2⟩⟩
theorem Iu.cells{a:Option Addr}{m:Nat}(h:Iu w p (.slice a m c) m g lb ei)(hi:i<m):∃b off,a=some ⟨b,off,none⟩/\w.cell? ⟨b,off+i*2,none⟩=some (.func (.func (g i)) #[] (lb i))/\w.cell? ⟨b,off+i*2+1,none⟩=some (Ax (p (ei i))):=by
 obtain⟨k,j,c0,hv,f⟩:=h;simp only[Value.slice.injEq,true_and]at hv;obtain⟨rfl,rfl⟩:=hv;obtain⟨b,off,d,e⟩:=f (by omega);exact⟨b,off,d,e i hi⟩
def FG(W:A4)(long bad:Prop)(m:Nat)(Q:Nat->Prop)(ei:Nat->Nat)(r:Option Nat):Prop:=
 (long/\r=some 1)\/(¬long/\(¬D3 W\/bad)/\r=some 0)\/(¬long/\D3 W/\¬bad/\∃i,i<m/\¬Q i/\(∀j,j<i->Q j)/\r=some (ei i))\/(¬long/\D3 W/\¬bad/\(∀j,j<m->Q j)/\r=none)
def SX(p:Nat->Addr):Option Nat->Value
 | none=>.nilIface
 | some i=>Ax (p i)
theorem zBX(p:Nat->Addr)(tv nv qv N:Value)(A z m:Nat)(tx nx:Nat->ByteArray)(g:Nat->Nat)(R:Nat->Array Value)(ei:Nat->Nat)(Q:Nat->Prop)(J v1 K L:Value)(lo hi:Nat)(W:A4)(w:World)(hE:DC w p)(h:CE w lo hi J v1 K L W)(gB:G7 W)
 (ht:Du w tv A tx) (hn:Du w nv z nx) (hq:Iu w p qv m g R ei) (eg:∀i,i<m->Enters Tryz.prog (g i))
 (hQ:∀i,i<m->∀w',Below w.heap.size w w'->D3 W->(∀j,j<i->Q j)->Calls Tryz.prog (g i) (#[Cn J v1 K L W] ++ R i) w' fun e jB=>AL (Q i) e/\Below w'.heap.size w' jB) :
 Calls Tryz.prog 59 #[.agg #[tv,nv,qv,N],Cn J v1 K L W] w fun e w'=>∃r,e = .returned (SX p r)/\FG W (∃i,i<A/\8000<(tx i).size) (∃i,i<z/\¬Bp (nx i)) m Q ei r/\Below w.heap.size w w':=by
 have Hp:=AO h;have HE:=AO hE;have Ht:=AO ht;have Hn:=AO hn;have Hq:=AO hq;have HQ:=AO hQ;have Hg:=AO eg;obtain⟨t1,ta,tc,rfl,-⟩:=ht;obtain⟨n1,na,nc,rfl,-⟩:=hn;obtain⟨m1,qa,qc,rfl,-⟩:=hq;clear h hE hQ eg;have cA:=AC w (.cells #[.slice ta A tc,.slice na z nc,.slice qa m qc,N] 77);have I:=AC (w.alloc (.cells #[.slice ta A tc,.slice na z nc,.slice qa m qc,N] 77)) (.cells #[J,v1,.int .i64 W.time,.int .i64 W.next,K,L] 30);have C:=A7 cA I;have hd:=(JF.new w (.slice ta A tc) (.slice na z nc) (.slice qa m qc) (N) 77).A0 I;have hx:=As.new (w.alloc (.cells #[.slice ta A tc,.slice na z nc,.slice qa m qc,N] 77)) (J) (v1) (.int .i64 W.time) (.int .i64 W.next) (K) (L) 30;rw[World.size_alloc]at hx;have HD:=AO hd;have HX:=AO hx;clear hd hx;obtain⟨⟨X,-⟩,⟨Y,-⟩,⟨Z,-⟩,⟨d3,-⟩⟩:=HD.out;go_enter Tryz.func59,Tryz.ntmps59;go_wp2_with fail;clear X Y Z d3;generalize ((w.alloc (.cells #[.slice ta A tc,.slice na z nc,.slice qa m qc,N] 77)).alloc (.cells #[J,v1,.int .i64 W.time,.int .i64 W.next,K,L] 30))=W1 at C HD HX ⊢;clear cA I;refine(zAB _ A tx W1 (Ht.out.A0 C)).mono ?_;rintro e w2 ⟨⟨t,rfl,d⟩,q⟩;have n:=A7 C q;have S:=AO (HD.out.A0 q);have E:=AO (HX.out.A0 q);clear q C HD HX;by_cases l:∃i,i<A/\8000<(tx i).size
 ·obtain rfl:t=true:=d.2 l;have M:=AO l;have dA:w2.cell? ⟨1,0,none⟩=some (Ax (p 1)):=(HE.out.A0 n).cell 1 (by omega);clear d l;go_wp2;go_ret;exact⟨some 1,rfl,Or.inl ⟨M.out,rfl⟩,n⟩
 obtain rfl:t=false:=BR d l;have M:=AO l;clear d l;obtain⟨x0,x1,x2,x3,x4,x5⟩:=E.out.c;go_wp2_with fail;clear x0 x1 x2 x3 x4 x5;refine(Zc _ _ _ _ lo hi W w2 (Hp.out.A0 n) gB).mono ?_;rintro e w3 ⟨⟨t,rfl,d⟩,s⟩;have o:=A7 n s;have D:=AO (S.out.A0 s);have U:=AO (E.out.A0 s);clear s n S E;by_cases P:D3 W;rotate_left
 ·obtain rfl:t=false:=BR d P;have T:=AO P;have dA:w3.cell? ⟨2,0,none⟩=some (Ax (p 0)):=(HE.out.A0 o).cell 0 (by omega);clear d P;go_wp2;go_ret;exact⟨some 0,rfl,Or.inr (Or.inl ⟨M.out,Or.inl T.out,rfl⟩),o⟩
 obtain rfl:t=true:=d.2 P;have T:=AO P;clear d P;obtain⟨⟨X,-⟩,⟨Y,-⟩,⟨Z,-⟩,⟨d3,-⟩⟩:=D.out;go_wp2_with fail;clear X Y Z d3;refine(zAC _ z nx w3 (Hn.out.A0 o)).mono ?_;rintro e w4 ⟨⟨t,rfl,d⟩,u⟩;have G:=A7 o u;have rA:=AO (D.out.A0 u);have bB:=AO (U.out.A0 u);clear u o D U;by_cases l:∃i,i<z/\¬Bp (nx i)
 ·obtain rfl:t=true:=d.2 l;have HN:=AO l;have dA:w4.cell? ⟨2,0,none⟩=some (Ax (p 0)):=(HE.out.A0 G).cell 0 (by omega);clear d l;go_wp2;go_ret;exact⟨some 0,rfl,Or.inr (Or.inl ⟨M.out,Or.inr HN.out,rfl⟩),G⟩
 obtain rfl:t=false:=BR d l;have HN:=AO l;clear d l;obtain⟨⟨X,-⟩,⟨Y,-⟩,⟨Z,-⟩,⟨d3,-⟩⟩:=rA.out;go_wp2;clear X Y Z d3
 go_loopw [23] (fun i wr=>∃k:Nat,k<=m/\i = .int .i64 k/\(∀j,j<k->Q j)/\As wr (w.heap.size+1) (J) (v1) (.int .i64 W.time) (.int .i64 W.next) (K) (L)/\Below w.heap.size w wr) (fun i _=>m - (intOf i).toNat)
 case atStart=>exact⟨0,Nat.zero_le _,rfl,fun j hj=>absurd hj (Nat.not_lt_zero _),bB.out,G⟩
 case round=>
  obtain⟨k,hk,rfl,B,hX,C⟩:=hrel;have f:=AO B;have eB:=AO hX;clear B hX;by_cases y:k<m
  ·have cC:(k:Int)<(m:Int):=(by omega);obtain⟨b,off,rfl,q0,q1⟩:=(Hq.out.A0 C).cells y;have H:=AC wr (.cells #[.func (.func (g k)) #[] (R k),Ax (p (ei k))] 63);have HV:=AO (Ac.new wr (.func (.func (g k)) #[] (R k)) (Ax (p (ei k))) 63);have F:=AO (eB.out.A0 H);have x:=A7 C H;have e0:∀(args:Array Value) (w:World),(callFunc (g k) args).run Tryz.prog w = .ok (.enter (g k) args) w:=Hg.out k y;have fB:=fun (w:World) (a:Addr)=>run_store Tryz.prog w a (.func (.func (g k)) #[] (R k)) .plain rfl
   obtain⟨⟨z0,-⟩,⟨z1,-⟩⟩:=HV.out;obtain⟨x0,x1,x2,x3,x4,x5⟩:=F.out.c;go_wp2_with fail;clear x0 x1 x2 x3 x4 x5 z0 z1 q0 q1 fB;generalize wr.alloc (.cells #[.func (.func (g k)) #[] (R k),Ax (p (ei k))] 63)=W5 at HV F x ⊢;generalize wr.heap.size=V at HV ⊢;refine(HQ.out k y W5 x T.out f.out).mono ?_;rintro e w6 ⟨⟨t,rfl,d⟩,v⟩;have bA:=A7 x v;have vA:=AO (HV.out.A0 v);have cB:=AO (F.out.A0 v);clear v x H e0;by_cases O:Q k
   ·obtain rfl:t=true:=d.2 O;have HF:=AO O;clear d O;go_wp2;go_roundw
    case rel=>
     refine⟨k+1,by omega,by go_num,fun j hj=>?_,cB.out,bA⟩;by_cases e:j=k
     ·subst e;exact HF.out
     ·exact f.out j (by omega)
    case measure=>simp[intOf];omega
   ·obtain rfl:t=false:=BR d O;have HF:=AO O;clear d O;obtain⟨⟨z0,-⟩,⟨z1,-⟩⟩:=vA.out;go_wp2;go_ret;exact⟨some (ei k),rfl,Or.inr (Or.inr (Or.inl ⟨M.out,T.out,HN.out,k,y,HF.out,f.out,rfl⟩)),bA⟩
  ·obtain rfl:k=m:=(by omega);go_wp2;go_ret;exact⟨none,rfl,Or.inr (Or.inr (Or.inr ⟨M.out,T.out,HN.out,f.out,rfl⟩)),C⟩
theorem zCT(g:Nat)(D:Array Value)(z:Enters Tryz.prog g)(P:Nat->Prop)(v:Value)(n lo hi:Nat)(f:Nat->Ad)(w:World)(h:EB w lo hi v n f)(hn:n<=1000)
 (A:∀i,i<n->∀a c w',Below w.heap.size w w'->BI w' lo hi (.slice a (f i).dn c) (f i).dn (f i).ds (f i).db->Calls Tryz.prog g (#[.agg #[.string (f i).name,.int .i64 (f i).origin,.int .i64 (f i).A6,.int .i64 (f i).rs,.int .i64 (f i).rb,.slice a (f i).dn c]] ++ D) w' fun e x=>AL (P i) e/\Below w'.heap.size w' x) :
 Calls Tryz.prog 57 #[v,.func (.func g) #[] D] w fun e w'=>((∃i:Nat,i<n/\P i/\(∀j,j<i->¬P j)/\e = .returned (.int .i64 (i:Int)))\/((∀j,j<n->¬P j)/\e = .returned (.int .i64 (-1))))/\Below w.heap.size w w':=by
 have F:=A3 h;obtain⟨-,a,c,rfl,-,-⟩:=h;have E:=A3 A;clear A;have e0:∀(args:Array Value) (w:World),(callFunc g args).run Tryz.prog w = .ok (.enter g args) w:=z;clear z;go_enter Tryz.func57,Tryz.ntmps57;go_wp2
 go_loopw [8] (fun i wr=>∃k:Nat,k<=n/\i = .int .i64 k/\(∀j,j<k->¬P j)/\Below w.heap.size w wr) (fun i _=>n - (intOf i).toNat)
 case atStart=>exact⟨0,Nat.zero_le _,rfl,fun j B=>absurd B (Nat.not_lt_zero _),Below.refl _ _⟩
 case round=>
  obtain⟨k,N,rfl,l,r⟩:=hrel;have d:=A3 l;clear l;by_cases m:k<n
  ·have C:(k:Int)<(n:Int):=(by omega);obtain⟨b,off,vd,rfl,hs⟩:=(F.out.A0 r).cells m;obtain⟨-,G,H,rfl,-,-⟩:=id hs.dead;have y:=A3 hs.dead;obtain⟨I,q1,J,K,L,M,-,-⟩:=hs;go_wp2_with fail;clear I q1 J K L M;refine(E.out k m G H wr r y.out).mono ?_;rintro e O ⟨⟨t,rfl,s⟩,p⟩;have q:=A7 r p;clear p y;by_cases o:P k
   ·obtain rfl:t=true:=s.2 o;have u:=A3 o;clear s o;go_wp2;go_ret;exact⟨Or.inl ⟨k,m,u.out,d.out,rfl⟩,q⟩
   ·obtain rfl:t=false:=BR s o;have u:=A3 o;clear s o;go_wp2;go_roundw
    case rel=>
     refine⟨k+1,by omega,by go_num,fun j B=>?_,q⟩;by_cases e:j=k
     ·subst e;exact u.out
     ·exact d.out j (by omega)
    case measure=>simp[intOf];omega
  ·obtain rfl:k=n:=(by omega);go_wp2;go_ret;exact⟨Or.inr ⟨d.out,rfl⟩,r⟩
end Go.Proofs.YtehdoekmnicdiaaGreatDoor
