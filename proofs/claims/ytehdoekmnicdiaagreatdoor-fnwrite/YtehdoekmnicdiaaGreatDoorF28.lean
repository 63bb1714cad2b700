/- A part of the proof. -/
import Derived.Test.YtehdoekmnicdiaaGreatDoorRows
import Derived.Test.YtehdoekmnicdiaaGreatDoorF21
import Derived.ChangeSame
import Derived.ChangeVars
import Derived.JoinedOf
import Derived.LaidLaws
import Derived.Stop.LaidTwo
import Derived.Stop.Joined
import Derived.Stop.ErrReads
import Derived.MakeChecks
import Derived.OpenShut
import Derived.ChangeOld
set_option linter.unusedVariables false
set_option maxRecDepth 20000
set_option maxHeartbeats 4000000
namespace Go.Proofs.YtehdoekmnicdiaaGreatDoor
noncomputable section
open Go.ChangeShapes Go.WideShapes Go.RowKit
set_option maxRecDepth 100000
abbrev LM:List (String×DataW Unit):=[("loop.example/g00381/impl.errForm",Rows.laid_loop_example_g00381_impl_errForm),("loop.example/g00381/impl.errSize",Rows.laid_loop_example_g00381_impl_errSize),("loop.example/g00381/impl.errNone",Rows.laid_loop_example_g00381_impl_errNone),("loop.example/g00381/impl.errThere",Rows.laid_loop_example_g00381_impl_errThere),("loop.example/g00381/impl.errFull",Rows.laid_loop_example_g00381_impl_errFull),("loop.example/g00381/impl.errState",Rows.laid_loop_example_g00381_impl_errState),("loop.example/g00381/impl.errRange",Rows.laid_loop_example_g00381_impl_errRange)]
def errN:Nat->String
 | 0=> "loop.example/g00381/impl.errForm"
 | 1=> "loop.example/g00381/impl.errSize"
 | 2=> "loop.example/g00381/impl.errNone"
 | 3=> "loop.example/g00381/impl.errThere"
 | 4=> "loop.example/g00381/impl.errFull"
 | 5=> "loop.example/g00381/impl.errState"
 | _=> "loop.example/g00381/impl.errRange"
theorem EK(i:Nat)(h:i<7):Tryz.prog.globalNamed (errN i)=some (errG i)/\(Tryz.prog.globals[errG i]?).map (·.type)=some 61:=by
 match i,h with
 | 0,_=>exact⟨by kernel_rfl,by kernel_rfl⟩
 | 1,_=>exact⟨by kernel_rfl,by kernel_rfl⟩
 | 2,_=>exact⟨by kernel_rfl,by kernel_rfl⟩
 | 3,_=>exact⟨by kernel_rfl,by kernel_rfl⟩
 | 4,_=>exact⟨by kernel_rfl,by kernel_rfl⟩
 | 5,_=>exact⟨by kernel_rfl,by kernel_rfl⟩
 | 6,_=>exact⟨by kernel_rfl,by kernel_rfl⟩
theorem U4 : "*" ++ "errors.errorString" = "*errors.errorString" :=by decide
theorem JZ(u:TypeId)(h:Tryz.prog.typeName? 3 u=some "*errors.errorString"):u=230:=
 typeName_ptr_named (nm:= "errors.errorString") (by rw[U4];kernel_rfl) (by kernel_rfl) (by decide) u (by rw[U4];exact h)
theorem Jg:Tryz.prog.cellsOf 256=1:=by kernel_rfl
theorem Ji:Tryz.prog.cellsOf 9=1:=by kernel_rfl
theorem zCM{W:World}(h:laidMetH Tryz.prog LM W):∃p:Nat->Addr,DC W p/\∀i,i<7->W.var? Tryz.prog (errN i)=some #[Ax (p i)]:=by
 rw[MakeChecks.laidMetH_plain _ _ _ (by kernel_rfl)]at h;obtain⟨ps,⟨g0,t0,G,f0,p0,q0,q,U,z,N,⟨g1,t1,H,f1,p1,q1,r,V,A,O,⟨g2,t2,I,f2,p2,q2,s,X,B,P,⟨g3,t3,J,f3,p3,q3,t,Y,C,Q,⟨g4,t4,K,f4,p4,q4,w,Z,D,R,⟨g5,t5,L,f5,p5,q5,x,aA,E,S,⟨g6,t6,M,f6,p6,q6,y,bA,F,T,_,e6⟩,e5⟩,e4⟩,e3⟩,e2⟩,e1⟩,e0⟩,a,b⟩:=h;obtain rfl:=Option.some.inj ((EK 0 (by omega)).1.symm.trans q);obtain rfl:=Option.some.inj ((EK 0 (by omega)).2.symm.trans U);obtain rfl:=Option.some.inj ((EK 1 (by omega)).1.symm.trans r);obtain rfl:=Option.some.inj ((EK 1 (by omega)).2.symm.trans V);obtain rfl:=Option.some.inj ((EK 2 (by omega)).1.symm.trans s);obtain rfl:=Option.some.inj ((EK 2 (by omega)).2.symm.trans X);obtain rfl:=Option.some.inj ((EK 3 (by omega)).1.symm.trans t);obtain rfl:=Option.some.inj ((EK 3 (by omega)).2.symm.trans Y);obtain rfl:=Option.some.inj ((EK 4 (by omega)).1.symm.trans w);obtain rfl:=Option.some.inj ((EK 4 (by omega)).2.symm.trans Z);obtain rfl:=Option.some.inj ((EK 5 (by omega)).1.symm.trans x);obtain rfl:=Option.some.inj ((EK 5 (by omega)).2.symm.trans aA);obtain rfl:=Option.some.inj ((EK 6 (by omega)).1.symm.trans y);obtain rfl:=Option.some.inj ((EK 6 (by omega)).2.symm.trans bA);subst e6;subst e5;subst e4;subst e3;subst e2;subst e1;subst e0;obtain⟨l0⟩:=G;have cA:∀u v,l0 = [.iface u v]->Value.okWide Tryz.prog W .any 0 u v:=fun u v e=>by
  subst e;exact(b (errG 0) 0 (by simp[MemPlace.row])).2 u v (by simpa using World.var?_cell q z 0)
 obtain⟨d,s0,rfl,rA,fB,nB,rfl⟩:=errorString_of_trod Tryz.underlying61 JZ Tryz.underlying230 Tryz.underlying256 rfl rfl Tryz.underlying9 Jg Ji N cA;obtain⟨l1⟩:=H;have dA:∀u v,l1 = [.iface u v]->Value.okWide Tryz.prog W .any 0 u v:=fun u v e=>by
  subst e;exact(b (errG 1) 0 (by simp[MemPlace.row])).2 u v (by simpa using World.var?_cell r A 0)
 obtain⟨f,s1,rfl,sA,gB,oB,rfl⟩:=errorString_of_trod Tryz.underlying61 JZ Tryz.underlying230 Tryz.underlying256 rfl rfl Tryz.underlying9 Jg Ji O dA;obtain⟨l2⟩:=I;have eA:∀u v,l2 = [.iface u v]->Value.okWide Tryz.prog W .any 0 u v:=fun u v e=>by
  subst e;exact(b (errG 2) 0 (by simp[MemPlace.row])).2 u v (by simpa using World.var?_cell s B 0)
 obtain⟨g,s2,rfl,tA,iB,pB,rfl⟩:=errorString_of_trod Tryz.underlying61 JZ Tryz.underlying230 Tryz.underlying256 rfl rfl Tryz.underlying9 Jg Ji P eA;obtain⟨l3⟩:=J;have fA:∀u v,l3 = [.iface u v]->Value.okWide Tryz.prog W .any 0 u v:=fun u v e=>by
  subst e;exact(b (errG 3) 0 (by simp[MemPlace.row])).2 u v (by simpa using World.var?_cell t C 0)
 obtain⟨k,s3,rfl,vA,jB,rB,rfl⟩:=errorString_of_trod Tryz.underlying61 JZ Tryz.underlying230 Tryz.underlying256 rfl rfl Tryz.underlying9 Jg Ji Q fA;obtain⟨l4⟩:=K;have gA:∀u v,l4 = [.iface u v]->Value.okWide Tryz.prog W .any 0 u v:=fun u v e=>by
  subst e;exact(b (errG 4) 0 (by simp[MemPlace.row])).2 u v (by simpa using World.var?_cell w D 0)
 obtain⟨l,s4,rfl,aB,kB,sB,rfl⟩:=errorString_of_trod Tryz.underlying61 JZ Tryz.underlying230 Tryz.underlying256 rfl rfl Tryz.underlying9 Jg Ji R gA;obtain⟨l5⟩:=L;have iA:∀u v,l5 = [.iface u v]->Value.okWide Tryz.prog W .any 0 u v:=fun u v e=>by
  subst e;exact(b (errG 5) 0 (by simp[MemPlace.row])).2 u v (by simpa using World.var?_cell x E 0)
 obtain⟨m,s5,rfl,bB,lB,tB,rfl⟩:=errorString_of_trod Tryz.underlying61 JZ Tryz.underlying230 Tryz.underlying256 rfl rfl Tryz.underlying9 Jg Ji S iA;obtain⟨l6⟩:=M;have jA:∀u v,l6 = [.iface u v]->Value.okWide Tryz.prog W .any 0 u v:=fun u v e=>by
  subst e;exact(b (errG 6) 0 (by simp[MemPlace.row])).2 u v (by simpa using World.var?_cell y F 0)
 obtain⟨n,s6,rfl,cB,mB,vB,rfl⟩:=errorString_of_trod Tryz.underlying61 JZ Tryz.underlying230 Tryz.underlying256 rfl rfl Tryz.underlying9 Jg Ji T jA;refine⟨fun | 0=>d | 1=>f | 2=>g | 3=>k | 4=>l | 5=>m | _=>n,⟨fun i hi=>?_,fun i hi=>?_,fun i j hi hj o c=>?_⟩,fun i hi=>?_⟩
 ·match i,hi with
  | 0,_=>simpa using World.var?_cell q z 0
  | 1,_=>simpa using World.var?_cell r A 0
  | 2,_=>simpa using World.var?_cell s B 0
  | 3,_=>simpa using World.var?_cell t C 0
  | 4,_=>simpa using World.var?_cell w D 0
  | 5,_=>simpa using World.var?_cell x E 0
  | 6,_=>simpa using World.var?_cell y F 0
 ·match i,hi with
  | 0,_=>exact(b d.block d.off (by simp[MemPlace.row])).1
  | 1,_=>exact(b f.block f.off (by simp[MemPlace.row])).1
  | 2,_=>exact(b g.block g.off (by simp[MemPlace.row])).1
  | 3,_=>exact(b k.block k.off (by simp[MemPlace.row])).1
  | 4,_=>exact(b l.block l.off (by simp[MemPlace.row])).1
  | 5,_=>exact(b m.block m.off (by simp[MemPlace.row])).1
  | 6,_=>exact(b n.block n.off (by simp[MemPlace.row])).1
 ·simp only[MemPlace.row]at a
  match i,hi,j,hj with
  | 0,_,0,_=>exact absurd rfl o
  | 0,_,1,_=>obtain rfl:d=f:=c;simp at a
  | 0,_,2,_=>obtain rfl:d=g:=c;simp at a
  | 0,_,3,_=>obtain rfl:d=k:=c;simp at a
  | 0,_,4,_=>obtain rfl:d=l:=c;simp at a
  | 0,_,5,_=>obtain rfl:d=m:=c;simp at a
  | 0,_,6,_=>obtain rfl:d=n:=c;simp at a
  | 1,_,0,_=>obtain rfl:f=d:=c;simp at a
  | 1,_,1,_=>exact absurd rfl o
  | 1,_,2,_=>obtain rfl:f=g:=c;simp at a
  | 1,_,3,_=>obtain rfl:f=k:=c;simp at a
  | 1,_,4,_=>obtain rfl:f=l:=c;simp at a
  | 1,_,5,_=>obtain rfl:f=m:=c;simp at a
  | 1,_,6,_=>obtain rfl:f=n:=c;simp at a
  | 2,_,0,_=>obtain rfl:g=d:=c;simp at a
  | 2,_,1,_=>obtain rfl:g=f:=c;simp at a
  | 2,_,2,_=>exact absurd rfl o
  | 2,_,3,_=>obtain rfl:g=k:=c;simp at a
  | 2,_,4,_=>obtain rfl:g=l:=c;simp at a
  | 2,_,5,_=>obtain rfl:g=m:=c;simp at a
  | 2,_,6,_=>obtain rfl:g=n:=c;simp at a
  | 3,_,0,_=>obtain rfl:k=d:=c;simp at a
  | 3,_,1,_=>obtain rfl:k=f:=c;simp at a
  | 3,_,2,_=>obtain rfl:k=g:=c;simp at a
  | 3,_,3,_=>exact absurd rfl o
  | 3,_,4,_=>obtain rfl:k=l:=c;simp at a
  | 3,_,5,_=>obtain rfl:k=m:=c;simp at a
  | 3,_,6,_=>obtain rfl:k=n:=c;simp at a
  | 4,_,0,_=>obtain rfl:l=d:=c;simp at a
  | 4,_,1,_=>obtain rfl:l=f:=c;simp at a
  | 4,_,2,_=>obtain rfl:l=g:=c;simp at a
  | 4,_,3,_=>obtain rfl:l=k:=c;simp at a
  | 4,_,4,_=>exact absurd rfl o
  | 4,_,5,_=>obtain rfl:l=m:=c;simp at a
  | 4,_,6,_=>obtain rfl:l=n:=c;simp at a
  | 5,_,0,_=>obtain rfl:m=d:=c;simp at a
  | 5,_,1,_=>obtain rfl:m=f:=c;simp at a
  | 5,_,2,_=>obtain rfl:m=g:=c;simp at a
  | 5,_,3,_=>obtain rfl:m=k:=c;simp at a
  | 5,_,4,_=>obtain rfl:m=l:=c;simp at a
  | 5,_,5,_=>exact absurd rfl o
  | 5,_,6,_=>obtain rfl:m=n:=c;simp at a
  | 6,_,0,_=>obtain rfl:n=d:=c;simp at a
  | 6,_,1,_=>obtain rfl:n=f:=c;simp at a
  | 6,_,2,_=>obtain rfl:n=g:=c;simp at a
  | 6,_,3,_=>obtain rfl:n=k:=c;simp at a
  | 6,_,4,_=>obtain rfl:n=l:=c;simp at a
  | 6,_,5,_=>obtain rfl:n=m:=c;simp at a
  | 6,_,6,_=>exact absurd rfl o
 ·match i,hi with
  | 0,_=>exact z
  | 1,_=>exact A
  | 2,_=>exact B
  | 3,_=>exact C
  | 4,_=>exact D
  | 5,_=>exact E
  | 6,_=>exact F
theorem Qm{H:Type}(enc:TypeId×Value->H){W:World}{p:Nat->Addr}(h:∀i,i<7->W.var? Tryz.prog (errN i)=some #[Ax (p i)])(sp:Nat->Bool):∀l:List Nat,(∀i,i∈l->i<7)->
 DataW.TrodVars enc Tryz.prog W sp (l.map errN) (l.map fun i=>tok enc (Ax (p i))) (l.map fun i=>.cell (errG i) 0)
 | [],_=>rfl
 | i :: l,hl=>⟨errG i,61,#[Ax (p i)],1,[],l.map fun i=>.cell (errG i) 0,(EK i (hl i (List.mem_cons_self ..))).1,(EK i (hl i (List.mem_cons_self ..))).2,h i (hl i (List.mem_cons_self ..)),trod_held Tryz.underlying61 (show IsIface (Ax (p i))from trivial) 0,Qm enc h sp l fun j a=>hl j (List.mem_cons_of_mem _ a),rfl⟩
theorem zAZ{W W':World}{n:String}{cs:Array Value}(h:W.var? Tryz.prog n=some cs)(t:Below W.heap.size W W'):W'.var? Tryz.prog n=some cs:=by
 unfold World.var? at h ⊢;cases hg:Tryz.prog.globalNamed n with
 | none=>simp[hg]at h
 | some g=>
  simp only[hg,Option.bind_some]at h ⊢;have b:g<W.heap.size:=by
   rcases Nat.lt_or_ge g W.heap.size with a | a
   ·exact a
   ·simp[Array.getElem?_eq_none a]at h
  rw[t.block g b];exact h
def Eb:Nat:=(World.holding Tryz.prog default ⟨#[],#[],[]⟩).heap.size
def Vo(os:Os):World:=
 let w0:=World.holding Tryz.prog os ⟨#[.cells #[.string ⟨#[105,116,32,105,115,32,110,111,116,32,114,105,103,104,116]⟩] 256,.cells #[.string ⟨#[105,116,32,105,115,32,116,111,111,32,108,111,110,103]⟩] 256,.cells #[.string ⟨#[116,104,101,114,101,32,105,115,32,110,111,110,101]⟩] 256,.cells #[.string ⟨#[116,104,101,114,101,32,105,115,32,111,110,101,32,97,108,114,101,97,100,121]⟩] 256,.cells #[.string ⟨#[116,104,101,114,101,32,105,115,32,110,111,32,114,111,111,109]⟩] 256,.cells #[.string ⟨#[105,116,32,100,111,101,115,32,110,111,116,32,115,116,97,110,100,32,115,111,32,116,104,97,116,32,116,104,105,115,32,99,97,110,32,98,101,32,100,111,110,101]⟩] 256,.cells #[.string ⟨#[105,116,32,105,115,32,111,117,116,32,111,102,32,114,97,110,103,101]⟩] 256],#[],[]⟩
 {w0 with heap:=((((((((((((((w0.heap).modify 2 fun
   | .cells _ t frozen=>.cells #[Ax ⟨Eb+0,0,none⟩] t frozen
   | o=>o)).modify 1 fun
   | .cells _ t frozen=>.cells #[Ax ⟨Eb+1,0,none⟩] t frozen
   | o=>o)).modify 0 fun
   | .cells _ t frozen=>.cells #[Ax ⟨Eb+2,0,none⟩] t frozen
   | o=>o)).modify 3 fun
   | .cells _ t frozen=>.cells #[Ax ⟨Eb+3,0,none⟩] t frozen
   | o=>o)).modify 4 fun
   | .cells _ t frozen=>.cells #[Ax ⟨Eb+4,0,none⟩] t frozen
   | o=>o)).modify 5 fun
   | .cells _ t frozen=>.cells #[Ax ⟨Eb+5,0,none⟩] t frozen
   | o=>o)).modify 6 fun
   | .cells _ t frozen=>.cells #[Ax ⟨Eb+6,0,none⟩] t frozen
   | o=>o)}
theorem zCm(os:Os)(args:Array Value):laidMetH Tryz.prog LM ((Vo os).forCall (fun _ _=>0) ⟨#[],args,[]⟩).memory:=by
 rw[MakeChecks.laidMetH_plain _ _ _ (by kernel_rfl)];exact laidMet_of_run (ps:=[.cell 2 0,.cell (Eb+0) 0,.cell 1 0,.cell (Eb+1) 0,.cell 0 0,.cell (Eb+2) 0,.cell 3 0,.cell (Eb+3) 0,.cell 4 0,.cell (Eb+4) 0,.cell 5 0,.cell (Eb+5) 0,.cell 6 0,.cell (Eb+6) 0]) 8 (by kernel_rfl) (by kernel_rfl) (by kernel_rfl)
set_option linter.unusedSimpArgs false
open Classical in
def AU{ι : Type}(A:ι->List (Bool×List Tr))(C:ι->Prop)(R:ι->List (Bool×List Tr)):AJ:=fun l=>
 if h:∃x,A x=l then some (C h.choose,R h.choose)else none
variable{ι:Type}
theorem Af{A:ι->List (Bool×List Tr)}{C:ι->Prop}{R:ι->List (Bool×List Tr)}(a:List (Bool×List Tr)->ι)(b:∀x,a (A x)=x)(x:ι):AU A C R (A x)=some (C x,R x):=by
 unfold AU;have h:∃y,A y=A x:=⟨x,rfl⟩;rw[dif_pos h];have:h.choose=x:=by
  have:=congrArg a h.choose_spec
  rwa [b,b]at this
 rw[this]
def K3(T:Tb)(rv:List ResultVar)(rs:List (Bool×List Tr)):Exit->St->Prop:=fun e S=>match e with
 | .ret=>Ret T rv S rs
 | .normal=>Ret T rv S rs
 | _=>False
variable{P:Program}{f N:Nat}{T:Tb}{Γ:List (Nat×AJ)}{fn:Func}{body:Code}{rv:Array ResultVar}
theorem Az{A:ι->List (Bool×List Tr)}{C:ι->Prop}{R:ι->List (Bool×List Tr)}(g:DS P T)(hΓ : GOk P Γ)(m:P.follows .mixedOrders=true)(k:P.funcs[f]?=some fn)(i:fn.body=some body)(e:fn.ntmps=N)(b:fn.results=rv)(n:Nat)
 (h:∀x,C x->(A x).length<=N/\ev N T Γ n body ⟨Dz 0 (A x),[]⟩ (K3 T rv.toList (R x))):Am P f (AU A C R):=by
 refine zBc g hΓ m k i e b n (fun l c rs a j=>?_);unfold AU at a;split at a
 ·rename_i d
  cases a;have:=h d.choose j;rw[d.choose_spec]at this;exact this
 ·cases a
def LO(T:Tb)(rv:List ResultVar)(rs:List (Bool×List Tr)):Exit->St->Prop:=fun e S=>match e with
 | .ret=>RetP T rv S rs
 | .normal=>RetP T rv S rs
 | _=>False
theorem EW{V:ι->List Tr}{A:ι->List (Bool×List Tr)}{C:ι->Prop}{R:ι->List (Bool×List Tr)}(g:DS P T)(hΓ : GOk P Γ)(o:P.follows .mixedOrders=true)(k:P.funcs[f]?=some fn)(i:fn.body=some body)(d:fn.ntmps=N)(b:fn.results=rv)(n:Nat)
 (h:∀x,C x->1+(A x).length<=N/\ev N T Γ n body ⟨(0,true,.m false [.p 0 0]) :: Dz 1 (A x),Fu (V x)⟩ (LO T rv.toList (R x))):D7 P f (AU (fun x=>(true,V x) :: A x) C R):=by
 refine zC0 g hΓ o k i d b n (fun vs l c rs a j=>?_);obtain⟨y,e,r,rfl⟩:∃y,(true,V y) :: A y=(true,vs) :: l/\C y/\R y=rs:=by
  unfold AU at a;split at a
  ·rename_i q
   cases a;exact⟨_,q.choose_spec,j,rfl⟩
  ·cases a
 simp only[List.cons.injEq,Prod.mk.injEq,true_and]at e;obtain⟨rfl,rfl⟩:=e;exact h y r
theorem zE8{V:ι->List Tr}{A:ι->List (Bool×List Tr)}{C:ι->Prop}{R:ι->List (Bool×List Tr)}(j:DS P T)(hΓ : GOk P Γ)(q:P.follows .mixedOrders=true)(p:P.funcs[f]?=some fn)(k:fn.body=some body)(i:fn.ntmps=N)(b:fn.results=rv)(n:Nat)
 (h:∀x,C x->(A x).length+1<=N/\ev N T Γ n body ⟨((A x).length,true,.m true (D8 0 0 (V x))) :: Dz 0 (A x),DV 0 (V x)⟩ (K3 T rv.toList (R x))):NL P f (AU (fun x=>A x ++ [(true,V x)]) C R):=by
 refine zBz j hΓ q p k i b n (fun vs l c rs a o=>?_);obtain⟨y,e,s,rfl⟩:∃y,A y ++ [(true,V y)]=l ++ [(true,vs)]/\C y/\R y=rs:=by
  unfold AU at a;split at a
  ·rename_i r
   cases a;exact⟨_,r.choose_spec,o,rfl⟩
  ·cases a
 obtain⟨d,g⟩:=List.append_inj' e rfl;subst d;cases g;exact h y s
def S4(T:Tb)(rv:List ResultVar)(rs:List (Bool×List Tr)):Exit->St->Prop:=fun e S=>match e with
 | .ret=>RetN T rv S rs
 | .normal=>RetN T rv S rs
 | _=>False
theorem zE7{A:ι->List (Bool×List Tr)}{C:ι->Prop}{R:ι->List (Bool×List Tr)}(g:DS P T)(hΓ : GOk P Γ)(m:P.follows .mixedOrders=true)(k:P.funcs[f]?=some fn)(i:fn.body=some body)(e:fn.ntmps=N)(b:fn.results=rv)(n:Nat)
 (h:∀x,C x->(A x).length<=N/\ev N T Γ n body ⟨Dz 0 (A x),[]⟩ (S4 T rv.toList (R x))):NK P f (AU A C R):=by
 refine zBy g hΓ m k i e b n (fun l c rs a j=>?_);unfold AU at a;split at a
 ·rename_i d
  cases a;have:=h d.choose j;rw[d.choose_spec]at this;exact this
 ·cases a
def BF(h:Nat->Int):Nat->Nat->Tr:=fun i _=>.v (.int .i64 (h i))
def AQ:Tr->Int
 | .v (.int _ x)=>x
 | _=>0
def DI:Tr->Nat
 | .s _ _ n _=>n
 | _=>0
def Br:Tr->Nat->Nat->Tr
 | .s _ _ _ f=>f
 | _=>fun _ _=>.v (.bool false)
def nth(l:List (Bool×List Tr))(i j:Nat):Tr:=((l.getD i (false,[])).2).getD j (.v (.bool false))
def dB(p:Prop):Bool:=@decide p (Classical.propDecidable p)
variable{p:Prop}
theorem FJ:dB p=true↔p:=@decide_eq_true_iff p (Classical.propDecidable p)
theorem PF:dB p=false↔¬p:=@decide_eq_false_iff_not p (Classical.propDecidable p)
theorem zIV{b:Bool}:(b=dB p)↔(b=true↔p):=by
 rw[Bool.eq_iff_iff,FJ]
theorem Ao{k:Nat}(h:k<=1000000000):IntKind.i64.wrap ((k:Int)+1)=((k+1:Nat):Int):=by
 rw[IntKind.wrap_i64];omega
abbrev Av.i(x:Int):Av:=.m false [.v (.int .i64 x)]
section
variable {N : Nat} {T : Tb} {Γ : List (Nat × AJ)} {n : Nat} {tm : List (Nat × Bool × Av)} {ob : List (Nat × Ob)} {K : Exit -> St -> Prop} {ops : Array Oper} {dst : Option Nat}
def Ksq(N:Nat)(T:Tb)(Γ : List (Nat×AJ))(n:Nat)(b:Code)(K:Exit->St->Prop):Exit->St->Prop:=fun e S=>match e with
 | .normal=>ev N T Γ n b S K
 | e=>K e S
def Kbl(id:Nat)(K:Exit->St->Prop):Exit->St->Prop:=fun e S=>match e with
 | .exit i=>if i=id then K .normal S else K (.exit i) S
 | e=>K e S
def bnd:Option (Prop×St)->(St->Prop)->Prop
 | some q,f=>q.1/\f q.2
 | none,_=>False
variable{a b:Code}
theorem zHX:ev N T Γ n (.seq a b) ⟨tm,ob⟩ K=ev N T Γ n a ⟨tm,ob⟩ (Ksq N T Γ n b K):=rfl
variable{id:Nat}
theorem zEh:ev N T Γ n (.block id a) ⟨tm,ob⟩ K=ev N T Γ n a ⟨tm,ob⟩ (Kbl id K):=rfl
theorem zGm:ev N T Γ n .skip ⟨tm,ob⟩ K=K .normal ⟨tm,ob⟩:=rfl
theorem zGl:ev N T Γ n (.exit id) ⟨tm,ob⟩ K=K (.exit id) ⟨tm,ob⟩:=rfl
theorem zHW:ev N T Γ n .ret ⟨tm,ob⟩ K=K .ret ⟨tm,ob⟩:=rfl
theorem zHr:ev N T Γ n (.region id ops false) ⟨tm,ob⟩ K=runL N T Γ ops ops.toList ⟨fgt n tm,ob⟩ (K .normal):=rfl
theorem zHq:ev N T Γ n (.region id ops true) ⟨tm,ob⟩ K=runT N T Γ ops ops.toList ⟨fgt n tm,ob⟩ [] (fun S ts=>chk ops.toList ts=true/\K .normal S):=rfl
theorem zGk{c:Operand}:ev N T Γ n (.cond c a b) ⟨tm,ob⟩ K=match opd ⟨tm,ob⟩ c with
 | some (cc,.m false [.v (.bool t)])=>cc=true/\(t=true->ev N T Γ n a ⟨tm,ob⟩ K)/\(t=false->ev N T Γ n b ⟨tm,ob⟩ K)
 | _=>False:=rfl
variable{rv:List ResultVar}{rs:List (Bool×List Tr)}
theorem zHg:K3 T rv rs .ret ⟨tm,ob⟩=Ret T rv ⟨tm,ob⟩ rs:=rfl
theorem zHf:K3 T rv rs .normal ⟨tm,ob⟩=Ret T rv ⟨tm,ob⟩ rs:=rfl
theorem zIm:tb.ty=tyT:=rfl
theorem zIf:tb.bt=4:=rfl
theorem zIj:tb.pt=38:=rfl
theorem zIk:tb.sx=9:=rfl
theorem zIl:tb.tk=39:=rfl
theorem zIi:tb.mv=27:=rfl
theorem zIg:tb.by'=22:=rfl
theorem zIh:tb.ik=ikT:=rfl
theorem zGN:LO T rv rs .ret ⟨tm,ob⟩=RetP T rv ⟨tm,ob⟩ rs:=rfl
theorem zGM:LO T rv rs .normal ⟨tm,ob⟩=RetP T rv ⟨tm,ob⟩ rs:=rfl
theorem zGL:S4 T rv rs .ret ⟨tm,ob⟩=RetN T rv ⟨tm,ob⟩ rs:=rfl
theorem zGK:S4 T rv rs .normal ⟨tm,ob⟩=RetN T rv ⟨tm,ob⟩ rs:=rfl
def Kl{α : Type}(I:α->St)(μ : α->Nat)(J:α->Prop)(a:α)(K:Exit->St->Prop):Exit->St->Prop:=fun e S'=>match e with
 | .normal=>∃a',J a'/\μ a' < μ a/\StW S' (I a')
 | e=>K e S'
variable{α:Type}
theorem zIr{I:α->St}{μ : α->Nat}{J:α->Prop}{a:α}:Kl I μ J a K .normal ⟨tm,ob⟩ = ∃b,J b/\μ b < μ a/\StW ⟨tm,ob⟩ (I b):=rfl
variable{S:St}
theorem zIt{I:α->St}{μ : α->Nat}{J:α->Prop}{a:α}{i:Nat}:Kl I μ J a K (.exit i) S=K (.exit i) S:=rfl
theorem zIs{I:α->St}{μ : α->Nat}{J:α->Prop}{a:α}:Kl I μ J a K .ret S=K .ret S:=rfl
theorem BC(I:α->St)(μ : α->Nat)(J:α->Prop)(d:α){c:Code}(o:StW S (I d))(l:J d)(h:∀a,J a->ev N T Γ n c (I a) (Kl I μ J a K)):ev N T Γ n (.loop c) S K:=by
 refine⟨fun m S=>∃a,J a/\μ a=m/\S=I a,μ d,I d,o,⟨d,l,rfl,rfl⟩,?_⟩;rintro m S ⟨a,k,rfl,rfl⟩;refine cast (congrArg (ev N T Γ n c (I a)) ?_) (h a k);funext e S';cases e<;>first | rfl | skip
 refine propext ⟨fun ⟨b,f,g,i⟩=>⟨μ b,I b,i,g,b,f,rfl,rfl⟩,?_⟩;rintro⟨p,j,f,g,b,i,rfl,rfl⟩;exact⟨b,i,g,f⟩
theorem zIO:Ksq N T Γ n b K .normal S=ev N T Γ n b S K:=rfl
theorem zIQ{i:Nat}:Ksq N T Γ n b K (.exit i) S=K (.exit i) S:=rfl
theorem zIP:Ksq N T Γ n b K .ret S=K .ret S:=rfl
theorem zIK:Kbl id K .normal S=K .normal S:=rfl
theorem zIM{i:Nat}:Kbl id K (.exit i) S=if i=id then K .normal S else K (.exit i) S:=rfl
theorem zIL:Kbl id K .ret S=K .ret S:=rfl
variable{f:St->Prop}
theorem zFv:runL N T Γ ops [] ⟨tm,ob⟩ f=f ⟨tm,ob⟩:=rfl
variable{r:List Oper}
theorem zDv{o:Oper}:runL N T Γ ops (o :: r) ⟨tm,ob⟩ f=bnd (stp N T Γ ops ⟨tm,ob⟩ o) (fun S=>runL N T Γ ops r S f):=by
 simp only[runL];cases stp N T Γ ops ⟨tm,ob⟩ o<;>rfl
variable{f:St->List Tc->Prop}
theorem zFw{ts:List Tc}:runT N T Γ ops [] ⟨tm,ob⟩ ts f=f ⟨tm,ob⟩ ts:=rfl
theorem zDw{o:Oper}{ts:List Tc}:runT N T Γ ops (o :: r) ⟨tm,ob⟩ ts f=bnd (stp N T Γ ops ⟨tm,ob⟩ o) (fun S=>runT N T Γ ops r S (ts ++ [tcAt T Γ ops ⟨tm,ob⟩ o]) f):=by
 simp only[runT];cases stp N T Γ ops ⟨tm,ob⟩ o<;>rfl
variable{f:St->Prop}
theorem zEU{q:Prop×St}:bnd (some q) f=(q.1/\f q.2):=rfl
theorem zET:bnd none f=False:=rfl
variable{d:Option Nat}{t:Nat}{pos:String}{a:Array Edge}{g:Option (Nat×Bool)}
theorem zFR{x y z:Operand}:stp N T Γ ops ⟨tm,ob⟩ ⟨d,.pick x y z,t,pos,a,g⟩=stpP N (gtmp ops ⟨d,.pick x y z,t,pos,a,g⟩) ⟨tm,ob⟩ x y z d:=rfl
variable{op:Op}
theorem zIF(h:∀x y z,op≠.pick x y z):stp N T Γ ops ⟨tm,ob⟩ ⟨d,op,t,pos,a,g⟩=stp0 N T Γ (gtmp ops ⟨d,op,t,pos,a,g⟩) ⟨tm,ob⟩ op d:=by
 unfold stp;split
 ·rename_i x y z e;exact absurd e (h x y z)
 ·rfl
def IN(N:Nat)(gt:Option (Option Nat×Bool))(κ : Bool)(l:List (Bool×Av))(tm:List (Nat×Bool×Av))(dst:Option Nat)(ob0:List (Nat×Ob)):Option Dl->Option (Prop×St)
 | some D=>match dst,D.av with
  | some d,some av=>if d<N then some (FQ κ l/\(κ = true->D.c),⟨put tm d (κ,av),obK κ ob0 D⟩)else none
  | none,none=>if gt.isSome then none else some (FQ κ l/\(κ = true->D.c),⟨tm,D.ob⟩)
  | _,_=>none
 | none=>match κ,dst with
  | false,some d=>if d<N then some (True,⟨put tm d (false,.m false [.v (.bool false)]),ob0⟩)else none
  | _,_=>none
def onK(f:Bool->List (Bool×Av)->Option (Prop×St)):Option Bool->Option (List (Bool×Av))->Option (Prop×St)
 | some κ,some l=>f κ l
 | _,_=>none
def Fc(N:Nat)(T:Tb)(Γ : List (Nat×AJ))(gt:Option (Option Nat×Bool))(tm:List (Nat×Bool×Av))(ob:List (Nat×Ob))(op:Op)(dst:Option Nat)(κ : Bool)(l:List (Bool×Av)):Option (Prop×St):=IN N gt κ l tm dst ob (BA T Γ dst ob op (l.map (·.2)))
variable{gt:Option (Option Nat×Bool)}
theorem zHJ:stp0 N T Γ gt ⟨tm,ob⟩ op dst=onK (Fc N T Γ gt tm ob op dst) (kap ⟨tm,ob⟩ gt) (opds ⟨tm,ob⟩ op.operands.toList):=by
 unfold stp0;cases kap ⟨tm,ob⟩ gt with
 | none=>rfl
 | some κ=>
  cases opds ⟨tm,ob⟩ op.operands.toList with
  | none=>rfl
  | some l=>
   simp only[onK,Fc,IN];cases BA T Γ dst ob op (l.map (·.2))<;>rfl
variable{κ:Bool}{l:List (Bool×Av)}
theorem zFa{f:Bool->List (Bool×Av)->Option (Prop×St)}:onK f (some κ) (some l)=f κ l:=rfl
theorem zIJ:Fc N T Γ gt tm ob op dst κ l=IN N gt κ l tm dst ob (BA T Γ dst ob op (l.map (·.2))):=rfl
variable{g:Option (Option Nat×Bool)}{a:List (Nat×Ob)}{d:Nat}{c:Prop}{av:Av}
theorem zHb{nw:Bool}:IN N g true l tm (some d) a (some ⟨c,some av,ob,nw⟩)=if d<N then some (FQ true l/\(true=true->c),⟨put tm d (true,av),ob⟩)else none:=rfl
theorem zHZ:IN N g κ l tm (some d) a (some ⟨c,some av,ob,false⟩)=if d<N then some (FQ κ l/\(κ = true->c),⟨put tm d (κ,av),ob⟩)else none:=by cases κ<;>rfl
theorem zHY:IN N g false l tm (some d) a (some ⟨c,some av,ob,true⟩)=if d<N then some (FQ false l/\(false=true->c),⟨put tm d (false,av),a⟩)else none:=rfl
theorem zHc:IN N g false l tm (some d) a none=if d<N then some (True,⟨put tm d (false,.m false [.v (.bool false)]),a⟩)else none:=rfl
theorem zHa{nw:Bool}:IN N none κ l tm none a (some ⟨c,none,ob,nw⟩)=some (FQ κ l/\(κ = true->c),⟨tm,ob⟩):=rfl
variable{h:Nat->Int}
theorem zEM{i j:Nat}:BF h i j = .v (.int .i64 (h i)):=rfl
variable{d:Option Nat}{a:Array Edge}
theorem zA9:gtmp ops ⟨d,op,t,pos,a,none⟩=none:=rfl
theorem zAA{j:Nat}{b:Bool}{os:List Oper}:gtmp os.toArray ⟨d,op,t,pos,a,some (j,b)⟩=some ((os[j]?).bind (·.dst),b):=by
 simp only[gtmp,List.getElem?_toArray];cases (os[j]?).bind (·.dst)<;>rfl
def onT(T:Tb)(Γ : List (Nat×AJ))(ob:List (Nat×Ob))(op:Op)(d:Option Nat)(rd:List Nat):Option (List (Bool×Av))->Tc
 | some l=>⟨rd,d,tks T Γ ob op d (l.map (·.2))⟩
 | none=>tc0
theorem zHO{g:Option (Nat×Bool)}:tcAt T Γ ops ⟨tm,ob⟩ ⟨d,op,t,pos,a,g⟩=onT T Γ ob op d (tmpsOf op.operands.toList ++ LK (gtmp ops ⟨d,op,t,pos,a,g⟩)) (opds ⟨tm,ob⟩ op.operands.toList):=by
 unfold tcAt onT;cases opds ⟨tm,ob⟩ op.operands.toList<;>rfl
theorem zFb{rd:List Nat}:onT T Γ ob op d rd (some l)=⟨rd,d,tks T Γ ob op d (l.map (·.2))⟩:=rfl
theorem zEZ:BA T Γ dst ob op []=coreU T Γ dst ob op []:=rfl
theorem zy{x:Av}{l:List Av}:BA T Γ dst ob op (x :: l)=coreU T Γ dst ob op (x :: l):=rfl
end
def ptrsT(ks kb:Nat->Int):Nat->Nat->Tr:=fun i c=>match c with
 | 0=>.v (.int .i64 (ks i))
 | 1=>.v (.int .i64 (kb i))
 | _=>.v (.bool false)
def Aw(fl:Fl)(s:Nat->AG):Nat->Nat->Tr:=fun i c=>match c with
 | 0=>.v (.int .i64 (s i).birth)
 | 1=>.s fl 2 (s i).kn (ptrsT (s i).ks (s i).kb)
 | _=>.v (.string (s i).data)
variable{ks kb:Nat->Int}
theorem zH7{i:Nat}:ptrsT ks kb i 0 = .v (.int .i64 (ks i)):=rfl
theorem zH8{i:Nat}:ptrsT ks kb i 1 = .v (.int .i64 (kb i)):=rfl
variable{fl:Fl}{s:Nat->AG}
theorem zG0{i:Nat}:Aw fl s i 0 = .v (.int .i64 (s i).birth):=rfl
theorem zG1{i:Nat}:Aw fl s i 1 = .s fl 2 (s i).kn (ptrsT (s i).ks (s i).kb):=rfl
theorem zG2{i:Nat}:Aw fl s i 2 = .v (.string (s i).data):=rfl
theorem zHt{x:Value}:(Tr.v x).lend = .v x:=rfl
variable{k n:Nat}{h:Nat->Int}
theorem zi:(Tr.s fl k n (BF h)).lend = .s .b k n (BF h):=rfl
variable{f g:Nat->Int}
theorem ME:(Tr.s fl k n (ptrsT f g)).lend = .s .b k n (ptrsT f g):=by
 simp only[Tr.lend];congr 1;funext i c
 match c with
 | 0=>rfl
 | 1=>rfl
 | c+2=>rfl
def EZ(f:Nat->Int)(a:Nat)(x:Int):Nat->Int:=fun i=>if i=a then x else f i
theorem QS{a:Nat}{x y:Int}:Ab (ptrsT f g) a 0 [.v (.int .i64 x),.v (.int .i64 y)]=ptrsT (EZ f a x) (EZ g a y):=by
 funext i c;by_cases h:i=a
 ·subst h
  match c with
  | 0=>simp[Ab,ptrsT,EZ]
  | 1=>simp[Ab,ptrsT,EZ]
  | c+2=>simp[Ab,ptrsT]
 ·match c with
  | 0=>simp[Ab,ptrsT,EZ,h]
  | 1=>simp[Ab,ptrsT,EZ,h]
  | c+2=>simp[Ab,ptrsT,h]
theorem zBL{a:Fl}:(Tr.s fl k n (Aw a s)).lend = .s .b k n (Aw .b s):=by
 simp only[Tr.lend];congr 1;funext i c
 match c with
 | 0=>rfl
 | 1=>exact ME
 | c+2=>rfl
theorem AB{f:Nat}{b:Code}(h:Tryz.prog.funcs[f]?=some fn)(a:fn.body=some b)(hn:(fn.name == "runtime.NumGoroutine")=false):Di Tryz.prog f:=fun args w=>by
 simp only[beq_eq_false_iff_ne,ne_eq]at hn;simp[callFunc,h,a,hn]
def CK:Tr->ByteArray
 | .v (.string x)=>x
 | _=>⟨#[]⟩
abbrev iT(x:Int):Bool×List Tr:=(false,[.v (.int .i64 x)])
abbrev pT(a b:Int):Bool×List Tr:=(true,[.v (.int .i64 a),.v (.int .i64 b)])
abbrev slT(s:AG):Bool×List Tr:=(true,[.v (.int .i64 s.birth),.s .b 2 s.kn (ptrsT s.ks s.kb),.v (.string s.data)])
abbrev poT(n:Nat)(s:Nat->AG)(hn:Nat)(h:Nat->Int):Bool×List Tr:=(true,[.s .b 3 n (Aw .b s),.s .b 1 hn (BF h)])
noncomputable abbrev bR (p:Prop):List (Bool×List Tr):=[(false,[.v (.bool (dB p))])]
def KH(a b c:Tr):AG:=⟨AQ a,DI b,fun i=>AQ (Br b i 0),fun i=>AQ (Br b i 1),CK c⟩
def Cs(a b:Tr):A5:=⟨DI a,fun i=>KH (Br a i 0) (Br a i 1) (Br a i 2),DI b,fun i=>AQ (Br b i 0)⟩
attribute [go_sem] Dz List.map_cons List.map_nil Tr.cv zHX zEh zGm zGl zHW zHr zHq zGk zIO zIQ zIP zIK zIM zIL zIr zIt zIs zFv zDv zFw zDw zEU zET zFR zIF zA9 zAA zHO zFb tmpsOf LK zHJ zFa zIJ zHb zHZ zHY zHc zHa stpP opds opd opdC kap FQ zEZ zy coreU bin CG PE get put dlO fgt zIm zIf zIj zIk tyT zHg zHf Op.operands Call.operands evLoad evLen evStore evAlloc KJ and_true true_and List.append_nil List.nil_append List.cons_append Ret resCv JB LX cellM Ef Mh E3 StW StR hpT hpO hpV hpA hpL hpC sg nin SW bdO tmW obW AvE CsE CvE Av.tup Av.ids Cv.ids inD ObE Ob.ids TrE.refl zEM zH7 zH8 zG0 zG1 zG2 zi ME zBL zHt FJ PF zIV evCall argL argOf ET outOb obO Ja D8 cvO tot Tr.own rid partsOf fillC MR Ea frz frz1 evBuildSlice zc trs Cv.tr evSlice Option.toArray_none Option.toArray_some evMakeSlice evAppend dstOf srcOf DL zIl zIi zIg zIh ikT zGN zGM zGL zGK RetP RetN Fu DV evLd evSt evStoreH JO evAppendM evAppendT tlOf mvOf rowE shp evTake oOf evC evCallP evCallN evCallO unlast CB DJ Ib argsF SO CU pmC varT vT evField evConv dB0 Option.bind_some Option.bind_none Option.map_some Option.map_none Option.isSome_some Option.isSome_none
def mIs:AJ:=AU (fun q:Int×Int×Int=>[iT q.1,iT q.2.1,iT q.2.2]) (fun _=>True) (fun q=>bR (q.2.1<=q.1/\q.1<=q.2.2))
theorem LS(x a b:Int):mIs [iT x,iT a,iT b]=some (True,bR (a<=x/\x<=b)):=Af (fun l=>(AQ (nth l 0 0),AQ (nth l 1 0),AQ (nth l 2 0))) (fun _=>rfl) (x,a,b)
theorem Lt:Am Tryz.prog 100 mIs:=by
 refine Az Al GOk.nil Ak Tryz.func100 rfl Tryz.ntmps100 Tryz.results100 7 ?_;rintro⟨x,a,b⟩ -;refine⟨by simp,?_⟩;simp[go_sem]
def qC:AJ:=AU (fun q:Int=>[iT q]) (fun _=>True) (fun q=>bR (DM q))
theorem Qu(x:Int):qC [iT x]=some (True,bR (DM x)):=Af (fun l=>AQ (nth l 0 0)) (fun _=>rfl) x
theorem Rg:Am Tryz.prog 148 qC:=by
 refine Az Al (GOk.cons Lt (AB Tryz.func100 rfl rfl) GOk.nil) Ak Tryz.func148 rfl Tryz.ntmps148 Tryz.results148 3 ?_;rintro x -;refine⟨by simp,?_⟩;simp[go_sem,LS,DM]
def zF:AJ:=AU (fun q:Nat×(Nat->Int)×Int=>[(false,[.s .b 1 q.1 (BF q.2.1)]),iT q.2.2]) (fun q=>q.1<=1000000) (fun q=>bR (Has q.1 q.2.1 q.2.2))
theorem KT(n:Nat)(h:Nat->Int)(x:Int):zF [(false,[.s .b 1 n (BF h)]),iT x]=some (n<=1000000,bR (Has n h x)):=Af (fun l=>(DI (nth l 0 0),fun i=>AQ (Br (nth l 0 0) i 0),AQ (nth l 1 0))) (fun _=>rfl) (n,h,x)
theorem MD:Am Tryz.prog 69 zF:=by
 refine Az Al GOk.nil Ak Tryz.func69 rfl Tryz.ntmps69 Tryz.results69 6 ?_;rintro⟨n,h,x⟩ hn;replace hn:n<=1000000:=hn;refine⟨by simp,?_⟩;simp[go_sem];refine BC (fun k:Nat=>⟨[(0,true,.m false [.s .b 1 n (BF h)]),(1,true,.i x),(5,true,.i k)],[]⟩) (fun k=>n - k) (fun k=>k<=n/\∀i,i<k->h i≠x) 0 (by simp[go_sem]) (by simp) ?_;rintro k ⟨d,a⟩;simp[go_sem,Ao (show k<=1000000000 by omega)];refine⟨fun c=>⟨c,fun e=>⟨k,c,e⟩,fun e=>⟨k+1,⟨by omega,Bu c a e⟩,by omega,rfl⟩⟩,fun c ⟨j,h1,h2⟩=>a j (by omega) h2⟩
def yM:AJ:=AU (fun s:AG=>[slT s]) (fun _=>True) (fun s=>bR (Ag s))
theorem Lw(s:AG):yM [slT s]=some (True,bR (Ag s)):=Af (fun l=>KH (nth l 0 0) (nth l 0 1) (nth l 0 2)) (fun _=>rfl) s
theorem OV:Am Tryz.prog 68 yM:=by
 refine Az Al GOk.nil Ak Tryz.func68 rfl Tryz.ntmps68 Tryz.results68 3 ?_;rintro s -;refine⟨by simp,?_⟩;simp[go_sem,Ag,and_assoc]
def yR:AJ:=AU (fun q:Int×Int=>[pT q.1 q.2]) (fun _=>True) (fun q=>bR (q.1=0/\q.2=0))
theorem GC(a b:Int):yR [pT a b]=some (True,bR (a=0/\b=0)):=Af (fun l=>(AQ (nth l 0 0),AQ (nth l 0 1))) (fun _=>rfl) (a,b)
theorem L4:Am Tryz.prog 95 yR:=by
 refine Az Al GOk.nil Ak Tryz.func95 rfl Tryz.ntmps95 Tryz.results95 3 ?_;rintro⟨a,b⟩ -;refine⟨by simp,?_⟩;simp[go_sem]
def TA:AJ:=AU (fun q:A5×Int×Int=>[poT q.1.n q.1.s q.1.hn q.1.h,pT q.2.1 q.2.2]) (fun q=>q.1.n<=1000000) (fun q=>bR (B5 q.1 q.2.1 q.2.2))
theorem RW(p:A5)(a b:Int):TA [poT p.n p.s p.hn p.h,pT a b]=some (p.n<=1000000,bR (B5 p a b)):=Af (fun l=>(Cs (nth l 0 0) (nth l 0 1),AQ (nth l 1 0),AQ (nth l 1 1))) (fun _=>rfl) (p,a,b)
theorem Rj:Am Tryz.prog 172 TA:=by
 refine Az Al GOk.nil Ak Tryz.func172 rfl Tryz.ntmps172 Tryz.results172 5 ?_;rintro⟨p,a,b⟩ hn;replace hn:p.n<=1000000:=hn;refine⟨by simp,?_⟩;simp[go_sem];exact⟨fun _ c d=>⟨c,d⟩,by kernel_rfl,by unfold B5;omega⟩
def yL:AJ:=AU (fun q:A5×AG=>[poT q.1.n q.1.s q.1.hn q.1.h,slT q.2]) (fun q=>q.1.n<=1000000) (fun q=>bR (Bm q.1 q.2))
theorem zFB(p:A5)(s:AG):yL [poT p.n p.s p.hn p.h,slT s]=some (p.n<=1000000,bR (Bm p s)):=Af (fun l=>(Cs (nth l 0 0) (nth l 0 1),KH (nth l 1 0) (nth l 1 1) (nth l 1 2))) (fun _=>rfl) (p,s)
theorem zBB:Am Tryz.prog 131 yL:=by
 refine Az Al (GOk.cons Rg (AB Tryz.func148 rfl rfl) (GOk.cons L4 (AB Tryz.func95 rfl rfl) (GOk.cons Rj (AB Tryz.func172 rfl rfl) GOk.nil))) Ak Tryz.func131 rfl Tryz.ntmps131 Tryz.results131 7 ?_;rintro⟨p,s⟩ hn;replace hn:p.n<=1000000:=hn;refine⟨by simp,?_⟩;simp[go_sem,Qu];refine⟨fun g h=>g h.1,fun g=>⟨fun l=>?_,fun l=>⟨fun a h=>?_,fun r q=>?_⟩⟩⟩
 ·unfold Bm;constructor
  ·exact fun h=>⟨g,.inl ⟨l,by omega⟩⟩
  ·rintro⟨-,h | h⟩<;>omega
 ·rcases h.2 with h | h
  ·omega
  ·rcases a with a | a
   ·omega
   ·exact a (by simpa using h.2.1)
 refine BC (fun k:Nat=>⟨[(2,true,.m false [.p 2 0]),(3,true,.m false [.p 3 0]),(5,true,.i k)],[(2,.var [.s .b 3 p.n (Aw .b p.s),.s .b 1 p.hn (BF p.h)]),(3,.var [.v (.int .i64 s.birth),.s .b 2 s.kn (ptrsT s.ks s.kb),.v (.string s.data)])]⟩) (fun k=>s.kn - k) (fun k=>k<=s.kn/\∀i,i<k->Mx p s.birth (s.ks i) (s.kb i)) 0 (by simp[go_sem]) (by simp) ?_;rintro k ⟨t,d⟩;simp[go_sem,Ao (show k<=1000000000 by omega),GC,RW,hn];refine⟨fun j=>⟨j,fun a c=>⟨a,c⟩,fun a c h=>?_,fun a=>⟨k+1,⟨by omega,Bu j d ?_⟩,by omega,rfl⟩⟩,fun j=>⟨g,.inr ⟨by omega,by simp[q],fun i hi=>d i (by omega)⟩⟩⟩
 ·rcases h.2 with h | h
  ·omega
  ·rcases h.2.2 k j with f | f
   ·exact a f.1 f.2
   ·rcases c with c | c
    ·exact c f.1
    ·omega
 ·by_cases c:s.ks k=0/\s.kb k=0
  ·exact .inl c
  ·exact .inr (a (fun e o=>c ⟨e,o⟩))
def PS:AJ:=AU (fun p:A5=>[poT p.n p.s p.hn p.h]) (fun p=>p.n<=1000000/\p.hn<=1000000) (fun p=>bR (AY p))
theorem OK(p:A5):PS [poT p.n p.s p.hn p.h]=some (p.n<=1000000/\p.hn<=1000000,bR (AY p)):=Af (fun l=>Cs (nth l 0 0) (nth l 0 1)) (fun _=>rfl) p
theorem P4:Am Tryz.prog 62 PS:=by
 refine Az Al (GOk.cons OV (AB Tryz.func68 rfl rfl) (GOk.cons MD (AB Tryz.func69 rfl rfl) (GOk.cons zBB (AB Tryz.func131 rfl rfl) GOk.nil))) Ak Tryz.func62 rfl Tryz.ntmps62 Tryz.results62 6 ?_;rintro p ⟨hn,u⟩;refine⟨by simp,?_⟩;simp[go_sem];refine⟨fun o h=>?_,fun o=>?_⟩
 ·have:=h.1;omega
 refine BC (fun k:Nat=>⟨[(1,true,.m false [.p 1 0]),(3,true,.i k)],[(1,.var [.s .b 3 p.n (Aw .b p.s),.s .b 1 p.hn (BF p.h)])]⟩) (fun k=>p.n - k) (fun k=>k<=p.n/\∀i,i<k->Ag (p.s i)\/Bm p (p.s i)) 0 (by simp[go_sem]) (by simp) ?_;rintro k ⟨x,e⟩;simp[go_sem,Ao (show k<=1000000000 by omega),Lw,zFB,hn];refine⟨fun c=>⟨c,fun _=>c,by kernel_rfl,?_⟩,fun c=>?_⟩
 ·exact⟨fun a f h=>(h.2.1 k c).elim a f,fun h=>⟨k+1,⟨by omega,Bu c e (Classical.or_iff_not_imp_left.2 h)⟩,by omega,rfl⟩⟩
 refine BC (fun j:Nat=>⟨[(4,true,.i j),(1,true,.m false [.p 1 0])],[(1,.var [.s .b 3 p.n (Aw .b p.s),.s .b 1 p.hn (BF p.h)])]⟩) (fun j=>p.hn - j) (fun j=>j<=p.hn/\∀i,i<j->Zh p i) 0 (by simp[go_sem]) (by simp) ?_;rintro j ⟨t,d⟩;simp[go_sem,Ao (show j<=1000000000 by omega),Lw,KT,u];refine⟨fun c=>⟨c,fun _ _ _=>t,fun _ _ _=>by omega,fun a h=>?_,fun a f q r=>⟨j+1,⟨by omega,Bu c d ⟨a,f,q,r⟩⟩,by omega,rfl⟩⟩,fun c=>⟨by omega,fun i hi=>e i (by omega),fun i hi=>d i (by omega)⟩⟩;obtain⟨v,w,g,l⟩:=h.2.2 j c;rcases a with(a | a) | a
 ·omega
 ·exact g a
 ·exact l a
set_option maxRecDepth 20000
set_option maxHeartbeats 1600000
variable{F G:Nat->Nat->Tr}
theorem GX:Ah F 0 G=G:=by
 funext p q;simp[Ah]
variable{a:Nat->Int}
theorem HJ{b:Nat->Int}:(fun p q=>(ptrsT a b p q).nt)=ptrsT a b:=by
 funext p q;unfold ptrsT;split<;>rfl
theorem TQ:(fun p q=>(BF a p q).nt)=BF a:=rfl
def DD{α : Type}(enc:α->Nat->Tr)(d:α)(l:List α):Nat->Nat->Tr:=fun i c=>enc (l[i]?.getD d) c
section
variable {α : Type} {enc : α -> Nat -> Tr} {d : α} {l m : List α} {fl : Fl} {k : Nat}
theorem Gd(h:l=m):TrE (.s fl k l.length (DD enc d l)) (.s fl k m.length (DD enc d m)):=h▸TrE.refl _
theorem KZ(h:m = []):TrE (.s fl k 0 F) (.s fl k m.length (DD enc d m)):=by
 subst h;exact⟨.inl rfl,rfl,rfl,fun i j hi=>by omega⟩
theorem zHA{e:Nat}{x:List α}(b:e=x.length)(hF:∀i,(h:i<x.length)->∀j,j<k->F i j=enc x[i] j)(h:l ++ x=m):TrE (.s fl k (l.length+e) (Ah (DD enc d l) l.length F)) (.s fl k m.length (DD enc d m)):=by
 subst h b;refine⟨.inl rfl,rfl,by simp,fun i j hi c=>TrE.of_eq ?_⟩;by_cases a:i<l.length
 ·simp[Ah,DD,a,List.getElem?_append_left a]
 ·simp only[Ah,DD,if_neg a];rw[hF (i - l.length) (by omega) j c,List.getElem?_append_right (by omega),List.getElem?_eq_getElem (by omega)];rfl
theorem GF{ts:List Tr}{x:α}(c:∀j,j<k->(ts[j]?.getD (.v (.bool false))).nt=enc x j)(h:l ++ [x]=m):TrE (.s fl k (l.length+1) (Ah (DD enc d l) l.length (fun p q=>(ts[p*k+q]?.getD (.v (.bool false))).nt))) (.s fl k m.length (DD enc d m)):=by
 refine zHA (x:=[x]) rfl (fun i hi j b=>?_) h;have a:i=0:=by simpa using hi
 subst a;simpa using c j b
theorem zFq(h:∀x j,j<k->(enc x j).kept):(Tr.s .o k n (DD enc d l)).kept:=⟨by simp,fun i j _ a=>h _ j a⟩
end
def encP(x:Int×Int):Nat->Tr
 | 0=>.v (.int .i64 x.1)
 | 1=>.v (.int .i64 x.2)
 | _=>.v (.bool false)
abbrev ptL(l:List (Int×Int)):Nat->Nat->Tr:=DD encP (0,0) l
theorem zI2(l:List (Int×Int)):ptL l=ptrsT (fun i=>(l[i]?.getD (0,0)).1) (fun i=>(l[i]?.getD (0,0)).2):=by
 funext i c
 match c with
 | 0=>rfl
 | 1=>rfl
 | c+2=>rfl
theorem Hu{a b:Int}:∀j,j<2->([Tr.v (Value.int .i64 a),Tr.v (Value.int .i64 b)][j]?.getD (.v (.bool false))).nt=encP (a,b) j
 | 0,_=>rfl
 | 1,_=>rfl
theorem Gc{l:List (Int×Int)}:(Tr.s .o 2 n (ptL l)).kept:=zFq fun x j _=>by unfold encP;split<;>trivial
theorem Ks{b:Nat->Int}:(Tr.s .o 2 n (ptrsT a b)).kept↔True:=by
 refine⟨fun _=>trivial,fun _=>⟨by simp,fun i j _ _=>?_⟩⟩;unfold ptrsT;split<;>trivial
abbrev slO(s:AG):Bool×List Tr:=(true,[.v (.int .i64 s.birth),.s .o 2 s.kn (ptrsT s.ks s.kb),.v (.string s.data)])
def ye:AJ:=AU (fun s:AG=>[slT s]) (fun s=>s.kn<=1000000) (fun s=>[slO s])
theorem zFK(s:AG):ye [slT s]=some (s.kn<=1000000,[slO s]):=Af (fun l=>KH (nth l 0 0) (nth l 0 1) (nth l 0 2)) (fun _=>rfl) s
theorem zBD:Am Tryz.prog 149 ye:=by
 refine Az Al GOk.nil Ak Tryz.func149 rfl Tryz.ntmps149 Tryz.results149 3 ?_;rintro s hn;replace hn:s.kn<=1000000:=hn;refine⟨by simp,?_⟩;simp[go_sem,GX,HJ,Ks];omega
def zO:AJ:=AU (fun q:Nat×(Nat->Int)×(Nat->Int)=>[(false,[.s .b 2 q.1 (ptrsT q.2.1 q.2.2)])]) (fun q=>q.1<=1000000) (fun q=>[(false,[.s .o 2 (kidsUp q.2.1 q.2.2 q.1).length (ptL (kidsUp q.2.1 q.2.2 q.1))])])
theorem T7(n:Nat)(f g:Nat->Int):zO [(false,[.s .b 2 n (ptrsT f g)])]=some (n<=1000000,[(false,[.s .o 2 (kidsUp f g n).length (ptL (kidsUp f g n))])]):=Af (fun l=>(DI (nth l 0 0),fun i=>AQ (Br (nth l 0 0) i 0),fun i=>AQ (Br (nth l 0 0) i 1))) (fun _=>rfl) (n,f,g)
theorem Vl:Am Tryz.prog 93 zO:=by
 refine Az Al (GOk.cons L4 (AB Tryz.func95 rfl rfl) GOk.nil) Ak Tryz.func93 rfl Tryz.ntmps93 Tryz.results93 5 ?_;rintro⟨n,f,g⟩ hn;replace hn:n<=1000000:=hn;refine⟨by simp,?_⟩;simp[go_sem];refine BC (fun k:Nat=>⟨[(3,true,.m false [.h 7]),(0,true,.m false [.s .b 2 n (ptrsT f g)]),(4,true,.i k)],[(7,.row 2 (kidsUp f g k).length (ptL (kidsUp f g k)))]⟩) (fun k=>n - k) (fun k=>k<=n) 0 (by simp[go_sem,kidsUp];exact KZ rfl) (by simp) ?_;rintro k j;have l:=II f g k;simp[go_sem,Ao (show k<=1000000000 by omega),GC];refine⟨fun a=>⟨a,fun h=>⟨a,by omega,k+1,by omega,by omega,by omega,GF Hu (by simp[kidsUp,one,Nil,show ¬(f k=0/\g k=0)from fun e=>h e.1 e.2])⟩,fun c d=>⟨k+1,by omega,by omega,by omega,Gd (by simp[kidsUp,one,Nil,c,d])⟩⟩,fun a=>?_⟩;cases (show k=n from by omega);exact⟨Gd rfl,Gc⟩
def yg:AJ:=AU (fun q:Nat×(Nat->Int)×(Nat->Int)=>[(false,[.s .b 2 q.1 (ptrsT q.2.1 q.2.2)])]) (fun q=>q.1<=1000000) (fun q=>bR (kidsUp q.2.1 q.2.2 q.1≠[]))
theorem zFL(n:Nat)(f g:Nat->Int):yg [(false,[.s .b 2 n (ptrsT f g)])]=some (n<=1000000,bR (kidsUp f g n≠[])):=Af (fun l=>(DI (nth l 0 0),fun i=>AQ (Br (nth l 0 0) i 0),fun i=>AQ (Br (nth l 0 0) i 1))) (fun _=>rfl) (n,f,g)
theorem zBG:Am Tryz.prog 96 yg:=by
 refine Az Al (GOk.cons Vl (AB Tryz.func93 rfl rfl) GOk.nil) Ak Tryz.func96 rfl Tryz.ntmps96 Tryz.results96 3 ?_;rintro⟨n,f,g⟩ hn;replace hn:n<=1000000:=hn;refine⟨by simp,?_⟩;simp[go_sem,T7,hn];exact List.length_pos_iff
def T6:AJ:=AU (fun q:Int=>[iT q]) (fun _=>True) (fun q=>bR (0<=q/\q<=63))
theorem OZ(x:Int):T6 [iT x]=some (True,bR (0<=x/\x<=63)):=Af (fun l=>AQ (nth l 0 0)) (fun _=>rfl) x
theorem Z5:Am Tryz.prog 87 T6:=by
 refine Az Al (GOk.cons Lt (AB Tryz.func100 rfl rfl) GOk.nil) Ak Tryz.func87 rfl Tryz.ntmps87 Tryz.results87 3 ?_;rintro x -;refine⟨by simp,?_⟩;simp[go_sem,LS]
def yQ:AJ:=AU (fun q:A5×Int×Int=>[poT q.1.n q.1.s q.1.hn q.1.h,pT q.2.1 q.2.2]) (fun q=>q.1.n<=1000000/\q.1.hn<=1000000) (fun q=>bR (DO q.1 q.2.1 q.2.2))
theorem VB(p:A5)(a b:Int):yQ [poT p.n p.s p.hn p.h,pT a b]=some (p.n<=1000000/\p.hn<=1000000,bR (DO p a b)):=Af (fun l=>(Cs (nth l 0 0) (nth l 0 1),AQ (nth l 1 0),AQ (nth l 1 1))) (fun _=>rfl) (p,a,b)
theorem zBE:Am Tryz.prog 132 yQ:=by
 refine Az Al (GOk.cons Rj (AB Tryz.func172 rfl rfl) (GOk.cons MD (AB Tryz.func69 rfl rfl) GOk.nil)) Ak Tryz.func132 rfl Tryz.ntmps132 Tryz.results132 5 ?_;rintro⟨p,a,b⟩ ⟨hn,c⟩;replace hn:p.n<=1000000:=hn;replace c:p.hn<=1000000:=c;refine⟨by simp,?_⟩;simp[go_sem,RW,KT,hn,c];exact⟨fun h=>⟨h.2.1,h.2.2.1⟩,and_assoc⟩
def yU:AJ:=AU (fun q:A5×Int×Int=>[poT q.1.n q.1.s q.1.hn q.1.h,pT q.2.1 q.2.2]) (fun q=>q.1.n<=1000000/\q.1.hn<=1000000) (fun q=>bR (El q.1 q.2.1 q.2.2))
theorem zFD(p:A5)(a b:Int):yU [poT p.n p.s p.hn p.h,pT a b]=some (p.n<=1000000/\p.hn<=1000000,bR (El p a b)):=Af (fun l=>(Cs (nth l 0 0) (nth l 0 1),AQ (nth l 1 0),AQ (nth l 1 1))) (fun _=>rfl) (p,a,b)
theorem zBF:Am Tryz.prog 133 yU:=by
 refine Az Al (GOk.cons Rj (AB Tryz.func172 rfl rfl) (GOk.cons MD (AB Tryz.func69 rfl rfl) GOk.nil)) Ak Tryz.func133 rfl Tryz.ntmps133 Tryz.results133 5 ?_;rintro⟨p,a,b⟩ ⟨hn,c⟩;replace hn:p.n<=1000000:=hn;replace c:p.hn<=1000000:=c;refine⟨by simp,?_⟩;simp[go_sem,RW,KT,hn,c];exact⟨fun h=>⟨h.2.1,h.2.2.1⟩,and_assoc⟩
set_option maxRecDepth 20000
set_option maxHeartbeats 1600000
theorem Bg:(Tr.s .o 3 n (Aw .z s)).kept:=⟨by simp,fun i j _ d=>match j,d with
 | 0,_=>trivial
 | 1,_=>⟨by simp,fun a b _ c=>match b,c with
  | 0,_=>trivial
  | 1,_=>trivial⟩
 | 2,_=>trivial⟩
theorem Bq:(Tr.s .o 1 n (BF h)).kept:=⟨by simp,fun i j _ _=>trivial⟩
theorem zFs(h:∀j,j<k->G 0 j=F n j):TrE (.s fl k (n+1) (Ah F n G)) (.s fl k (n+1) F):=by
 refine⟨.inl rfl,rfl,rfl,fun i j hi b=>TrE.of_eq ?_⟩;unfold Ah;by_cases a:i<n
 ·rw[if_pos a]
 ·cases (show i=n by omega);rw[if_neg a,Nat.sub_self,h j b]
abbrev poO(p:A5):Bool×List Tr:=(true,[.s .o 3 p.n (Aw .z p.s),.s .o 1 p.hn (BF p.h)])
def qx:AJ:=AU (fun p:A5=>[poT p.n p.s p.hn p.h]) (fun p=>p.n<=1000000/\p.hn<=1000000/\∀i,i<p.n->(p.s i).kn<=1000000) (fun p=>[poO p])
theorem Lu(p:A5):qx [poT p.n p.s p.hn p.h]=some (p.n<=1000000/\p.hn<=1000000/\∀i,i<p.n->(p.s i).kn<=1000000,[poO p]):=Af (fun l=>Cs (nth l 0 0) (nth l 0 1)) (fun _=>rfl) p
theorem OU:Am Tryz.prog 89 qx:=by
 refine Az Al (GOk.cons zBD (AB Tryz.func149 rfl rfl) GOk.nil) Ak Tryz.func89 rfl Tryz.ntmps89 Tryz.results89 5 ?_;rintro p ⟨hn,d,f⟩;replace hn:p.n<=1000000:=hn;replace d:p.hn<=1000000:=d;refine⟨by simp,?_⟩;simp[go_sem,GX,TQ];refine⟨by omega,?_⟩;refine BC (fun k:Nat=>⟨[(4,true,.i k),(3,true,.m false [.p 3 0]),(2,true,.m false [.p 2 0]),(1,true,.m false [.p 1 0])],[(3,.var [.h 7,.h 8]),(7,.row 3 k (Aw .z p.s)),(8,.row 1 p.hn (BF p.h)),(2,.var [.v n0,.v n0]),(1,.var [.s .b 3 p.n (Aw .b p.s),.s .b 1 p.hn (BF p.h)])]⟩) (fun k=>p.n - k) (fun k=>k<=p.n) 0 ?_ (by simp) ?_
 ·simp[go_sem];exact TrE.refl (.s .o 1 p.hn (BF p.h))
 rintro k g;simp[go_sem,Ao (show k<=1000000000 by omega),zFK];refine⟨fun c=>?_,fun c=>?_⟩
 ·have a:=f k c;refine⟨c,a,by omega,by kernel_rfl,k+1,by omega,by omega,by omega,zFs fun j e=>?_⟩
  match j,e with
  | 0,_=>rfl
  | 1,_=>rfl
  | 2,_=>rfl
 ·cases (show k=p.n by omega);exact⟨⟨TrE.refl _,Bg⟩,Bq⟩
def GN(x:Int):Nat:=if 0<=x/\x<=200 then x.toNat else 0
def yT:AJ:=AU (fun x:Int=>[iT x]) (fun _=>True) (fun x=>[poO (Ck (GN x))])
theorem zFC(x:Int):yT [iT x]=some (True,[poO (Ck (GN x))]):=Af (fun l=>AQ (nth l 0 0)) (fun _=>rfl) x
theorem zBQ:Am Tryz.prog 101 yT:=by
 refine Az Al GOk.nil Ak Tryz.func101 rfl Tryz.ntmps101 Tryz.results101 5 ?_;rintro x -;refine⟨by simp,?_⟩;simp[go_sem];refine BC (fun k:Nat=>⟨[(4,true,.i k),(0,true,.i x),(3,true,.m false [.p 3 0]),(2,true,.m false [.p 2 0])],[(3,.var [.h 7,.v n0]),(7,.row 3 k (Aw .z fun _=>EQ)),(2,.var [.v n0,.v n0])]⟩) (fun k=>200 - k) (fun k=>k<=GN x) 0 (by simp[go_sem]) (by simp) ?_;rintro k n;have o:GN x<=200:=by unfold GN;split<;>omega
 have g:IntKind.i64.wrap ((k:Int)+1)=(k+1:Nat):=by simpa using Ao (show k<=1000000000 by omega)
 simp[go_sem,Ck];refine⟨fun l d=>?_,fun h=>?_⟩
 ·have c:GN x=x.toNat:=if_pos ⟨by omega,d⟩;refine⟨by omega,k+1,by omega,by omega,g,?_⟩;refine⟨.inl rfl,rfl,rfl,fun i j hi f=>?_⟩;unfold Ah;by_cases b:i<k
  ·rw[if_pos b];exact TrE.refl _
  ·cases (show i=k by omega);rw[if_neg b,Nat.sub_self]
   match j,f with
   | 0,_=>rfl
   | 1,_=>exact⟨rfl,rfl⟩
   | 2,_=>rfl
 ·have c:k=GN x:=by
   by_cases a:0<=x/\x<=200
   ·have e:GN x=x.toNat:=if_pos a;omega
   ·have e:GN x=0:=if_neg a;omega
  rw[c];exact⟨TrE.refl _,Bg⟩
end
end Go.Proofs.YtehdoekmnicdiaaGreatDoor
