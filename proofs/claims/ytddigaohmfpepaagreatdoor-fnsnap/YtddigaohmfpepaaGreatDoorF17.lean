/- A part of the proof. -/
import Derived.Test.YtddigaohmfpepaaGreatDoorRows
import Derived.Test.YtddigaohmfpepaaGreatDoorF12
import Derived.ChangeSame
import Derived.ChangeVars
import Derived.JoinedOf
import Derived.LaidLaws
import Derived.Stop.LaidTwo
import Derived.Stop.Joined
import Derived.Stop.ErrReads
import Derived.MakeChecks
import Derived.OpenShut
import Derived.ChangeOld
set_option linter.unusedVariables false
set_option maxRecDepth 20000
set_option maxHeartbeats 4000000
namespace Go.Proofs.YtddigaohmfpepaaGreatDoor
noncomputable section
open Go.ChangeShapes Go.WideShapes Go.RowKit
set_option maxRecDepth 100000
abbrev LF:List (String×DataW Unit):=[("loop.example/g00381/impl.errForm",Rows.laid_loop_example_g00381_impl_errForm),("loop.example/g00381/impl.errSize",Rows.laid_loop_example_g00381_impl_errSize),("loop.example/g00381/impl.errNone",Rows.laid_loop_example_g00381_impl_errNone),("loop.example/g00381/impl.errThere",Rows.laid_loop_example_g00381_impl_errThere),("loop.example/g00381/impl.errFull",Rows.laid_loop_example_g00381_impl_errFull),("loop.example/g00381/impl.errState",Rows.laid_loop_example_g00381_impl_errState),("loop.example/g00381/impl.errRange",Rows.laid_loop_example_g00381_impl_errRange)]
def errN:Nat->String
 | 0=> "loop.example/g00381/impl.errForm"
 | 1=> "loop.example/g00381/impl.errSize"
 | 2=> "loop.example/g00381/impl.errNone"
 | 3=> "loop.example/g00381/impl.errThere"
 | 4=> "loop.example/g00381/impl.errFull"
 | 5=> "loop.example/g00381/impl.errState"
 | _=> "loop.example/g00381/impl.errRange"
theorem EP(i:Nat)(h:i<7):Tryz.prog.globalNamed (errN i)=some (errG i)/\(Tryz.prog.globals[errG i]?).map (·.type)=some 59:=by
 match i,h with
 | 0,_=>exact⟨by kernel_rfl,by kernel_rfl⟩
 | 1,_=>exact⟨by kernel_rfl,by kernel_rfl⟩
 | 2,_=>exact⟨by kernel_rfl,by kernel_rfl⟩
 | 3,_=>exact⟨by kernel_rfl,by kernel_rfl⟩
 | 4,_=>exact⟨by kernel_rfl,by kernel_rfl⟩
 | 5,_=>exact⟨by kernel_rfl,by kernel_rfl⟩
 | 6,_=>exact⟨by kernel_rfl,by kernel_rfl⟩
theorem Th : "*" ++ "errors.errorString" = "*errors.errorString" :=by decide
theorem JS(u:TypeId)(h:Tryz.prog.typeName? 3 u=some "*errors.errorString"):u=233:=
 typeName_ptr_named (nm:= "errors.errorString") (by rw[Th];kernel_rfl) (by kernel_rfl) (by decide) u (by rw[Th];exact h)
theorem Jf:Tryz.prog.cellsOf 259=1:=by kernel_rfl
theorem Ji:Tryz.prog.cellsOf 9=1:=by kernel_rfl
theorem zC6{W:World}(h:laidMetH Tryz.prog LF W):∃p:Nat->Addr,D8 W p/\∀i,i<7->W.var? Tryz.prog (errN i)=some #[Af (p i)]:=by
 rw[MakeChecks.laidMetH_plain _ _ _ (by kernel_rfl)]at h;obtain⟨ps,⟨g0,t0,G,f0,p0,q0,q,U,z,N,⟨g1,t1,H,f1,p1,q1,r,V,A,O,⟨g2,t2,I,f2,p2,q2,s,X,B,P,⟨g3,t3,J,f3,p3,q3,t,Y,C,Q,⟨g4,t4,K,f4,p4,q4,w,Z,D,R,⟨g5,t5,L,f5,p5,q5,x,aA,E,S,⟨g6,t6,M,f6,p6,q6,y,bA,F,T,_,e6⟩,e5⟩,e4⟩,e3⟩,e2⟩,e1⟩,e0⟩,a,b⟩:=h;obtain rfl:=Option.some.inj ((EP 0 (by omega)).1.symm.trans q);obtain rfl:=Option.some.inj ((EP 0 (by omega)).2.symm.trans U);obtain rfl:=Option.some.inj ((EP 1 (by omega)).1.symm.trans r);obtain rfl:=Option.some.inj ((EP 1 (by omega)).2.symm.trans V);obtain rfl:=Option.some.inj ((EP 2 (by omega)).1.symm.trans s);obtain rfl:=Option.some.inj ((EP 2 (by omega)).2.symm.trans X);obtain rfl:=Option.some.inj ((EP 3 (by omega)).1.symm.trans t);obtain rfl:=Option.some.inj ((EP 3 (by omega)).2.symm.trans Y);obtain rfl:=Option.some.inj ((EP 4 (by omega)).1.symm.trans w);obtain rfl:=Option.some.inj ((EP 4 (by omega)).2.symm.trans Z);obtain rfl:=Option.some.inj ((EP 5 (by omega)).1.symm.trans x);obtain rfl:=Option.some.inj ((EP 5 (by omega)).2.symm.trans aA);obtain rfl:=Option.some.inj ((EP 6 (by omega)).1.symm.trans y);obtain rfl:=Option.some.inj ((EP 6 (by omega)).2.symm.trans bA);subst e6;subst e5;subst e4;subst e3;subst e2;subst e1;subst e0;obtain⟨l0⟩:=G;have cA:∀u v,l0 = [.iface u v]->Value.okWide Tryz.prog W .any 0 u v:=fun u v e=>by
  subst e;exact(b (errG 0) 0 (by simp[MemPlace.row])).2 u v (by simpa using World.var?_cell q z 0)
 obtain⟨d,s0,rfl,rA,fB,nB,rfl⟩:=errorString_of_trod Tryz.underlying59 JS Tryz.underlying233 Tryz.underlying259 rfl rfl Tryz.underlying9 Jf Ji N cA;obtain⟨l1⟩:=H;have dA:∀u v,l1 = [.iface u v]->Value.okWide Tryz.prog W .any 0 u v:=fun u v e=>by
  subst e;exact(b (errG 1) 0 (by simp[MemPlace.row])).2 u v (by simpa using World.var?_cell r A 0)
 obtain⟨f,s1,rfl,sA,gB,oB,rfl⟩:=errorString_of_trod Tryz.underlying59 JS Tryz.underlying233 Tryz.underlying259 rfl rfl Tryz.underlying9 Jf Ji O dA;obtain⟨l2⟩:=I;have eA:∀u v,l2 = [.iface u v]->Value.okWide Tryz.prog W .any 0 u v:=fun u v e=>by
  subst e;exact(b (errG 2) 0 (by simp[MemPlace.row])).2 u v (by simpa using World.var?_cell s B 0)
 obtain⟨g,s2,rfl,tA,iB,pB,rfl⟩:=errorString_of_trod Tryz.underlying59 JS Tryz.underlying233 Tryz.underlying259 rfl rfl Tryz.underlying9 Jf Ji P eA;obtain⟨l3⟩:=J;have fA:∀u v,l3 = [.iface u v]->Value.okWide Tryz.prog W .any 0 u v:=fun u v e=>by
  subst e;exact(b (errG 3) 0 (by simp[MemPlace.row])).2 u v (by simpa using World.var?_cell t C 0)
 obtain⟨k,s3,rfl,vA,jB,rB,rfl⟩:=errorString_of_trod Tryz.underlying59 JS Tryz.underlying233 Tryz.underlying259 rfl rfl Tryz.underlying9 Jf Ji Q fA;obtain⟨l4⟩:=K;have gA:∀u v,l4 = [.iface u v]->Value.okWide Tryz.prog W .any 0 u v:=fun u v e=>by
  subst e;exact(b (errG 4) 0 (by simp[MemPlace.row])).2 u v (by simpa using World.var?_cell w D 0)
 obtain⟨l,s4,rfl,aB,kB,sB,rfl⟩:=errorString_of_trod Tryz.underlying59 JS Tryz.underlying233 Tryz.underlying259 rfl rfl Tryz.underlying9 Jf Ji R gA;obtain⟨l5⟩:=L;have iA:∀u v,l5 = [.iface u v]->Value.okWide Tryz.prog W .any 0 u v:=fun u v e=>by
  subst e;exact(b (errG 5) 0 (by simp[MemPlace.row])).2 u v (by simpa using World.var?_cell x E 0)
 obtain⟨m,s5,rfl,bB,lB,tB,rfl⟩:=errorString_of_trod Tryz.underlying59 JS Tryz.underlying233 Tryz.underlying259 rfl rfl Tryz.underlying9 Jf Ji S iA;obtain⟨l6⟩:=M;have jA:∀u v,l6 = [.iface u v]->Value.okWide Tryz.prog W .any 0 u v:=fun u v e=>by
  subst e;exact(b (errG 6) 0 (by simp[MemPlace.row])).2 u v (by simpa using World.var?_cell y F 0)
 obtain⟨n,s6,rfl,cB,mB,vB,rfl⟩:=errorString_of_trod Tryz.underlying59 JS Tryz.underlying233 Tryz.underlying259 rfl rfl Tryz.underlying9 Jf Ji T jA;refine⟨fun | 0=>d | 1=>f | 2=>g | 3=>k | 4=>l | 5=>m | _=>n,⟨fun i hi=>?_,fun i hi=>?_,fun i j hi hj o c=>?_⟩,fun i hi=>?_⟩
 ·match i,hi with
  | 0,_=>simpa using World.var?_cell q z 0
  | 1,_=>simpa using World.var?_cell r A 0
  | 2,_=>simpa using World.var?_cell s B 0
  | 3,_=>simpa using World.var?_cell t C 0
  | 4,_=>simpa using World.var?_cell w D 0
  | 5,_=>simpa using World.var?_cell x E 0
  | 6,_=>simpa using World.var?_cell y F 0
 ·match i,hi with
  | 0,_=>exact(b d.block d.off (by simp[MemPlace.row])).1
  | 1,_=>exact(b f.block f.off (by simp[MemPlace.row])).1
  | 2,_=>exact(b g.block g.off (by simp[MemPlace.row])).1
  | 3,_=>exact(b k.block k.off (by simp[MemPlace.row])).1
  | 4,_=>exact(b l.block l.off (by simp[MemPlace.row])).1
  | 5,_=>exact(b m.block m.off (by simp[MemPlace.row])).1
  | 6,_=>exact(b n.block n.off (by simp[MemPlace.row])).1
 ·simp only[MemPlace.row]at a
  match i,hi,j,hj with
  | 0,_,0,_=>exact absurd rfl o
  | 0,_,1,_=>obtain rfl:d=f:=c;simp at a
  | 0,_,2,_=>obtain rfl:d=g:=c;simp at a
  | 0,_,3,_=>obtain rfl:d=k:=c;simp at a
  | 0,_,4,_=>obtain rfl:d=l:=c;simp at a
  | 0,_,5,_=>obtain rfl:d=m:=c;simp at a
  | 0,_,6,_=>obtain rfl:d=n:=c;simp at a
  | 1,_,0,_=>obtain rfl:f=d:=c;simp at a
  | 1,_,1,_=>exact absurd rfl o
  | 1,_,2,_=>obtain rfl:f=g:=c;simp at a
  | 1,_,3,_=>obtain rfl:f=k:=c;simp at a
  | 1,_,4,_=>obtain rfl:f=l:=c;simp at a
  | 1,_,5,_=>obtain rfl:f=m:=c;simp at a
  | 1,_,6,_=>obtain rfl:f=n:=c;simp at a
  | 2,_,0,_=>obtain rfl:g=d:=c;simp at a
  | 2,_,1,_=>obtain rfl:g=f:=c;simp at a
  | 2,_,2,_=>exact absurd rfl o
  | 2,_,3,_=>obtain rfl:g=k:=c;simp at a
  | 2,_,4,_=>obtain rfl:g=l:=c;simp at a
  | 2,_,5,_=>obtain rfl:g=m:=c;simp at a
  | 2,_,6,_=>obtain rfl:g=n:=c;simp at a
  | 3,_,0,_=>obtain rfl:k=d:=c;simp at a
  | 3,_,1,_=>obtain rfl:k=f:=c;simp at a
  | 3,_,2,_=>obtain rfl:k=g:=c;simp at a
  | 3,_,3,_=>exact absurd rfl o
  | 3,_,4,_=>obtain rfl:k=l:=c;simp at a
  | 3,_,5,_=>obtain rfl:k=m:=c;simp at a
  | 3,_,6,_=>obtain rfl:k=n:=c;simp at a
  | 4,_,0,_=>obtain rfl:l=d:=c;simp at a
  | 4,_,1,_=>obtain rfl:l=f:=c;simp at a
  | 4,_,2,_=>obtain rfl:l=g:=c;simp at a
  | 4,_,3,_=>obtain rfl:l=k:=c;simp at a
  | 4,_,4,_=>exact absurd rfl o
  | 4,_,5,_=>obtain rfl:l=m:=c;simp at a
  | 4,_,6,_=>obtain rfl:l=n:=c;simp at a
  | 5,_,0,_=>obtain rfl:m=d:=c;simp at a
  | 5,_,1,_=>obtain rfl:m=f:=c;simp at a
  | 5,_,2,_=>obtain rfl:m=g:=c;simp at a
  | 5,_,3,_=>obtain rfl:m=k:=c;simp at a
  | 5,_,4,_=>obtain rfl:m=l:=c;simp at a
  | 5,_,5,_=>exact absurd rfl o
  | 5,_,6,_=>obtain rfl:m=n:=c;simp at a
  | 6,_,0,_=>obtain rfl:n=d:=c;simp at a
  | 6,_,1,_=>obtain rfl:n=f:=c;simp at a
  | 6,_,2,_=>obtain rfl:n=g:=c;simp at a
  | 6,_,3,_=>obtain rfl:n=k:=c;simp at a
  | 6,_,4,_=>obtain rfl:n=l:=c;simp at a
  | 6,_,5,_=>obtain rfl:n=m:=c;simp at a
  | 6,_,6,_=>exact absurd rfl o
 ·match i,hi with
  | 0,_=>exact z
  | 1,_=>exact A
  | 2,_=>exact B
  | 3,_=>exact C
  | 4,_=>exact D
  | 5,_=>exact E
  | 6,_=>exact F
theorem R9{H:Type}(enc:TypeId×Value->H){W:World}{p:Nat->Addr}(h:∀i,i<7->W.var? Tryz.prog (errN i)=some #[Af (p i)])(sp:Nat->Bool):∀l:List Nat,(∀i,i∈l->i<7)->
 DataW.TrodVars enc Tryz.prog W sp (l.map errN) (l.map fun i=>tok enc (Af (p i))) (l.map fun i=>.cell (errG i) 0)
 | [],_=>rfl
 | i :: l,hl=>⟨errG i,59,#[Af (p i)],1,[],l.map fun i=>.cell (errG i) 0,(EP i (hl i (List.mem_cons_self ..))).1,(EP i (hl i (List.mem_cons_self ..))).2,h i (hl i (List.mem_cons_self ..)),trod_held Tryz.underlying59 (show IsIface (Af (p i))from trivial) 0,R9 enc h sp l fun j a=>hl j (List.mem_cons_of_mem _ a),rfl⟩
theorem zA9{W W':World}{n:String}{cs:Array Value}(h:W.var? Tryz.prog n=some cs)(t:Below W.heap.size W W'):W'.var? Tryz.prog n=some cs:=by
 unfold World.var? at h ⊢;cases hg:Tryz.prog.globalNamed n with
 | none=>simp[hg]at h
 | some g=>
  simp only[hg,Option.bind_some]at h ⊢;have b:g<W.heap.size:=by
   rcases Nat.lt_or_ge g W.heap.size with a | a
   ·exact a
   ·simp[Array.getElem?_eq_none a]at h
  rw[t.block g b];exact h
def Eg:Nat:=(World.holding Tryz.prog default ⟨#[],#[],[]⟩).heap.size
def X7(os:Os):World:=
 let w0:=World.holding Tryz.prog os ⟨#[.cells #[.string ⟨#[105,116,32,105,115,32,110,111,116,32,114,105,103,104,116]⟩] 259,.cells #[.string ⟨#[105,116,32,105,115,32,116,111,111,32,108,111,110,103]⟩] 259,.cells #[.string ⟨#[116,104,101,114,101,32,105,115,32,110,111,110,101]⟩] 259,.cells #[.string ⟨#[116,104,101,114,101,32,105,115,32,111,110,101,32,97,108,114,101,97,100,121]⟩] 259,.cells #[.string ⟨#[116,104,101,114,101,32,105,115,32,110,111,32,114,111,111,109]⟩] 259,.cells #[.string ⟨#[105,116,32,100,111,101,115,32,110,111,116,32,115,116,97,110,100,32,115,111,32,116,104,97,116,32,116,104,105,115,32,99,97,110,32,98,101,32,100,111,110,101]⟩] 259,.cells #[.string ⟨#[105,116,32,105,115,32,111,117,116,32,111,102,32,114,97,110,103,101]⟩] 259],#[],[]⟩
 {w0 with heap:=((((((((((((((w0.heap).modify 4 fun
   | .cells _ t frozen=>.cells #[Af ⟨Eg+0,0,none⟩] t frozen
   | o=>o)).modify 3 fun
   | .cells _ t frozen=>.cells #[Af ⟨Eg+1,0,none⟩] t frozen
   | o=>o)).modify 0 fun
   | .cells _ t frozen=>.cells #[Af ⟨Eg+2,0,none⟩] t frozen
   | o=>o)).modify 1 fun
   | .cells _ t frozen=>.cells #[Af ⟨Eg+3,0,none⟩] t frozen
   | o=>o)).modify 2 fun
   | .cells _ t frozen=>.cells #[Af ⟨Eg+4,0,none⟩] t frozen
   | o=>o)).modify 5 fun
   | .cells _ t frozen=>.cells #[Af ⟨Eg+5,0,none⟩] t frozen
   | o=>o)).modify 6 fun
   | .cells _ t frozen=>.cells #[Af ⟨Eg+6,0,none⟩] t frozen
   | o=>o)}
theorem zCb(os:Os)(args:Array Value):laidMetH Tryz.prog LF ((X7 os).forCall (fun _ _=>0) ⟨#[],args,[]⟩).memory:=by
 rw[MakeChecks.laidMetH_plain _ _ _ (by kernel_rfl)];exact laidMet_of_run (ps:=[.cell 4 0,.cell (Eg+0) 0,.cell 3 0,.cell (Eg+1) 0,.cell 0 0,.cell (Eg+2) 0,.cell 1 0,.cell (Eg+3) 0,.cell 2 0,.cell (Eg+4) 0,.cell 5 0,.cell (Eg+5) 0,.cell 6 0,.cell (Eg+6) 0]) 8 (by kernel_rfl) (by kernel_rfl) (by kernel_rfl)
set_option linter.unusedSimpArgs false
open Classical in
def AY{ι : Type}(A:ι->List (Bool×List Tr))(C:ι->Prop)(R:ι->List (Bool×List Tr)):AL:=fun l=>
 if h:∃x,A x=l then some (C h.choose,R h.choose)else none
variable{ι:Type}
theorem Ag{A:ι->List (Bool×List Tr)}{C:ι->Prop}{R:ι->List (Bool×List Tr)}(a:List (Bool×List Tr)->ι)(b:∀x,a (A x)=x)(x:ι):AY A C R (A x)=some (C x,R x):=by
 unfold AY;have h:∃y,A y=A x:=⟨x,rfl⟩;rw[dif_pos h];have:h.choose=x:=by
  have:=congrArg a h.choose_spec
  rwa [b,b]at this
 rw[this]
def Jv(T:Tb)(rv:List ResultVar)(rs:List (Bool×List Tr)):Exit->St->Prop:=fun e S=>match e with
 | .ret=>Ret T rv S rs
 | .normal=>Ret T rv S rs
 | _=>False
variable{P:Program}{f N:Nat}{T:Tb}{Γ:List (Nat×AL)}{fn:Func}{body:Code}{rv:Array ResultVar}
theorem B6{A:ι->List (Bool×List Tr)}{C:ι->Prop}{R:ι->List (Bool×List Tr)}(g:DY P T)(hΓ : GOk P Γ)(m:P.follows .mixedOrders=true)(k:P.funcs[f]?=some fn)(i:fn.body=some body)(e:fn.ntmps=N)(b:fn.results=rv)(n:Nat)
 (h:∀x,C x->(A x).length<=N/\ev N T Γ n body ⟨E7 0 (A x),[]⟩ (Jv T rv.toList (R x))):An P f (AY A C R):=by
 refine zBF g hΓ m k i e b n (fun l c rs a j=>?_);unfold AY at a;split at a
 ·rename_i d
  cases a;have:=h d.choose j;rw[d.choose_spec]at this;exact this
 ·cases a
def LH(T:Tb)(rv:List ResultVar)(rs:List (Bool×List Tr)):Exit->St->Prop:=fun e S=>match e with
 | .ret=>RetP T rv S rs
 | .normal=>RetP T rv S rs
 | _=>False
theorem Ev{V:ι->List Tr}{A:ι->List (Bool×List Tr)}{C:ι->Prop}{R:ι->List (Bool×List Tr)}(g:DY P T)(hΓ : GOk P Γ)(o:P.follows .mixedOrders=true)(k:P.funcs[f]?=some fn)(i:fn.body=some body)(d:fn.ntmps=N)(b:fn.results=rv)(n:Nat)
 (h:∀x,C x->1+(A x).length<=N/\ev N T Γ n body ⟨(0,true,.m false [.p 0 0]) :: E7 1 (A x),Fr (V x)⟩ (LH T rv.toList (R x))):DK P f (AY (fun x=>(true,V x) :: A x) C R):=by
 refine zBh g hΓ o k i d b n (fun vs l c rs a j=>?_);obtain⟨y,e,r,rfl⟩:∃y,(true,V y) :: A y=(true,vs) :: l/\C y/\R y=rs:=by
  unfold AY at a;split at a
  ·rename_i q
   cases a;exact⟨_,q.choose_spec,j,rfl⟩
  ·cases a
 simp only[List.cons.injEq,Prod.mk.injEq,true_and]at e;obtain⟨rfl,rfl⟩:=e;exact h y r
theorem zDP{V:ι->List Tr}{A:ι->List (Bool×List Tr)}{C:ι->Prop}{R:ι->List (Bool×List Tr)}(j:DY P T)(hΓ : GOk P Γ)(q:P.follows .mixedOrders=true)(p:P.funcs[f]?=some fn)(k:fn.body=some body)(i:fn.ntmps=N)(b:fn.results=rv)(n:Nat)
 (h:∀x,C x->(A x).length+1<=N/\ev N T Γ n body ⟨((A x).length,true,.m true (DB 0 0 (V x))) :: E7 0 (A x),Dd 0 (V x)⟩ (Jv T rv.toList (R x))):NJ P f (AY (fun x=>A x ++ [(true,V x)]) C R):=by
 refine zBg j hΓ q p k i b n (fun vs l c rs a o=>?_);obtain⟨y,e,s,rfl⟩:∃y,A y ++ [(true,V y)]=l ++ [(true,vs)]/\C y/\R y=rs:=by
  unfold AY at a;split at a
  ·rename_i r
   cases a;exact⟨_,r.choose_spec,o,rfl⟩
  ·cases a
 obtain⟨d,g⟩:=List.append_inj' e rfl;subst d;cases g;exact h y s
def Ru(T:Tb)(rv:List ResultVar)(rs:List (Bool×List Tr)):Exit->St->Prop:=fun e S=>match e with
 | .ret=>RetN T rv S rs
 | .normal=>RetN T rv S rs
 | _=>False
theorem zDO{A:ι->List (Bool×List Tr)}{C:ι->Prop}{R:ι->List (Bool×List Tr)}(g:DY P T)(hΓ : GOk P Γ)(m:P.follows .mixedOrders=true)(k:P.funcs[f]?=some fn)(i:fn.body=some body)(e:fn.ntmps=N)(b:fn.results=rv)(n:Nat)
 (h:∀x,C x->(A x).length<=N/\ev N T Γ n body ⟨E7 0 (A x),[]⟩ (Ru T rv.toList (R x))):NI P f (AY A C R):=by
 refine zBf g hΓ m k i e b n (fun l c rs a j=>?_);unfold AY at a;split at a
 ·rename_i d
  cases a;have:=h d.choose j;rw[d.choose_spec]at this;exact this
 ·cases a
def BH(h:Nat->Int):Nat->Nat->Tr:=fun i _=>.v (.int .i64 (h i))
def AS:Tr->Int
 | .v (.int _ x)=>x
 | _=>0
def DN:Tr->Nat
 | .s _ _ n _=>n
 | _=>0
def Bp:Tr->Nat->Nat->Tr
 | .s _ _ _ f=>f
 | _=>fun _ _=>.v (.bool false)
def nth(l:List (Bool×List Tr))(i j:Nat):Tr:=((l.getD i (false,[])).2).getD j (.v (.bool false))
def dB(p:Prop):Bool:=@decide p (Classical.propDecidable p)
variable{p:Prop}
theorem FQ:dB p=true↔p:=@decide_eq_true_iff p (Classical.propDecidable p)
theorem P8:dB p=false↔¬p:=@decide_eq_false_iff_not p (Classical.propDecidable p)
theorem zIm{b:Bool}:(b=dB p)↔(b=true↔p):=by
 rw[Bool.eq_iff_iff,FQ]
theorem Ar{k:Nat}(h:k<=1000000000):IntKind.i64.wrap ((k:Int)+1)=((k+1:Nat):Int):=by
 rw[IntKind.wrap_i64];omega
abbrev Av.i(x:Int):Av:=.m false [.v (.int .i64 x)]
section
variable {N : Nat} {T : Tb} {Γ : List (Nat × AL)} {n : Nat} {tm : List (Nat × Bool × Av)} {ob : List (Nat × Ob)} {K : Exit -> St -> Prop} {ops : Array Oper} {dst : Option Nat}
def Ksq(N:Nat)(T:Tb)(Γ : List (Nat×AL))(n:Nat)(b:Code)(K:Exit->St->Prop):Exit->St->Prop:=fun e S=>match e with
 | .normal=>ev N T Γ n b S K
 | e=>K e S
def Kbl(id:Nat)(K:Exit->St->Prop):Exit->St->Prop:=fun e S=>match e with
 | .exit i=>if i=id then K .normal S else K (.exit i) S
 | e=>K e S
def bnd:Option (Prop×St)->(St->Prop)->Prop
 | some q,f=>q.1/\f q.2
 | none,_=>False
variable{a b:Code}
theorem zI1:ev N T Γ n (.seq a b) ⟨tm,ob⟩ K=ev N T Γ n a ⟨tm,ob⟩ (Ksq N T Γ n b K):=rfl
variable{id:Nat}
theorem zEj:ev N T Γ n (.block id a) ⟨tm,ob⟩ K=ev N T Γ n a ⟨tm,ob⟩ (Kbl id K):=rfl
theorem zG8:ev N T Γ n .skip ⟨tm,ob⟩ K=K .normal ⟨tm,ob⟩:=rfl
theorem zG7:ev N T Γ n (.exit id) ⟨tm,ob⟩ K=K (.exit id) ⟨tm,ob⟩:=rfl
theorem zI0:ev N T Γ n .ret ⟨tm,ob⟩ K=K .ret ⟨tm,ob⟩:=rfl
theorem zHz:ev N T Γ n (.region id ops false) ⟨tm,ob⟩ K=runL N T Γ ops ops.toList ⟨fgt n tm,ob⟩ (K .normal):=rfl
theorem zHk:ev N T Γ n (.region id ops true) ⟨tm,ob⟩ K=runT N T Γ ops ops.toList ⟨fgt n tm,ob⟩ [] (fun S ts=>chk ops.toList ts=true/\K .normal S):=rfl
theorem zG6{c:Operand}:ev N T Γ n (.cond c a b) ⟨tm,ob⟩ K=match opd ⟨tm,ob⟩ c with
 | some (cc,.m false [.v (.bool t)])=>cc=true/\(t=true->ev N T Γ n a ⟨tm,ob⟩ K)/\(t=false->ev N T Γ n b ⟨tm,ob⟩ K)
 | _=>False:=rfl
variable{rv:List ResultVar}{rs:List (Bool×List Tr)}
theorem zHm:Jv T rv rs .ret ⟨tm,ob⟩=Ret T rv ⟨tm,ob⟩ rs:=rfl
theorem zHl:Jv T rv rs .normal ⟨tm,ob⟩=Ret T rv ⟨tm,ob⟩ rs:=rfl
theorem zJE:tb.ty=tyT:=rfl
theorem zIx:tb.bt=4:=rfl
theorem zJB:tb.pt=38:=rfl
theorem zJC:tb.sx=9:=rfl
theorem zJD:tb.tk=39:=rfl
theorem zJA:tb.mv=27:=rfl
theorem zIy:tb.by'=22:=rfl
theorem zIz:tb.ik=ikT:=rfl
theorem zGT:LH T rv rs .ret ⟨tm,ob⟩=RetP T rv ⟨tm,ob⟩ rs:=rfl
theorem zGS:LH T rv rs .normal ⟨tm,ob⟩=RetP T rv ⟨tm,ob⟩ rs:=rfl
theorem zGR:Ru T rv rs .ret ⟨tm,ob⟩=RetN T rv ⟨tm,ob⟩ rs:=rfl
theorem zGQ:Ru T rv rs .normal ⟨tm,ob⟩=RetN T rv ⟨tm,ob⟩ rs:=rfl
def Kl{α : Type}(I:α->St)(μ : α->Nat)(J:α->Prop)(a:α)(K:Exit->St->Prop):Exit->St->Prop:=fun e S'=>match e with
 | .normal=>∃a',J a'/\μ a' < μ a/\StW S' (I a')
 | e=>K e S'
variable{α:Type}
theorem zJJ{I:α->St}{μ : α->Nat}{J:α->Prop}{a:α}:Kl I μ J a K .normal ⟨tm,ob⟩ = ∃b,J b/\μ b < μ a/\StW ⟨tm,ob⟩ (I b):=rfl
variable{S:St}
theorem zJL{I:α->St}{μ : α->Nat}{J:α->Prop}{a:α}{i:Nat}:Kl I μ J a K (.exit i) S=K (.exit i) S:=rfl
theorem zJK{I:α->St}{μ : α->Nat}{J:α->Prop}{a:α}:Kl I μ J a K .ret S=K .ret S:=rfl
theorem BF(I:α->St)(μ : α->Nat)(J:α->Prop)(d:α){c:Code}(o:StW S (I d))(l:J d)(h:∀a,J a->ev N T Γ n c (I a) (Kl I μ J a K)):ev N T Γ n (.loop c) S K:=by
 refine⟨fun m S=>∃a,J a/\μ a=m/\S=I a,μ d,I d,o,⟨d,l,rfl,rfl⟩,?_⟩;rintro m S ⟨a,k,rfl,rfl⟩;refine cast (congrArg (ev N T Γ n c (I a)) ?_) (h a k);funext e S';cases e<;>first | rfl | skip
 refine propext ⟨fun ⟨b,f,g,i⟩=>⟨μ b,I b,i,g,b,f,rfl,rfl⟩,?_⟩;rintro⟨p,j,f,g,b,i,rfl,rfl⟩;exact⟨b,i,g,f⟩
theorem zHu:Ksq N T Γ n b K .normal S=ev N T Γ n b S K:=rfl
theorem zHw{i:Nat}:Ksq N T Γ n b K (.exit i) S=K (.exit i) S:=rfl
theorem zHv:Ksq N T Γ n b K .ret S=K .ret S:=rfl
theorem zIa:Kbl id K .normal S=K .normal S:=rfl
theorem zHr{i:Nat}:Kbl id K (.exit i) S=if i=id then K .normal S else K (.exit i) S:=rfl
theorem zIb:Kbl id K .ret S=K .ret S:=rfl
variable{f:St->Prop}
theorem zG5:runL N T Γ ops [] ⟨tm,ob⟩ f=f ⟨tm,ob⟩:=rfl
variable{r:List Oper}
theorem zE2{o:Oper}:runL N T Γ ops (o :: r) ⟨tm,ob⟩ f=bnd (stp N T Γ ops ⟨tm,ob⟩ o) (fun S=>runL N T Γ ops r S f):=by
 simp only[runL];cases stp N T Γ ops ⟨tm,ob⟩ o<;>rfl
variable{f:St->List Tc->Prop}
theorem zFN{ts:List Tc}:runT N T Γ ops [] ⟨tm,ob⟩ ts f=f ⟨tm,ob⟩ ts:=rfl
theorem zE3{o:Oper}{ts:List Tc}:runT N T Γ ops (o :: r) ⟨tm,ob⟩ ts f=bnd (stp N T Γ ops ⟨tm,ob⟩ o) (fun S=>runT N T Γ ops r S (ts ++ [tcAt T Γ ops ⟨tm,ob⟩ o]) f):=by
 simp only[runT];cases stp N T Γ ops ⟨tm,ob⟩ o<;>rfl
variable{f:St->Prop}
theorem zEY{q:Prop×St}:bnd (some q) f=(q.1/\f q.2):=rfl
theorem zEX:bnd none f=False:=rfl
variable{d:Option Nat}{t:Nat}{pos:String}{a:Array Edge}{g:Option (Nat×Bool)}
theorem zGJ{x y z:Operand}:stp N T Γ ops ⟨tm,ob⟩ ⟨d,.pick x y z,t,pos,a,g⟩=stpP N (gtmp ops ⟨d,.pick x y z,t,pos,a,g⟩) ⟨tm,ob⟩ x y z d:=rfl
variable{op:Op}
theorem zIV(h:∀x y z,op≠.pick x y z):stp N T Γ ops ⟨tm,ob⟩ ⟨d,op,t,pos,a,g⟩=stp0 N T Γ (gtmp ops ⟨d,op,t,pos,a,g⟩) ⟨tm,ob⟩ op d:=by
 unfold stp;split
 ·rename_i x y z e;exact absurd e (h x y z)
 ·rfl
def IJ(N:Nat)(gt:Option (Option Nat×Bool))(κ : Bool)(l:List (Bool×Av))(tm:List (Nat×Bool×Av))(dst:Option Nat)(ob0:List (Nat×Ob)):Option Dl->Option (Prop×St)
 | some D=>match dst,D.av with
  | some d,some av=>if d<N then some (FV κ l/\(κ = true->D.c),⟨put tm d (κ,av),obK κ ob0 D⟩)else none
  | none,none=>if gt.isSome then none else some (FV κ l/\(κ = true->D.c),⟨tm,D.ob⟩)
  | _,_=>none
 | none=>match κ,dst with
  | false,some d=>if d<N then some (True,⟨put tm d (false,.m false [.v (.bool false)]),ob0⟩)else none
  | _,_=>none
def onK(f:Bool->List (Bool×Av)->Option (Prop×St)):Option Bool->Option (List (Bool×Av))->Option (Prop×St)
 | some κ,some l=>f κ l
 | _,_=>none
def Fc(N:Nat)(T:Tb)(Γ : List (Nat×AL))(gt:Option (Option Nat×Bool))(tm:List (Nat×Bool×Av))(ob:List (Nat×Ob))(op:Op)(dst:Option Nat)(κ : Bool)(l:List (Bool×Av)):Option (Prop×St):=IJ N gt κ l tm dst ob (BB T Γ dst ob op (l.map (·.2)))
variable{gt:Option (Option Nat×Bool)}
theorem zHP:stp0 N T Γ gt ⟨tm,ob⟩ op dst=onK (Fc N T Γ gt tm ob op dst) (kap ⟨tm,ob⟩ gt) (opds ⟨tm,ob⟩ op.operands.toList):=by
 unfold stp0;cases kap ⟨tm,ob⟩ gt with
 | none=>rfl
 | some κ=>
  cases opds ⟨tm,ob⟩ op.operands.toList with
  | none=>rfl
  | some l=>
   simp only[onK,Fc,IJ];cases BB T Γ dst ob op (l.map (·.2))<;>rfl
variable{κ:Bool}{l:List (Bool×Av)}
theorem zFl{f:Bool->List (Bool×Av)->Option (Prop×St)}:onK f (some κ) (some l)=f κ l:=rfl
theorem zIZ:Fc N T Γ gt tm ob op dst κ l=IJ N gt κ l tm dst ob (BB T Γ dst ob op (l.map (·.2))):=rfl
variable{g:Option (Option Nat×Bool)}{a:List (Nat×Ob)}{d:Nat}{c:Prop}{av:Av}
theorem zI5{nw:Bool}:IJ N g true l tm (some d) a (some ⟨c,some av,ob,nw⟩)=if d<N then some (FV true l/\(true=true->c),⟨put tm d (true,av),ob⟩)else none:=rfl
theorem zI3:IJ N g κ l tm (some d) a (some ⟨c,some av,ob,false⟩)=if d<N then some (FV κ l/\(κ = true->c),⟨put tm d (κ,av),ob⟩)else none:=by cases κ<;>rfl
theorem zI2:IJ N g false l tm (some d) a (some ⟨c,some av,ob,true⟩)=if d<N then some (FV false l/\(false=true->c),⟨put tm d (false,av),a⟩)else none:=rfl
theorem zI6:IJ N g false l tm (some d) a none=if d<N then some (True,⟨put tm d (false,.m false [.v (.bool false)]),a⟩)else none:=rfl
theorem zI4{nw:Bool}:IJ N none κ l tm none a (some ⟨c,none,ob,nw⟩)=some (FV κ l/\(κ = true->c),⟨tm,ob⟩):=rfl
variable{h:Nat->Int}
theorem zEx{i j:Nat}:BH h i j = .v (.int .i64 (h i)):=rfl
variable{d:Option Nat}{a:Array Edge}
theorem zn:gtmp ops ⟨d,op,t,pos,a,none⟩=none:=rfl
theorem zo{j:Nat}{b:Bool}{os:List Oper}:gtmp os.toArray ⟨d,op,t,pos,a,some (j,b)⟩=some ((os[j]?).bind (·.dst),b):=by
 simp only[gtmp,List.getElem?_toArray];cases (os[j]?).bind (·.dst)<;>rfl
def onT(T:Tb)(Γ : List (Nat×AL))(ob:List (Nat×Ob))(op:Op)(d:Option Nat)(rd:List Nat):Option (List (Bool×Av))->Tc
 | some l=>⟨rd,d,tks T Γ ob op d (l.map (·.2))⟩
 | none=>tc0
theorem zHU{g:Option (Nat×Bool)}:tcAt T Γ ops ⟨tm,ob⟩ ⟨d,op,t,pos,a,g⟩=onT T Γ ob op d (tmpsOf op.operands.toList ++ LC (gtmp ops ⟨d,op,t,pos,a,g⟩)) (opds ⟨tm,ob⟩ op.operands.toList):=by
 unfold tcAt onT;cases opds ⟨tm,ob⟩ op.operands.toList<;>rfl
theorem zFm{rd:List Nat}:onT T Γ ob op d rd (some l)=⟨rd,d,tks T Γ ob op d (l.map (·.2))⟩:=rfl
theorem zEc:BB T Γ dst ob op []=coreU T Γ dst ob op []:=rfl
theorem za{x:Av}{l:List Av}:BB T Γ dst ob op (x :: l)=coreU T Γ dst ob op (x :: l):=rfl
end
def ptrsT(ks kb:Nat->Int):Nat->Nat->Tr:=fun i c=>match c with
 | 0=>.v (.int .i64 (ks i))
 | 1=>.v (.int .i64 (kb i))
 | _=>.v (.bool false)
def Aw(fl:Fl)(s:Nat->AH):Nat->Nat->Tr:=fun i c=>match c with
 | 0=>.v (.int .i64 (s i).birth)
 | 1=>.s fl 2 (s i).kn (ptrsT (s i).ks (s i).kb)
 | _=>.v (.string (s i).data)
variable{ks kb:Nat->Int}
theorem zHF{i:Nat}:ptrsT ks kb i 0 = .v (.int .i64 (ks i)):=rfl
theorem zHG{i:Nat}:ptrsT ks kb i 1 = .v (.int .i64 (kb i)):=rfl
variable{fl:Fl}{s:Nat->AH}
theorem zFR{i:Nat}:Aw fl s i 0 = .v (.int .i64 (s i).birth):=rfl
theorem zFS{i:Nat}:Aw fl s i 1 = .s fl 2 (s i).kn (ptrsT (s i).ks (s i).kb):=rfl
theorem zFT{i:Nat}:Aw fl s i 2 = .v (.string (s i).data):=rfl
theorem zIB{x:Value}:(Tr.v x).CY = .v x:=rfl
variable{k n:Nat}{h:Nat->Int}
theorem zDT:(Tr.s fl k n (BH h)).CY = .s .b k n (BH h):=rfl
variable{f g:Nat->Int}
theorem M5:(Tr.s fl k n (ptrsT f g)).CY = .s .b k n (ptrsT f g):=by
 simp only[Tr.CY];congr 1;funext i c
 match c with
 | 0=>rfl
 | 1=>rfl
 | c+2=>rfl
def Ej(f:Nat->Int)(a:Nat)(x:Int):Nat->Int:=fun i=>if i=a then x else f i
theorem QG{a:Nat}{x y:Int}:Ae (ptrsT f g) a 0 [.v (.int .i64 x),.v (.int .i64 y)]=ptrsT (Ej f a x) (Ej g a y):=by
 funext i c;by_cases h:i=a
 ·subst h
  match c with
  | 0=>simp[Ae,ptrsT,Ej]
  | 1=>simp[Ae,ptrsT,Ej]
  | c+2=>simp[Ae,ptrsT]
 ·match c with
  | 0=>simp[Ae,ptrsT,Ej,h]
  | 1=>simp[Ae,ptrsT,Ej,h]
  | c+2=>simp[Ae,ptrsT,h]
theorem zAz{a:Fl}:(Tr.s fl k n (Aw a s)).CY = .s .b k n (Aw .b s):=by
 simp only[Tr.CY];congr 1;funext i c
 match c with
 | 0=>rfl
 | 1=>exact M5
 | c+2=>rfl
theorem AE{f:Nat}{b:Code}(h:Tryz.prog.funcs[f]?=some fn)(a:fn.body=some b)(hn:(fn.name == "runtime.NumGoroutine")=false):Do Tryz.prog f:=fun args w=>by
 simp only[beq_eq_false_iff_ne,ne_eq]at hn;simp[callFunc,h,a,hn]
def CO:Tr->ByteArray
 | .v (.string x)=>x
 | _=>⟨#[]⟩
abbrev iT(x:Int):Bool×List Tr:=(false,[.v (.int .i64 x)])
abbrev pT(a b:Int):Bool×List Tr:=(true,[.v (.int .i64 a),.v (.int .i64 b)])
abbrev slT(s:AH):Bool×List Tr:=(true,[.v (.int .i64 s.birth),.s .b 2 s.kn (ptrsT s.ks s.kb),.v (.string s.data)])
abbrev poT(n:Nat)(s:Nat->AH)(hn:Nat)(h:Nat->Int):Bool×List Tr:=(true,[.s .b 3 n (Aw .b s),.s .b 1 hn (BH h)])
noncomputable abbrev bR (p:Prop):List (Bool×List Tr):=[(false,[.v (.bool (dB p))])]
def KA(a b c:Tr):AH:=⟨AS a,DN b,fun i=>AS (Bp b i 0),fun i=>AS (Bp b i 1),CO c⟩
def Cw(a b:Tr):A7:=⟨DN a,fun i=>KA (Bp a i 0) (Bp a i 1) (Bp a i 2),DN b,fun i=>AS (Bp b i 0)⟩
attribute [go_sem] E7 List.map_cons List.map_nil Tr.cv zI1 zEj zG8 zG7 zI0 zHz zHk zG6 zHu zHw zHv zIa zHr zIb zJJ zJL zJK zG5 zE2 zFN zE3 zEY zEX zGJ zIV zn zo zHU zFm tmpsOf LC zHP zFl zIZ zI5 zI3 zI2 zI6 zI4 stpP opds opd opdC kap FV zEc za coreU bin CA P7 get put dlO fgt zJE zIx zJB zJC tyT zHm zHl Op.operands Call.operands evLoad evLen evStore evAlloc KB and_true true_and List.append_nil List.nil_append List.cons_append Ret resCv JB LV cellM Ei MX E8 StW StR hpT hpO hpV hpA hpL hpC sg nin SN bdO tmW obW AvE CsE CvE Av.tup Av.ids Cv.ids inD ObE Ob.ids TrE.refl zEx zHF zHG zFR zFS zFT zDT M5 zAz zIB FQ P8 zIm evCall argL argOf Ea outOb obO JT DB cvO tot Tr.own rid partsOf fillC MF Ek frz frz1 evBuildSlice zc trs Cv.tr evSlice Option.toArray_none Option.toArray_some evMakeSlice evAppend dstOf srcOf DQ zJD zJA zIy zIz ikT zGT zGS zGR zGQ RetP RetN Fr Dd evLd evSt evStoreH JK evAppendM evAppendT tlOf mvOf rowE shp evTake oOf evC evCallP evCallN evCallO unlast CI DO IW argsF SF CX pmC varT vT evField evConv dB0 Option.bind_some Option.bind_none Option.map_some Option.map_none Option.isSome_some Option.isSome_none
def mIs:AL:=AY (fun q:Int×Int×Int=>[iT q.1,iT q.2.1,iT q.2.2]) (fun _=>True) (fun q=>bR (q.2.1<=q.1/\q.1<=q.2.2))
theorem LU(x a b:Int):mIs [iT x,iT a,iT b]=some (True,bR (a<=x/\x<=b)):=Ag (fun l=>(AS (nth l 0 0),AS (nth l 1 0),AS (nth l 2 0))) (fun _=>rfl) (x,a,b)
theorem Lx:An Tryz.prog 84 mIs:=by
 refine B6 Al GOk.nil Ak Tryz.func84 rfl Tryz.ntmps84 Tryz.results84 7 ?_;rintro⟨x,a,b⟩ -;refine⟨by simp,?_⟩;simp[go_sem]
def Zu:AL:=AY (fun q:Int=>[iT q]) (fun _=>True) (fun q=>bR (DS q))
theorem Qe(x:Int):Zu [iT x]=some (True,bR (DS x)):=Ag (fun l=>AS (nth l 0 0)) (fun _=>rfl) x
theorem RZ:An Tryz.prog 142 Zu:=by
 refine B6 Al (GOk.cons Lx (AE Tryz.func84 rfl rfl) GOk.nil) Ak Tryz.func142 rfl Tryz.ntmps142 Tryz.results142 3 ?_;rintro x -;refine⟨by simp,?_⟩;simp[go_sem,LU,DS]
def yk:AL:=AY (fun q:Nat×(Nat->Int)×Int=>[(false,[.s .b 1 q.1 (BH q.2.1)]),iT q.2.2]) (fun q=>q.1<=1000000) (fun q=>bR (Has q.1 q.2.1 q.2.2))
theorem KN(n:Nat)(h:Nat->Int)(x:Int):yk [(false,[.s .b 1 n (BH h)]),iT x]=some (n<=1000000,bR (Has n h x)):=Ag (fun l=>(DN (nth l 0 0),fun i=>AS (Bp (nth l 0 0) i 0),AS (nth l 1 0))) (fun _=>rfl) (n,h,x)
theorem M4:An Tryz.prog 44 yk:=by
 refine B6 Al GOk.nil Ak Tryz.func44 rfl Tryz.ntmps44 Tryz.results44 6 ?_;rintro⟨n,h,x⟩ hn;replace hn:n<=1000000:=hn;refine⟨by simp,?_⟩;simp[go_sem];refine BF (fun k:Nat=>⟨[(0,true,.m false [.s .b 1 n (BH h)]),(1,true,.i x),(5,true,.i k)],[]⟩) (fun k=>n - k) (fun k=>k<=n/\∀i,i<k->h i≠x) 0 (by simp[go_sem]) (by simp) ?_;rintro k ⟨d,a⟩;simp[go_sem,Ar (show k<=1000000000 by omega)];refine⟨fun c=>⟨c,fun e=>⟨k,c,e⟩,fun e=>⟨k+1,⟨by omega,Br c a e⟩,by omega,rfl⟩⟩,fun c ⟨j,h1,h2⟩=>a j (by omega) h2⟩
def qs:AL:=AY (fun s:AH=>[slT s]) (fun _=>True) (fun s=>bR (Ah s))
theorem Lo(s:AH):qs [slT s]=some (True,bR (Ah s)):=Ag (fun l=>KA (nth l 0 0) (nth l 0 1) (nth l 0 2)) (fun _=>rfl) s
theorem OR:An Tryz.prog 43 qs:=by
 refine B6 Al GOk.nil Ak Tryz.func43 rfl Tryz.ntmps43 Tryz.results43 3 ?_;rintro s -;refine⟨by simp,?_⟩;simp[go_sem,Ah,and_assoc]
def qy:AL:=AY (fun q:Int×Int=>[pT q.1 q.2]) (fun _=>True) (fun q=>bR (q.1=0/\q.2=0))
theorem G9(a b:Int):qy [pT a b]=some (True,bR (a=0/\b=0)):=Ag (fun l=>(AS (nth l 0 0),AS (nth l 0 1))) (fun _=>rfl) (a,b)
theorem Ks:An Tryz.prog 85 qy:=by
 refine B6 Al GOk.nil Ak Tryz.func85 rfl Tryz.ntmps85 Tryz.results85 3 ?_;rintro⟨a,b⟩ -;refine⟨by simp,?_⟩;simp[go_sem]
def TC:AL:=AY (fun q:A7×Int×Int=>[poT q.1.n q.1.s q.1.hn q.1.h,pT q.2.1 q.2.2]) (fun q=>q.1.n<=1000000) (fun q=>bR (B8 q.1 q.2.1 q.2.2))
theorem RP(p:A7)(a b:Int):TC [poT p.n p.s p.hn p.h,pT a b]=some (p.n<=1000000,bR (B8 p a b)):=Ag (fun l=>(Cw (nth l 0 0) (nth l 0 1),AS (nth l 1 0),AS (nth l 1 1))) (fun _=>rfl) (p,a,b)
theorem Rb:An Tryz.prog 143 TC:=by
 refine B6 Al GOk.nil Ak Tryz.func143 rfl Tryz.ntmps143 Tryz.results143 5 ?_;rintro⟨p,a,b⟩ hn;replace hn:p.n<=1000000:=hn;refine⟨by simp,?_⟩;simp[go_sem];exact⟨fun _ c d=>⟨c,d⟩,by kernel_rfl,by unfold B8;omega⟩
def qq:AL:=AY (fun q:A7×AH=>[poT q.1.n q.1.s q.1.hn q.1.h,slT q.2]) (fun q=>q.1.n<=1000000) (fun q=>bR (C5 q.1 q.2))
theorem zFD(p:A7)(s:AH):qq [poT p.n p.s p.hn p.h,slT s]=some (p.n<=1000000,bR (C5 p s)):=Ag (fun l=>(Cw (nth l 0 0) (nth l 0 1),KA (nth l 1 0) (nth l 1 1) (nth l 1 2))) (fun _=>rfl) (p,s)
theorem zAo:An Tryz.prog 83 qq:=by
 refine B6 Al (GOk.cons RZ (AE Tryz.func142 rfl rfl) (GOk.cons Ks (AE Tryz.func85 rfl rfl) (GOk.cons Rb (AE Tryz.func143 rfl rfl) GOk.nil))) Ak Tryz.func83 rfl Tryz.ntmps83 Tryz.results83 7 ?_;rintro⟨p,s⟩ hn;replace hn:p.n<=1000000:=hn;refine⟨by simp,?_⟩;simp[go_sem,Qe];refine⟨fun g h=>g h.1,fun g=>⟨fun l=>?_,fun l=>⟨fun a h=>?_,fun r q=>?_⟩⟩⟩
 ·unfold C5;constructor
  ·exact fun h=>⟨g,.inl ⟨l,by omega⟩⟩
  ·rintro⟨-,h | h⟩<;>omega
 ·rcases h.2 with h | h
  ·omega
  ·rcases a with a | a
   ·omega
   ·exact a (by simpa using h.2.1)
 refine BF (fun k:Nat=>⟨[(2,true,.m false [.p 2 0]),(3,true,.m false [.p 3 0]),(5,true,.i k)],[(2,.var [.s .b 3 p.n (Aw .b p.s),.s .b 1 p.hn (BH p.h)]),(3,.var [.v (.int .i64 s.birth),.s .b 2 s.kn (ptrsT s.ks s.kb),.v (.string s.data)])]⟩) (fun k=>s.kn - k) (fun k=>k<=s.kn/\∀i,i<k->Mp p s.birth (s.ks i) (s.kb i)) 0 (by simp[go_sem]) (by simp) ?_;rintro k ⟨t,d⟩;simp[go_sem,Ar (show k<=1000000000 by omega),G9,RP,hn];refine⟨fun j=>⟨j,fun a c=>⟨a,c⟩,fun a c h=>?_,fun a=>⟨k+1,⟨by omega,Br j d ?_⟩,by omega,rfl⟩⟩,fun j=>⟨g,.inr ⟨by omega,by simp[q],fun i hi=>d i (by omega)⟩⟩⟩
 ·rcases h.2 with h | h
  ·omega
  ·rcases h.2.2 k j with f | f
   ·exact a f.1 f.2
   ·rcases c with c | c
    ·exact c f.1
    ·omega
 ·by_cases c:s.ks k=0/\s.kb k=0
  ·exact .inl c
  ·exact .inr (a (fun e o=>c ⟨e,o⟩))
def PO:AL:=AY (fun p:A7=>[poT p.n p.s p.hn p.h]) (fun p=>p.n<=1000000/\p.hn<=1000000) (fun p=>bR (AZ p))
theorem OI(p:A7):PO [poT p.n p.s p.hn p.h]=some (p.n<=1000000/\p.hn<=1000000,bR (AZ p)):=Ag (fun l=>Cw (nth l 0 0) (nth l 0 1)) (fun _=>rfl) p
theorem Om:An Tryz.prog 37 PO:=by
 refine B6 Al (GOk.cons OR (AE Tryz.func43 rfl rfl) (GOk.cons M4 (AE Tryz.func44 rfl rfl) (GOk.cons zAo (AE Tryz.func83 rfl rfl) GOk.nil))) Ak Tryz.func37 rfl Tryz.ntmps37 Tryz.results37 6 ?_;rintro p ⟨hn,u⟩;refine⟨by simp,?_⟩;simp[go_sem];refine⟨fun o h=>?_,fun o=>?_⟩
 ·have:=h.1;omega
 refine BF (fun k:Nat=>⟨[(1,true,.m false [.p 1 0]),(3,true,.i k)],[(1,.var [.s .b 3 p.n (Aw .b p.s),.s .b 1 p.hn (BH p.h)])]⟩) (fun k=>p.n - k) (fun k=>k<=p.n/\∀i,i<k->Ah (p.s i)\/C5 p (p.s i)) 0 (by simp[go_sem]) (by simp) ?_;rintro k ⟨x,e⟩;simp[go_sem,Ar (show k<=1000000000 by omega),Lo,zFD,hn];refine⟨fun c=>⟨c,fun _=>c,by kernel_rfl,?_⟩,fun c=>?_⟩
 ·exact⟨fun a f h=>(h.2.1 k c).elim a f,fun h=>⟨k+1,⟨by omega,Br c e (Classical.or_iff_not_imp_left.2 h)⟩,by omega,rfl⟩⟩
 refine BF (fun j:Nat=>⟨[(4,true,.i j),(1,true,.m false [.p 1 0])],[(1,.var [.s .b 3 p.n (Aw .b p.s),.s .b 1 p.hn (BH p.h)])]⟩) (fun j=>p.hn - j) (fun j=>j<=p.hn/\∀i,i<j->ZY p i) 0 (by simp[go_sem]) (by simp) ?_;rintro j ⟨t,d⟩;simp[go_sem,Ar (show j<=1000000000 by omega),Lo,KN,u];refine⟨fun c=>⟨c,fun _ _ _=>t,fun _ _ _=>by omega,fun a h=>?_,fun a f q r=>⟨j+1,⟨by omega,Br c d ⟨a,f,q,r⟩⟩,by omega,rfl⟩⟩,fun c=>⟨by omega,fun i hi=>e i (by omega),fun i hi=>d i (by omega)⟩⟩;obtain⟨v,w,g,l⟩:=h.2.2 j c;rcases a with(a | a) | a
 ·omega
 ·exact g a
 ·exact l a
set_option maxRecDepth 20000
set_option maxHeartbeats 1600000
variable{F G:Nat->Nat->Tr}
theorem GR:Ai F 0 G=G:=by
 funext p q;simp[Ai]
variable{a:Nat->Int}
theorem Gy{b:Nat->Int}:(fun p q=>(ptrsT a b p q).nt)=ptrsT a b:=by
 funext p q;unfold ptrsT;split<;>rfl
theorem TS:(fun p q=>(BH a p q).nt)=BH a:=rfl
def DR{α : Type}(enc:α->Nat->Tr)(d:α)(l:List α):Nat->Nat->Tr:=fun i c=>enc (l[i]?.getD d) c
section
variable {α : Type} {enc : α -> Nat -> Tr} {d : α} {l m : List α} {fl : Fl} {k : Nat}
theorem Gb(h:l=m):TrE (.s fl k l.length (DR enc d l)) (.s fl k m.length (DR enc d m)):=h▸TrE.refl _
theorem La(h:m = []):TrE (.s fl k 0 F) (.s fl k m.length (DR enc d m)):=by
 subst h;exact⟨.inl rfl,rfl,rfl,fun i j hi=>by omega⟩
theorem zHI{e:Nat}{x:List α}(b:e=x.length)(hF:∀i,(h:i<x.length)->∀j,j<k->F i j=enc x[i] j)(h:l ++ x=m):TrE (.s fl k (l.length+e) (Ai (DR enc d l) l.length F)) (.s fl k m.length (DR enc d m)):=by
 subst h b;refine⟨.inl rfl,rfl,by simp,fun i j hi c=>TrE.of_eq ?_⟩;by_cases a:i<l.length
 ·simp[Ai,DR,a,List.getElem?_append_left a]
 ·simp only[Ai,DR,if_neg a];rw[hF (i - l.length) (by omega) j c,List.getElem?_append_right (by omega),List.getElem?_eq_getElem (by omega)];rfl
theorem Ga{ts:List Tr}{x:α}(c:∀j,j<k->(ts[j]?.getD (.v (.bool false))).nt=enc x j)(h:l ++ [x]=m):TrE (.s fl k (l.length+1) (Ai (DR enc d l) l.length (fun p q=>(ts[p*k+q]?.getD (.v (.bool false))).nt))) (.s fl k m.length (DR enc d m)):=by
 refine zHI (x:=[x]) rfl (fun i hi j b=>?_) h;have a:i=0:=by simpa using hi
 subst a;simpa using c j b
theorem zG0(h:∀x j,j<k->(enc x j).kept):(Tr.s .o k n (DR enc d l)).kept:=⟨by simp,fun i j _ a=>h _ j a⟩
end
def encP(x:Int×Int):Nat->Tr
 | 0=>.v (.int .i64 x.1)
 | 1=>.v (.int .i64 x.2)
 | _=>.v (.bool false)
abbrev ptL(l:List (Int×Int)):Nat->Nat->Tr:=DR encP (0,0) l
theorem zIK(l:List (Int×Int)):ptL l=ptrsT (fun i=>(l[i]?.getD (0,0)).1) (fun i=>(l[i]?.getD (0,0)).2):=by
 funext i c
 match c with
 | 0=>rfl
 | 1=>rfl
 | c+2=>rfl
theorem HJ{a b:Int}:∀j,j<2->([Tr.v (Value.int .i64 a),Tr.v (Value.int .i64 b)][j]?.getD (.v (.bool false))).nt=encP (a,b) j
 | 0,_=>rfl
 | 1,_=>rfl
variable{l:List (Int×Int)}
theorem GZ:(Tr.s .o 2 n (ptL l)).kept:=zG0 fun x j _=>by unfold encP;split<;>trivial
theorem Kj{b:Nat->Int}:(Tr.s .o 2 n (ptrsT a b)).kept↔True:=by
 refine⟨fun _=>trivial,fun _=>⟨by simp,fun i j _ _=>?_⟩⟩;unfold ptrsT;split<;>trivial
abbrev slO(s:AH):Bool×List Tr:=(true,[.v (.int .i64 s.birth),.s .o 2 s.kn (ptrsT s.ks s.kb),.v (.string s.data)])
def yI:AL:=AY (fun s:AH=>[slT s]) (fun s=>s.kn<=1000000) (fun s=>[slO s])
theorem zFM(s:AH):yI [slT s]=some (s.kn<=1000000,[slO s]):=Ag (fun l=>KA (nth l 0 0) (nth l 0 1) (nth l 0 2)) (fun _=>rfl) s
theorem zAq:An Tryz.prog 134 yI:=by
 refine B6 Al GOk.nil Ak Tryz.func134 rfl Tryz.ntmps134 Tryz.results134 3 ?_;rintro s hn;replace hn:s.kn<=1000000:=hn;refine⟨by simp,?_⟩;simp[go_sem,GR,Gy,Kj];omega
def yq:AL:=AY (fun q:Nat×(Nat->Int)×(Nat->Int)=>[(false,[.s .b 2 q.1 (ptrsT q.2.1 q.2.2)])]) (fun q=>q.1<=1000000) (fun q=>[(false,[.s .o 2 (kidsUp q.2.1 q.2.2 q.1).length (ptL (kidsUp q.2.1 q.2.2 q.1))])])
theorem TA(n:Nat)(f g:Nat->Int):yq [(false,[.s .b 2 n (ptrsT f g)])]=some (n<=1000000,[(false,[.s .o 2 (kidsUp f g n).length (ptL (kidsUp f g n))])]):=Ag (fun l=>(DN (nth l 0 0),fun i=>AS (Bp (nth l 0 0) i 0),fun i=>AS (Bp (nth l 0 0) i 1))) (fun _=>rfl) (n,f,g)
theorem X3:An Tryz.prog 186 yq:=by
 refine B6 Al (GOk.cons Ks (AE Tryz.func85 rfl rfl) GOk.nil) Ak Tryz.func186 rfl Tryz.ntmps186 Tryz.results186 5 ?_;rintro⟨n,f,g⟩ hn;replace hn:n<=1000000:=hn;refine⟨by simp,?_⟩;simp[go_sem];refine BF (fun k:Nat=>⟨[(3,true,.m false [.h 7]),(0,true,.m false [.s .b 2 n (ptrsT f g)]),(4,true,.i k)],[(7,.row 2 (kidsUp f g k).length (ptL (kidsUp f g k)))]⟩) (fun k=>n - k) (fun k=>k<=n) 0 (by simp[go_sem,kidsUp];exact La rfl) (by simp) ?_;rintro k j;have l:=IB f g k;simp[go_sem,Ar (show k<=1000000000 by omega),G9];refine⟨fun a=>⟨a,fun h=>⟨a,by omega,k+1,by omega,by omega,by omega,Ga HJ (by simp[kidsUp,one,Nil,show ¬(f k=0/\g k=0)from fun e=>h e.1 e.2])⟩,fun c d=>⟨k+1,by omega,by omega,by omega,Gb (by simp[kidsUp,one,Nil,c,d])⟩⟩,fun a=>?_⟩;cases (show k=n from by omega);exact⟨Gb rfl,GZ⟩
def yK:AL:=AY (fun q:Nat×(Nat->Int)×(Nat->Int)=>[(false,[.s .b 2 q.1 (ptrsT q.2.1 q.2.2)])]) (fun q=>q.1<=1000000) (fun q=>bR (kidsUp q.2.1 q.2.2 q.1≠[]))
theorem zEr(n:Nat)(f g:Nat->Int):yK [(false,[.s .b 2 n (ptrsT f g)])]=some (n<=1000000,bR (kidsUp f g n≠[])):=Ag (fun l=>(DN (nth l 0 0),fun i=>AS (Bp (nth l 0 0) i 0),fun i=>AS (Bp (nth l 0 0) i 1))) (fun _=>rfl) (n,f,g)
theorem zAt:An Tryz.prog 184 yK:=by
 refine B6 Al (GOk.cons X3 (AE Tryz.func186 rfl rfl) GOk.nil) Ak Tryz.func184 rfl Tryz.ntmps184 Tryz.results184 3 ?_;rintro⟨n,f,g⟩ hn;replace hn:n<=1000000:=hn;refine⟨by simp,?_⟩;simp[go_sem,TA,hn];exact List.length_pos_iff
def T8:AL:=AY (fun q:Int=>[iT q]) (fun _=>True) (fun q=>bR (0<=q/\q<=63))
theorem OU(x:Int):T8 [iT x]=some (True,bR (0<=x/\x<=63)):=Ag (fun l=>AS (nth l 0 0)) (fun _=>rfl) x
theorem Ys:An Tryz.prog 181 T8:=by
 refine B6 Al (GOk.cons Lx (AE Tryz.func84 rfl rfl) GOk.nil) Ak Tryz.func181 rfl Tryz.ntmps181 Tryz.results181 3 ?_;rintro x -;refine⟨by simp,?_⟩;simp[go_sem,LU]
def qx:AL:=AY (fun q:A7×Int×Int=>[poT q.1.n q.1.s q.1.hn q.1.h,pT q.2.1 q.2.2]) (fun q=>q.1.n<=1000000/\q.1.hn<=1000000) (fun q=>bR (Db q.1 q.2.1 q.2.2))
theorem Ur(p:A7)(a b:Int):qx [poT p.n p.s p.hn p.h,pT a b]=some (p.n<=1000000/\p.hn<=1000000,bR (Db p a b)):=Ag (fun l=>(Cw (nth l 0 0) (nth l 0 1),AS (nth l 1 0),AS (nth l 1 1))) (fun _=>rfl) (p,a,b)
theorem zAr:An Tryz.prog 86 qx:=by
 refine B6 Al (GOk.cons Rb (AE Tryz.func143 rfl rfl) (GOk.cons M4 (AE Tryz.func44 rfl rfl) GOk.nil)) Ak Tryz.func86 rfl Tryz.ntmps86 Tryz.results86 5 ?_;rintro⟨p,a,b⟩ ⟨hn,c⟩;replace hn:p.n<=1000000:=hn;replace c:p.hn<=1000000:=c;refine⟨by simp,?_⟩;simp[go_sem,RP,KN,hn,c];exact⟨fun h=>⟨h.2.1,h.2.2.1⟩,and_assoc⟩
def yB:AL:=AY (fun q:A7×Int×Int=>[poT q.1.n q.1.s q.1.hn q.1.h,pT q.2.1 q.2.2]) (fun q=>q.1.n<=1000000/\q.1.hn<=1000000) (fun q=>bR (Ep q.1 q.2.1 q.2.2))
theorem zFF(p:A7)(a b:Int):yB [poT p.n p.s p.hn p.h,pT a b]=some (p.n<=1000000/\p.hn<=1000000,bR (Ep p a b)):=Ag (fun l=>(Cw (nth l 0 0) (nth l 0 1),AS (nth l 1 0),AS (nth l 1 1))) (fun _=>rfl) (p,a,b)
theorem zAs:An Tryz.prog 87 yB:=by
 refine B6 Al (GOk.cons Rb (AE Tryz.func143 rfl rfl) (GOk.cons M4 (AE Tryz.func44 rfl rfl) GOk.nil)) Ak Tryz.func87 rfl Tryz.ntmps87 Tryz.results87 5 ?_;rintro⟨p,a,b⟩ ⟨hn,c⟩;replace hn:p.n<=1000000:=hn;replace c:p.hn<=1000000:=c;refine⟨by simp,?_⟩;simp[go_sem,RP,KN,hn,c];exact⟨fun h=>⟨h.2.1,h.2.2.1⟩,and_assoc⟩
set_option maxRecDepth 20000
set_option maxHeartbeats 1600000
theorem Bo:(Tr.s .o 3 n (Aw .z s)).kept:=⟨by simp,fun i j _ d=>match j,d with
 | 0,_=>trivial
 | 1,_=>⟨by simp,fun a b _ c=>match b,c with
  | 0,_=>trivial
  | 1,_=>trivial⟩
 | 2,_=>trivial⟩
theorem Bz:(Tr.s .o 1 n (BH h)).kept:=⟨by simp,fun i j _ _=>trivial⟩
theorem zG2(h:∀j,j<k->G 0 j=F n j):TrE (.s fl k (n+1) (Ai F n G)) (.s fl k (n+1) F):=by
 refine⟨.inl rfl,rfl,rfl,fun i j hi b=>TrE.of_eq ?_⟩;unfold Ai;by_cases a:i<n
 ·rw[if_pos a]
 ·cases (show i=n by omega);rw[if_neg a,Nat.sub_self,h j b]
abbrev poO(p:A7):Bool×List Tr:=(true,[.s .o 3 p.n (Aw .z p.s),.s .o 1 p.hn (BH p.h)])
def ql:AL:=AY (fun p:A7=>[poT p.n p.s p.hn p.h]) (fun p=>p.n<=1000000/\p.hn<=1000000/\∀i,i<p.n->(p.s i).kn<=1000000) (fun p=>[poO p])
theorem Lm(p:A7):ql [poT p.n p.s p.hn p.h]=some (p.n<=1000000/\p.hn<=1000000/\∀i,i<p.n->(p.s i).kn<=1000000,[poO p]):=Ag (fun l=>Cw (nth l 0 0) (nth l 0 1)) (fun _=>rfl) p
theorem OQ:An Tryz.prog 70 ql:=by
 refine B6 Al (GOk.cons zAq (AE Tryz.func134 rfl rfl) GOk.nil) Ak Tryz.func70 rfl Tryz.ntmps70 Tryz.results70 5 ?_;rintro p ⟨hn,d,f⟩;replace hn:p.n<=1000000:=hn;replace d:p.hn<=1000000:=d;refine⟨by simp,?_⟩;simp[go_sem,GR,TS];refine⟨by omega,?_⟩;refine BF (fun k:Nat=>⟨[(4,true,.i k),(3,true,.m false [.p 3 0]),(2,true,.m false [.p 2 0]),(1,true,.m false [.p 1 0])],[(3,.var [.h 7,.h 8]),(7,.row 3 k (Aw .z p.s)),(8,.row 1 p.hn (BH p.h)),(2,.var [.v n0,.v n0]),(1,.var [.s .b 3 p.n (Aw .b p.s),.s .b 1 p.hn (BH p.h)])]⟩) (fun k=>p.n - k) (fun k=>k<=p.n) 0 ?_ (by simp) ?_
 ·simp[go_sem];exact TrE.refl (.s .o 1 p.hn (BH p.h))
 rintro k g;simp[go_sem,Ar (show k<=1000000000 by omega),zFM];refine⟨fun c=>?_,fun c=>?_⟩
 ·have a:=f k c;refine⟨c,a,by omega,by kernel_rfl,k+1,by omega,by omega,by omega,zG2 fun j e=>?_⟩
  match j,e with
  | 0,_=>rfl
  | 1,_=>rfl
  | 2,_=>rfl
 ·cases (show k=p.n by omega);exact⟨⟨TrE.refl _,Bo⟩,Bz⟩
def GN(x:Int):Nat:=if 0<=x/\x<=200 then x.toNat else 0
def yA:AL:=AY (fun x:Int=>[iT x]) (fun _=>True) (fun x=>[poO (Cs (GN x))])
theorem zFE(x:Int):yA [iT x]=some (True,[poO (Cs (GN x))]):=Ag (fun l=>AS (nth l 0 0)) (fun _=>rfl) x
theorem zBH:An Tryz.prog 95 yA:=by
 refine B6 Al GOk.nil Ak Tryz.func95 rfl Tryz.ntmps95 Tryz.results95 5 ?_;rintro x -;refine⟨by simp,?_⟩;simp[go_sem];refine BF (fun k:Nat=>⟨[(4,true,.i k),(0,true,.i x),(3,true,.m false [.p 3 0]),(2,true,.m false [.p 2 0])],[(3,.var [.h 7,.v n0]),(7,.row 3 k (Aw .z fun _=>EW)),(2,.var [.v n0,.v n0])]⟩) (fun k=>200 - k) (fun k=>k<=GN x) 0 (by simp[go_sem]) (by simp) ?_;rintro k n;have o:GN x<=200:=by unfold GN;split<;>omega
 have g:IntKind.i64.wrap ((k:Int)+1)=(k+1:Nat):=by simpa using Ar (show k<=1000000000 by omega)
 simp[go_sem,Cs];refine⟨fun l d=>?_,fun h=>?_⟩
 ·have c:GN x=x.toNat:=if_pos ⟨by omega,d⟩;refine⟨by omega,k+1,by omega,by omega,g,?_⟩;refine⟨.inl rfl,rfl,rfl,fun i j hi f=>?_⟩;unfold Ai;by_cases b:i<k
  ·rw[if_pos b];exact TrE.refl _
  ·cases (show i=k by omega);rw[if_neg b,Nat.sub_self]
   match j,f with
   | 0,_=>rfl
   | 1,_=>exact⟨rfl,rfl⟩
   | 2,_=>rfl
 ·have c:k=GN x:=by
   by_cases a:0<=x/\x<=200
   ·have e:GN x=x.toNat:=if_pos a;omega
   ·have e:GN x=0:=if_neg a;omega
  rw[c];exact⟨TrE.refl _,Bo⟩
set_option maxRecDepth 20000
set_option maxHeartbeats 1600000
variable{p:A7}
theorem KR{a b:Int}(d:AZ p)(h:Db p a b):(p.s a.toNat).kn=8:=by
 rcases Qk d h.1 with c | c
 ·have:=h.2.1;omega
 ·exact c
theorem Yl{f g f' g':Nat->Int}:∀{k:Nat},(∀i,i<k->f i=f' i)->(∀i,i<k->g i=g' i)->kidsUp f g k=kidsUp f' g' k
 | 0,_,_=>rfl
 | k+1,h,h'=>by
  simp only[kidsUp];rw[Yl (fun i hi=>h i (by omega)) (fun i hi=>h' i (by omega)),h k (by omega),h' k (by omega)]
def yO:AL:=AY (fun q:A7×Int×Int=>[poT q.1.n q.1.s q.1.hn q.1.h,pT q.2.1 q.2.2]) (fun q=>AZ q.1/\B3 q.1 q.2.1 q.2.2) (fun q=>[(false,[.s .o 2 (AG q.1 q.2.1 q.2.2).length (ptL (AG q.1 q.2.1 q.2.2))])])
theorem Iy(p:A7)(a b:Int):yO [poT p.n p.s p.hn p.h,pT a b]=some (AZ p/\B3 p a b,[(false,[.s .o 2 (AG p a b).length (ptL (AG p a b))])]):=Ag (fun l=>(Cw (nth l 0 0) (nth l 0 1),AS (nth l 1 0),AS (nth l 1 1))) (fun _=>rfl) (p,a,b)
theorem Jr:An Tryz.prog 89 yO:=by
 refine B6 Al (GOk.cons Ks (AE Tryz.func85 rfl rfl) GOk.nil) Ak Tryz.func89 rfl Tryz.ntmps89 Tryz.results89 10 ?_;rintro⟨p,a,b⟩ ⟨u,A⟩;replace u:AZ p:=u;replace A:B3 p a b:=A;have hn:p.n<=200:=u.1;refine⟨by simp,?_⟩;simp[go_sem,G9];refine⟨fun D E=>?_,fun h=>?_⟩
 ·have e:AG p a b = []:=(by simp[AG,Nil,D,E]);rw[e];exact⟨La rfl,GZ⟩
 have C:¬Nil a b:=fun e=>h e.1 e.2
 obtain⟨f,v,-⟩:=A.resolve_left C;have r:=KR u f;refine⟨⟨f.1.2.1,f.1.2.2.1⟩,?_⟩;obtain⟨F,hF⟩:∃F:Nat->List (Int×Int),∀k,F k=(a,b) :: CR p (p.s a.toNat) k:=⟨_,fun _=>rfl⟩;have z:∀k,(F k).length<=9*k+1:=fun k=>by rw[hF];exact Nat.succ_le_succ (OM ..)
 refine BF (fun k:Nat=>⟨[(5,true,.m false [.h 7]),(2,true,.m false [.p 2 0]),(6,true,.m false [.s .b 2 (p.s a.toNat).kn (ptrsT (p.s a.toNat).ks (p.s a.toNat).kb)]),(7,true,.i k)],[(2,.var [.s .b 3 p.n (Aw .b p.s),.s .b 1 p.hn (BH p.h)]),(7,.row 2 (F k).length (ptL (F k)))]⟩) (fun k=>8 - k) (fun k=>k<=8) 0 ?_ (by simp) ?_
 ·simp[go_sem];exact Ga (l:=[]) HJ (by simp[hF,CR])
 rintro k K;simp[go_sem,Ar (show k<=1000000000 by omega),G9];have I:=z k;refine⟨fun w=>⟨w,fun x y=>⟨k+1,by omega,by omega,by omega,Gb ?_⟩,fun g=>?_⟩,fun w=>?_⟩
 ·rw[hF,hF];simp[CR,Ck,FE r (show k<8 by omega),FD r (show k<8 by omega),Nil,x,y]
 ·have c:=v.1 k (by omega);unfold JN at c;rw[FE r (by omega),FD r (by omega)]at c;obtain⟨o,B⟩:=c.resolve_left fun e=>g e.1 e.2
  have t:=KR u o;refine⟨w,by omega,w,⟨o.1.2.1,o.1.2.2.1⟩,by kernel_rfl,?_⟩;obtain⟨G,d⟩:∃G:Nat->List (Int×Int),∀j,G j=F k ++ (((p.s a.toNat).ks k,(p.s a.toNat).kb k) :: kidsUp (p.s ((p.s a.toNat).ks k).toNat).ks (p.s ((p.s a.toNat).ks k).toNat).kb j):=⟨_,fun _=>rfl⟩;refine BF (fun j:Nat=>⟨[(5,true,.m false [.h 7]),(2,true,.m false [.p 2 0]),(6,true,.m false [.s .b 2 (p.s a.toNat).kn (ptrsT (p.s a.toNat).ks (p.s a.toNat).kb)]),(8,true,.m false [.s .b 2 (p.s ((p.s a.toNat).ks k).toNat).kn (ptrsT (p.s ((p.s a.toNat).ks k).toNat).ks (p.s ((p.s a.toNat).ks k).toNat).kb)]),(7,true,.i k),(9,true,.i j)],[(2,.var [.s .b 3 p.n (Aw .b p.s),.s .b 1 p.hn (BH p.h)]),(7,.row 2 (G j).length (ptL (G j)))]⟩) (fun j=>8 - j) (fun j=>j<=8) 0 ?_ (by simp) ?_
  ·simp[go_sem];exact Ga HJ (by simp[d,kidsUp])
  rintro j J;have H:(G j).length<=100:=by
   have:=IB (p.s ((p.s a.toNat).ks k).toNat).ks (p.s ((p.s a.toNat).ks k).toNat).kb j;rw[d];simp;omega
  simp[go_sem,Ar (show j<=1000000000 by omega),Ar (show k<=1000000000 by omega),G9];refine⟨fun q=>⟨q,fun g'=>⟨q,by omega,j+1,by omega,by omega,by omega,Ga HJ ?_⟩,fun x y=>⟨j+1,by omega,by omega,by omega,Gb ?_⟩⟩,fun q=>⟨k+1,by omega,by omega,by omega,Gb ?_⟩⟩
  ·rw[d,d];simp[kidsUp,one,if_neg (show ¬Nil ((p.s ((p.s a.toNat).ks k).toNat).ks j) ((p.s ((p.s a.toNat).ks k).toNat).kb j)from fun e=>g' e.1 e.2)]
  ·rw[d,d];simp[kidsUp,one,Nil,x,y]
  ·cases (show j=8 by omega);rw[d,hF,hF];simp only[CR,Ck];rw[FE r (by omega),FD r (by omega),if_neg (show ¬Nil ((p.s a.toNat).ks k) ((p.s a.toNat).kb k)from fun e=>g e.1 e.2),Eh,Yl (f':=AK _) (g':=AW _) (fun i hi=>(FE t hi).symm) (fun i hi=>(FD t hi).symm)];rfl
 ·cases (show k=8 by omega);exact⟨Gb (by rw[hF,AG,if_neg C]),GZ⟩
theorem zIq{i:Nat}:DR encP (0,0) l i 0 = .v (.int .i64 (l[i]?.getD (0,0)).1):=rfl
theorem zIr{i:Nat}:DR encP (0,0) l i 1 = .v (.int .i64 (l[i]?.getD (0,0)).2):=rfl
theorem zGi{a b t:Int}(h:As p a b):((∀i,i<(AG p a b).length->((AG p a b)[i]?.getD (0,0)).2<=t)/\DS t)↔C8 b t:=by
 rw[<-zEZ h];refine and_congr_left fun _=>forall_congr' fun i=>imp_congr_right fun _=>?_
 rw[AP,List.getD_eq_getElem?_getD,Int.not_lt]
def qk:AL:=AY (fun q:A7×Int×Int×Int=>[poT q.1.n q.1.s q.1.hn q.1.h,pT q.2.1 q.2.2.1,iT q.2.2.2]) (fun q=>AZ q.1/\B3 q.1 q.2.1 q.2.2.1) (fun q=>bR (C8 q.2.2.1 q.2.2.2))
theorem Nj(p:A7)(a b t:Int):qk [poT p.n p.s p.hn p.h,pT a b,iT t]=some (AZ p/\B3 p a b,bR (C8 b t)):=Ag (fun l=>(Cw (nth l 0 0) (nth l 0 1),AS (nth l 1 0),AS (nth l 1 1),AS (nth l 2 0))) (fun _=>rfl) (p,a,b,t)
theorem YF:An Tryz.prog 180 qk:=by
 refine B6 Al (GOk.cons Jr (AE Tryz.func89 rfl rfl) (GOk.cons RZ (AE Tryz.func142 rfl rfl) GOk.nil)) Ak Tryz.func180 rfl Tryz.ntmps180 Tryz.results180 9 ?_;rintro⟨p,a,b,t⟩ ⟨d,e⟩;replace d:AZ p:=d;replace e:B3 p a b:=e;refine⟨by simp,?_⟩;simp[go_sem,Iy,d,e,<-zGi (show As p a b from⟨d,e⟩)];have l:=Dh p a b;refine BF (fun k:Nat=>⟨[(8,true,.i k),(7,true,.m false [.h 7]),(2,true,.i t)],[(7,.row 2 (AG p a b).length (ptL (AG p a b)))]⟩) (fun k=>(AG p a b).length - k) (fun k=>k<=(AG p a b).length/\∀i,i<k->((AG p a b)[i]?.getD (0,0)).2<=t) 0 (by simp[go_sem]) (by simp) ?_;rintro k ⟨j,c⟩;simp[go_sem,Ar (show k<=1000000000 by omega),Qe,zIq,zIr];exact⟨fun h=>⟨h,fun f g=>by have:=g k h;omega,fun f=>⟨k+1,⟨by omega,Br h c f⟩,by omega,rfl⟩⟩,fun h f i hi=>c i (by omega)⟩
theorem F9(h:∀i j,i<n->j<k->F i j=G i j):TrE (.s fl k n F) (.s fl k n G):=⟨.inl rfl,rfl,rfl,fun i j hi a=>TrE.of_eq (h i j hi a)⟩
theorem zHH{f' g':Nat->Int}(h:∀i,i<n->f i=f' i/\g i=g' i):TrE (.s fl 2 n (ptrsT f g)) (.s fl 2 n (ptrsT f' g')):=F9 fun i j hi a=>by
 match j,a with
 | 0,_=>exact congrArg (fun x=>Tr.v (.int .i64 x)) (h i hi).1
 | 1,_=>exact congrArg (fun x=>Tr.v (.int .i64 x)) (h i hi).2
def qu:AL:=AY (fun q:A7×Int×Int=>[poT q.1.n q.1.s q.1.hn q.1.h,pT q.2.1 q.2.2]) (fun q=>Ie q.1 q.2.1 q.2.2) (fun q=>[(false,[.s .o 2 8 (ptrsT (BU q.1 q.2.1 q.2.2) (Bf q.1 q.2.1 q.2.2))])])
theorem QY(p:A7)(a b:Int):qu [poT p.n p.s p.hn p.h,pT a b]=some (Ie p a b,[(false,[.s .o 2 8 (ptrsT (BU p a b) (Bf p a b))])]):=Ag (fun l=>(Cw (nth l 0 0) (nth l 0 1),AS (nth l 1 0),AS (nth l 1 1))) (fun _=>rfl) (p,a,b)
theorem RK:An Tryz.prog 183 qu:=by
 refine B6 Al (GOk.cons Ks (AE Tryz.func85 rfl rfl) GOk.nil) Ak Tryz.func183 rfl Tryz.ntmps183 Tryz.results183 5 ?_;rintro⟨p,a,b⟩ f;replace f:Ie p a b:=f;refine⟨by simp,?_⟩;by_cases c:Nil a b
 ·obtain⟨rfl,rfl⟩:=id c;simp[go_sem,G9,Kj];refine F9 fun i j hi k=>?_
  match j,k with
  | 0,_=>simp[ptrsT,BU,Nil]
  | 1,_=>simp[ptrsT,Bf,Nil]
 ·obtain⟨d,e⟩:=f.resolve_left c;simp[go_sem,G9,GR,Gy,Kj,e];exact⟨fun g h=>(c ⟨g,h⟩).elim,fun _=>⟨⟨d.2.1,d.2.2.1⟩,zHH fun i hi=>⟨by unfold BU;rw[if_neg c,FE e hi],by unfold Bf;rw[if_neg c,FD e hi]⟩⟩⟩
theorem N4(h:n<64):IntKind.i64.wrap ((n:Int) / 8)=((n / 8:Nat):Int):=by
 rw[IntKind.wrap_i64];omega
theorem Mf:(n:Int).tmod 8=((n % 8:Nat):Int):=(Int.ofNat_tmod n 8).symm
def yC:AL:=AY (fun q:A7×Int×Int×Nat=>[poT q.1.n q.1.s q.1.hn q.1.h,pT q.2.1 q.2.2.1,iT (q.2.2.2:Int)]) (fun q=>As q.1 q.2.1 q.2.2.1/\q.2.2.2<64) (fun q=>[pT (BZ q.1 q.2.1 q.2.2.1 q.2.2.2) (Bh q.1 q.2.1 q.2.2.1 q.2.2.2),pT (BV q.1 q.2.1 q.2.2.1 q.2.2.2) (Bj q.1 q.2.1 q.2.2.1 q.2.2.2)])
theorem Ut(p:A7)(a b:Int)(n:Nat):yC [poT p.n p.s p.hn p.h,pT a b,iT (n:Int)]=some (As p a b/\n<64,[pT (BZ p a b n) (Bh p a b n),pT (BV p a b n) (Bj p a b n)]):=Ag (fun l=>(Cw (nth l 0 0) (nth l 0 1),AS (nth l 1 0),AS (nth l 1 1),(AS (nth l 2 0)).toNat)) (fun _=>rfl) (p,a,b,n)
theorem YG:An Tryz.prog 182 yC:=by
 refine B6 Al (GOk.cons RK (AE Tryz.func183 rfl rfl) GOk.nil) Ak Tryz.func182 rfl Tryz.ntmps182 Tryz.results182 9 ?_;rintro⟨p,a,b,n⟩ ⟨c,hn⟩;replace c:As p a b:=c;replace hn:n<64:=hn;refine⟨by simp,?_⟩;simp[go_sem,QY,N4 hn,Mf];refine⟨Nb c,by omega,by omega,LY c (by omega),by omega,by omega,by kernel_rfl,?_⟩;rw[show((n:Int) / 8).toNat=n / 8 by omega,show((n:Int) % 8).toNat=n % 8 by omega];exact⟨⟨rfl,rfl⟩,rfl,rfl⟩
set_option maxRecDepth 20000
set_option maxHeartbeats 1600000
def P9(x:Int):Nat->Tr:=fun _=>.v (.int .i64 x)
abbrev inL(l:List Int):Nat->Nat->Tr:=DR P9 0 l
theorem QU{l:List Int}:(Tr.s fl k n (DR P9 0 l)).CY = .s .b k n (BH fun i=>l[i]?.getD 0):=rfl
theorem Bd:(Tr.s fl k n (DR encP (0,0) l)).CY = .s .b k n (ptrsT (fun i=>(l[i]?.getD (0,0)).1) (fun i=>(l[i]?.getD (0,0)).2)):=by
 rw[show DR encP (0,0) l=_ from zIK l];exact M5
variable{l:List Int}
theorem PL{i c:Nat}:DR P9 0 l i c = .v (.int .i64 (l[i]?.getD 0)):=rfl
variable{x:Int}
theorem Sp:Has l.length (fun i=>l[i]?.getD 0) x↔x∈l:=by
 rw[List.mem_iff_getElem?];constructor
 ·rintro⟨i,hi,rfl⟩;exact⟨i,by simp[hi]⟩
 ·rintro⟨i,hi⟩;have:=(List.getElem?_eq_some_iff.1 hi).1;exact⟨i,this,by simp[hi]⟩
theorem zGn:∀j,j<1->([Tr.v (Value.int .i64 x)][j]?.getD (.v (.bool false))).nt=P9 x j
 | 0,_=>rfl
theorem Tw{m:List Int}(h:l ++ [x]=m):TrE (.s fl 1 (l.length+1) (Ai (inL l) l.length (fun p q=>([Tr.v (Value.int .i64 x)][p+q]?.getD (.v (.bool false))).nt))) (.s fl 1 m.length (inL m)):=by
 have:=Ga (fl:=fl) (k:=1) (d:=(0:Int)) zGn h;simpa only[Nat.mul_one]using this
theorem OP{f g:Nat->Int}:∀{k:Nat},0<(kidsUp f g k).length↔∃i,i<k/\¬Nil (f i) (g i)
 | 0=>by simp[kidsUp]
 | k+1=>by
  rw[kidsUp,List.length_append];by_cases h:Nil (f k) (g k)
  ·rw[one,if_pos h,List.length_nil,Nat.add_zero,OP];exact⟨fun ⟨i,h1,h2⟩=>⟨i,by omega,h2⟩,fun ⟨i,h1,h2⟩=>⟨i,by rcases Nat.lt_succ_iff_lt_or_eq.1 h1 with a | rfl;exact a;exact absurd h h2,h2⟩⟩
  ·rw[one,if_neg h];exact⟨fun _=>⟨k,by omega,h⟩,fun _=>by simp⟩
theorem X0(h:¬Nil (f k) (g k)):(kidsUp f g (k+1)).length=(kidsUp f g k).length+1:=by simp[kidsUp,one,h]
theorem X1(h:Nil (f k) (g k)):(kidsUp f g (k+1)).length=(kidsUp f g k).length:=by simp[kidsUp,one,h]
theorem M0(h:AZ p):p.hn<=10000:=by
 have:=Kz h;unfold Ap at this;omega
attribute [local go_sem] QU Bd PL
def mTR:AL:=AY (fun q:A7×Int×Int=>[poT q.1.n q.1.s q.1.hn q.1.h,pT q.2.1 q.2.2]) (fun q=>AZ q.1) (fun q=>bR (B3 q.1 q.2.1 q.2.2))
theorem PP(p:A7)(a b:Int):mTR [poT p.n p.s p.hn p.h,pT a b]=some (AZ p,bR (B3 p a b)):=Ag (fun l=>(Cw (nth l 0 0) (nth l 0 1),AS (nth l 1 0),AS (nth l 1 1))) (fun _=>rfl) (p,a,b)
theorem Yn:An Tryz.prog 40 mTR:=by
 refine B6 Al (GOk.cons Ks (AE Tryz.func85 rfl rfl) (GOk.cons zAr (AE Tryz.func86 rfl rfl) (GOk.cons zAs (AE Tryz.func87 rfl rfl) (GOk.cons M4 (AE Tryz.func44 rfl rfl) GOk.nil)))) Ak Tryz.func40 rfl Tryz.ntmps40 Tryz.results40 12 ?_;rintro⟨p,a,b⟩ R;replace R:AZ p:=R;have hn:p.n<=200:=R.1;have hm:=M0 R;refine⟨by simp,?_⟩;simp[go_sem,G9,Ur];refine⟨fun l r=>.inl ⟨l,r⟩,fun h=>⟨⟨by omega,by omega⟩,fun l r=>?_,fun E=>⟨⟨E.1.2.1,E.1.2.2.1⟩,?_⟩⟩⟩
 ·exact l ((r.resolve_left fun e=>h e.1 e.2).1)
 have X:¬Nil a b:=fun e=>h e.1 e.2
 obtain⟨s,hs⟩:∃s,p.s a.toNat=s:=⟨_,rfl⟩;have Q:=KR R E;rw[hs]at Q;have U:B3 p a b↔LL p s/\(Dv p a s 8).Nodup:=by
  unfold B3;rw[hs,RV X,hs];exact⟨fun h=>(h.resolve_left X).2,fun h=>.inr ⟨E,h⟩⟩
 have B:∀{i},i<8->AK s i=s.ks i:=fun hi=>FE Q hi
 have W:∀{i},i<8->AW s i=s.kb i:=fun hi=>FD Q hi
 obtain⟨F,hF⟩:∃F:Nat->List Int,∀k,F k=Dv p a s k:=⟨_,fun _=>rfl⟩;obtain⟨C,M⟩:∃C:Nat->Nat,∀k,C k=(kidsUp (AK s) (AW s) k).length:=⟨_,fun _=>rfl⟩;have cA:∀k,C k<=k:=fun k=>by rw[M];exact IB ..
 have eA:∀k,k<=8->(F k).length<=73:=fun k Y=>by rw[hF];exact Tz p a s Y
 refine BF (fun k:Nat=>⟨[(5,true,.m false [.h 7]),(2,true,.m false [.p 2 0]),(6,true,.i (C k)),(7,true,.m false [.s .b 2 s.kn (ptrsT s.ks s.kb)]),(8,true,.i k)],[(2,.var [.s .b 3 p.n (Aw .b p.s),.s .b 1 p.hn (BH p.h)]),(7,.row 1 (F k).length (inL (F k)))]⟩) (fun k=>8 - k) (fun k=>k<=8/\(∀i,i<k->JN p s i)/\(F k).Nodup) 0 ?_ ?_ ?_
 ·simp[go_sem,hs,M,kidsUp,hF,Dv,CR,Bk];exact F9 fun i j hi hj=>by cases (show i=0 by omega);cases (show j=0 by omega);rfl
 ·simp[hF,Dv,CR,Bk]
 rintro k ⟨Y,w,O⟩;have jA:=eA k Y;simp[go_sem,hs,Q,Ar (show k<=1000000000 by omega),Ar (show C k<=1000000000 by have:=cA k;omega),G9,Ur,KN,Sp];refine⟨fun d=>⟨d,fun g1 g2=>⟨k+1,?_⟩,fun g=>⟨d,⟨by omega,by omega⟩,?_⟩⟩,fun d=>?_⟩
 ·replace d:k<8:=(by omega);have f:Nil (AK s k) (AW s k):=(by rw[B d,W d];exact⟨g1,g2⟩);have A:F (k+1)=F k:=(by rw[hF,hF];exact zEA f);have L:C (k+1)=C k:=(by rw[M,M];exact X1 f);rw[A,L];exact⟨⟨by omega,Br d w (.inl f),O⟩,by omega,⟨rfl,rfl⟩,TrE.refl _⟩
 ·replace d:k<8:=(by omega);have f:¬Nil (AK s k) (AW s k):=(by rw[B d,W d];exact fun e=>g e.1 e.2);have K:B3 p a b->∀i,i<=8->(EG p a s k i).Nodup:=fun h i hi=>by
   have r:=(U.1 h).2;rw[<-hs,<-RV X]at r;rw[<-hs]at f ⊢;exact zDn X r d hi f
  refine⟨fun _=>by omega,fun _=>by omega,by kernel_rfl,fun l r=>?_,fun H iA=>⟨by omega,by omega,by omega,⟨H.1.2.1,H.1.2.2.1⟩,by kernel_rfl,?_⟩⟩
  ·rcases l with l | l
   ·have u:=((U.1 r).1.1 k d).resolve_left f;rw[B d,W d]at u;exact l u.1
   ·have u:=K r 0 (by omega);rw[VT,Oa,B d,<-hF]at u;exact u.2 l
  obtain⟨t,P⟩:∃t,p.s (s.ks k).toNat=t:=⟨_,rfl⟩;have Z:=KR R H;rw[P]at Z;have z:∀{i},i<8->AK t i=t.ks i:=fun hi=>FE Z hi
  have I:∀{i},i<8->AW t i=t.kb i:=fun hi=>FD Z hi
  have x:JN p s k↔LI p t:=by
   unfold JN;rw[B d,W d,P];rw[B d,W d]at f;exact⟨fun h=>(h.resolve_left f).2,fun h=>.inr ⟨H,h⟩⟩
  obtain⟨G,J⟩:∃G:Nat->List Int,∀i,G i=EG p a s k i:=⟨_,fun _=>rfl⟩;obtain⟨D,N⟩:∃D:Nat->Nat,∀i,D i=(kidsUp (AK t) (AW t) i).length:=⟨_,fun _=>rfl⟩;have dA:∀i,D i<=i:=fun i=>by rw[N];exact IB ..
  have fA:∀i,i<=8->(G i).length<=90:=fun i hi=>by rw[J];exact zH3 p a s Y hi
  have T:G 0=F k ++ [s.ks k]:=(by rw[J,VT,<-hF,B d]);refine BF (fun i:Nat=>⟨[(5,true,.m false [.h 7]),(2,true,.m false [.p 2 0]),(6,true,.i (C k+1:Nat)),(7,true,.m false [.s .b 2 s.kn (ptrsT s.ks s.kb)]),(8,true,.i k),(9,true,.i (D i)),(10,true,.m false [.s .b 2 t.kn (ptrsT t.ks t.kb)]),(11,true,.i i)],[(2,.var [.s .b 3 p.n (Aw .b p.s),.s .b 1 p.hn (BH p.h)]),(7,.row 1 (G i).length (inL (G i)))]⟩) (fun i=>8 - i) (fun i=>i<=8/\(∀q,q<i->Nil (AK t q) (AW t q)\/Ep p (AK t q) (AW t q))/\(G i).Nodup) 0 ?_ ?_ ?_
  ·simp[go_sem,P,Q,N,kidsUp];exact Tw T.symm
  ·simp;rw[T,Oa];exact⟨O,iA⟩
  rintro i ⟨hi,v,y⟩;have kA:=fA i hi;simp[go_sem,hs,Q,P,Z,Ar (show i<=1000000000 by omega),Ar (show k<=1000000000 by omega),Ar (show D i<=1000000000 by have:=dA i;omega),G9,zFF,KN,Sp];refine⟨fun c=>⟨c,fun g1 g2=>⟨i+1,?_⟩,fun g'=>⟨c,⟨by omega,by omega⟩,?_⟩⟩,fun c=>?_⟩
  ·replace c:i<8:=(by omega);have o:Nil (AK t i) (AW t i):=(by rw[z c,I c];exact⟨g1,g2⟩);have A:G (i+1)=G i:=by
    rw[J,J];refine zFY ?_;rw[B d,P];exact o
   have L:D (i+1)=D i:=(by rw[N,N];exact X1 o);rw[A,L];exact⟨⟨by omega,Br c v (.inl o),y⟩,by omega,⟨rfl,rfl⟩,TrE.refl _⟩
  ·replace c:i<8:=(by omega);have o:¬Nil (AK t i) (AW t i):=(by rw[z c,I c];exact fun e=>g' e.1 e.2);have A:G (i+1)=G i ++ [t.ks i]:=by
    rw[J,J,zFX (by rw[B d,P];exact o),B d,P,z c]
   have L:D (i+1)=D i+1:=(by rw[N,N];exact X0 o);refine⟨fun _=>by omega,fun _=>by omega,by kernel_rfl,fun l r=>?_,fun gA V=>⟨by omega,by omega,i+1,⟨by omega,Br c v (.inr ?_),?_⟩,by omega,⟨by rw[L];rfl,rfl⟩,Tw A.symm⟩⟩
   ·rcases l with l | l
    ·have u:=((x.1 ((U.1 r).1.1 k d)).1 i c).resolve_left o;rw[z c,I c]at u;exact l u
    ·have u:=K r (i+1) (by omega);rw[<-J,A,Oa]at u;exact u.2 l
   ·rw[z c,I c];exact gA
   ·rw[A,Oa];exact⟨y,V⟩
  ·cases (show i=8 by omega);have S:(∃i,i<8/\¬Nil (AK t i) (AW t i))↔0<D 8:=(by rw[N,OP]);have A:F (k+1)=G 8:=(by rw[hF,J];exact Vi f);have L:C (k+1)=C k+1:=(by rw[M,M];exact X0 f);refine⟨fun l r=>?_,fun l=>⟨k+1,⟨by omega,Br d w (x.2 ⟨v,S.2 (by omega)⟩),by rw[A];exact y⟩,by omega,⟨by rw[L];rfl,rfl⟩,by rw[A];exact TrE.refl _⟩⟩;have:=S.1 (x.1 ((U.1 r).1.1 k d)).2;omega
 ·cases (show k=8 by omega);rw[U,<-hF,M,OP];exact⟨fun h=>⟨⟨w,h⟩,O⟩,fun h=>h.1.2⟩
def yx:AL:=AY (fun q:A7×Int×Int=>[poT q.1.n q.1.s q.1.hn q.1.h,pT q.2.1 q.2.2]) (fun q=>q.1.n<=1000000/\q.1.hn<=1000000) (fun q=>bR (As q.1 q.2.1 q.2.2))
theorem NT(p:A7)(a b:Int):yx [poT p.n p.s p.hn p.h,pT a b]=some (p.n<=1000000/\p.hn<=1000000,bR (As p a b)):=Ag (fun l=>(Cw (nth l 0 0) (nth l 0 1),AS (nth l 1 0),AS (nth l 1 1))) (fun _=>rfl) (p,a,b)
theorem Z1:An Tryz.prog 179 yx:=by
 refine B6 Al (GOk.cons Om (AE Tryz.func37 rfl rfl) (GOk.cons Yn (AE Tryz.func40 rfl rfl) GOk.nil)) Ak Tryz.func179 rfl Tryz.ntmps179 Tryz.results179 5 ?_;rintro⟨p,a,b⟩ ⟨hn,c⟩;replace hn:p.n<=1000000:=hn;replace c:p.hn<=1000000:=c;refine⟨by simp,?_⟩;simp[go_sem,OI,PP,hn,c,As]
set_option maxRecDepth 20000
set_option maxHeartbeats 1600000
def yG:AL:=AY (fun p:A7=>[poT p.n p.s p.hn p.h]) (fun p=>p.n<=1000000) (fun p=>[iT (roomN p.s p.n:Int)])
theorem zFK(p:A7):yG [poT p.n p.s p.hn p.h]=some (p.n<=1000000,[iT (roomN p.s p.n:Int)]):=Ag (fun l=>Cw (nth l 0 0) (nth l 0 1)) (fun _=>rfl) p
theorem zAp:An Tryz.prog 187 yG:=by
 refine B6 Al (GOk.cons OR (AE Tryz.func43 rfl rfl) GOk.nil) Ak Tryz.func187 rfl Tryz.ntmps187 Tryz.results187 5 ?_;rintro p hn;replace hn:p.n<=1000000:=hn;refine⟨by simp,?_⟩;simp[go_sem];refine BF (fun k:Nat=>⟨[(1,true,.m false [.p 1 0]),(3,true,.i (roomN p.s k)),(4,true,.i k)],[(1,.var [.s .b 3 p.n (Aw .b p.s),.s .b 1 p.hn (BH p.h)])]⟩) (fun k=>p.n - k) (fun k=>k<=p.n) 0 (by simp[go_sem,roomN]) (by simp) ?_;rintro k c;have d:=Ns p.s k;simp[go_sem,Ar (show k<=1000000000 by omega),Ar (show roomN p.s k<=1000000000 by omega),Lo];refine⟨fun a=>⟨a,fun h=>⟨k+1,by omega,by omega,by rw[Jl h];rfl,rfl⟩,fun h=>⟨k+1,by omega,by omega,by rw[J0 h],rfl⟩⟩,fun a=>?_⟩;cases (show k=p.n by omega);rfl
theorem zDI(p:A7)(k:Nat)(s:AH):TrE (.s fl 3 p.n (Ae (Aw .z p.s) k 0 [.v (.int .i64 s.birth),.s .z 2 s.kn (ptrsT s.ks s.kb),.v (.string s.data)])) (.s fl 3 p.n (Aw .z (Au p k s).s)):=by
 refine F9 fun i j hi a=>?_
 by_cases h:i=k
 ·subst h
  match j,a with
  | 0,_=>simp[Ae,Aw,Au]
  | 1,_=>simp[Ae,Aw,Au]
  | 2,_=>simp[Ae,Aw,Au]
 ·match j,a with
  | 0,_=>simp[Ae,Aw,Au,h]
  | 1,_=>simp[Ae,Aw,Au,h]
  | 2,_=>simp[Ae,Aw,Au,h]
def tk1(p:A7)(s:AH):A7×Int×Int×Bool:=@dite _ (∃i,Ba p.n p.s i) (Classical.propDecidable _) (fun h=>(Au p h.choose s,(h.choose:Int),s.birth,true)) (fun _=>(p,0,0,false))
theorem Gz{s:AH}{i:Nat}(h:Ba p.n p.s i):tk1 p s=(Au p i s,(i:Int),s.birth,true):=by
 have a:∃i,Ba p.n p.s i:=⟨i,h⟩;unfold tk1;rw[dif_pos a,a.choose_spec.uniq h]
theorem N5{s:AH}(h:∀i,i<p.n->¬Ah (p.s i)):tk1 p s=(p,0,0,false):=dif_neg fun ⟨i,hi⟩=>h i hi.1 hi.2.1
abbrev poV(p:A7):List Tr:=[.s .o 3 p.n (Aw .z p.s),.s .o 1 p.hn (BH p.h)]
abbrev slZ(s:AH):Bool×List Tr:=(true,[.v (.int .i64 s.birth),.s .z 2 s.kn (ptrsT s.ks s.kb),.v (.string s.data)])
def Rz:AL:=AY (fun q:A7×AH=>(true,poV q.1) :: [slZ q.2]) (fun q=>q.1.n<=1000000) (fun q=>[poO (tk1 q.1 q.2).1,pT (tk1 q.1 q.2).2.1 (tk1 q.1 q.2).2.2.1,(false,[.v (.bool (tk1 q.1 q.2).2.2.2)])])
theorem Uw(p:A7)(s:AH):Rz [(true,poV p),slZ s]=some (p.n<=1000000,[poO (tk1 p s).1,pT (tk1 p s).2.1 (tk1 p s).2.2.1,(false,[.v (.bool (tk1 p s).2.2.2)])]):=Ag (fun l=>(Cw (nth l 0 0) (nth l 0 1),KA (nth l 1 0) (nth l 1 1) (nth l 1 2))) (fun _=>rfl) (p,s)
theorem YE:DK Tryz.prog 185 Rz:=by
 refine Ev Al (GOk.cons OR (AE Tryz.func43 rfl rfl) GOk.nil) Ak Tryz.func185 rfl Tryz.ntmps185 Tryz.results185 7 ?_;rintro⟨p,s⟩ hn;replace hn:p.n<=1000000:=hn;refine⟨by simp,?_⟩;simp[go_sem];refine BF (fun k:Nat=>⟨[(6,true,.i k),(4,true,.m false [.p 4 0]),(3,true,.m false [.p 3 0]),(0,true,.m false [.p 0 0])],[(4,.var [.v i0,.v i0]),(3,.var [.v (.int .i64 s.birth),.s .z 2 s.kn (ptrsT s.ks s.kb),.v (.string s.data)]),(0,.var [.h 1000,.h 2000]),(1000,.row 3 p.n (Aw .z p.s)),(2000,.row 1 p.hn (BH p.h))]⟩) (fun k=>p.n - k) (fun k=>k<=p.n/\∀i,i<k->¬Ah (p.s i)) 0 (by simp[go_sem]) (by simp) ?_;rintro k ⟨c,a⟩;simp[go_sem,Ar (show k<=1000000000 by omega),Lo];refine⟨fun b=>⟨b,fun h=>?_,fun h=>⟨k+1,⟨by omega,Br b a h⟩,by omega,rfl⟩⟩,fun b=>?_⟩
 ·rw[Gz ⟨b,h,a⟩];exact⟨b,by kernel_rfl,⟨⟨zDI p k s,Bo⟩,TrE.refl _,Bz⟩,⟨rfl,rfl⟩,rfl⟩
 ·rw[N5 fun i hi=>a i (by omega)];exact⟨⟨⟨TrE.refl _,Bo⟩,TrE.refl _,Bz⟩,⟨rfl,rfl⟩,rfl⟩
def orSp(a b:AL):AL:=fun l=>match a l with
 | some r=>some r
 | none=>b l
variable{a b:AL}{l:List (Bool×List Tr)}{r:Prop×List (Bool×List Tr)}
theorem qI(h:a l=some r):orSp a b l=some r:=by unfold orSp;rw[h]
theorem qJ(h:a l=none)(c:b l=some r):orSp a b l=some r:=by unfold orSp;rw[h];exact c
theorem VU{A:ι->List (Bool×List Tr)}{C:ι->Prop}{R:ι->List (Bool×List Tr)}(h:∀x,A x≠l):AY A C R l=none:=dif_neg fun ⟨x,hx⟩=>h x hx
variable{f:Nat}
theorem zFn(h:DK P f a)(i:DK P f b):DK P f (orSp a b):=by
 intro w vs e c rs d g;unfold orSp at d;split at d
 ·rename_i r hr
  cases d;exact h w vs e c rs hr g
 ·exact i w vs e c rs d g
def PJ:AL:=AY (fun q:A7×Int×ByteArray=>(true,poV q.1) :: [(true,[.v (.int .i64 q.2.1),.v n0,.v (.string q.2.2)])]) (fun q=>q.1.n<=1000000) (fun q=>[poO (tk1 q.1 (BM q.2.1 q.2.2)).1,pT (tk1 q.1 (BM q.2.1 q.2.2)).2.1 (tk1 q.1 (BM q.2.1 q.2.2)).2.2.1,(false,[.v (.bool (tk1 q.1 (BM q.2.1 q.2.2)).2.2.2)])])
theorem zGK:DK Tryz.prog 185 PJ:=by
 intro w vs g c rs a i E ys j l;obtain⟨⟨p,b,d⟩,e,hn,rfl⟩:∃q:A7×Int×ByteArray,(true,poV q.1) :: [(true,[.v (.int .i64 q.2.1),.v n0,.v (.string q.2.2)])]=(true,vs) :: g/\q.1.n<=1000000/\[poO (tk1 q.1 (BM q.2.1 q.2.2)).1,pT (tk1 q.1 (BM q.2.1 q.2.2)).2.1 (tk1 q.1 (BM q.2.1 q.2.2)).2.2.1,(false,[.v (.bool (tk1 q.1 (BM q.2.1 q.2.2)).2.2.2)])]=rs:=by
  unfold PJ AY at a;split at a
  ·rename_i k
   cases a;exact⟨_,k.choose_spec,i,rfl⟩
  ·cases a
 simp only[List.cons.injEq,Prod.mk.injEq,true_and]at e;obtain⟨rfl,rfl⟩:=e;refine YE w (poV p) [slZ (BM b d)] _ _ (Uw p (BM b d)) hn E ys j ?_;cases l with
 | cons f t=>
  cases t;obtain⟨cs,e,f⟩:=f;refine .cons ⟨cs,e,?_⟩ .nil;cases f with
  | cons k1 k2=>
   cases k2 with
   | cons k2 k3=>exact .cons k1 (.cons ⟨none,0,k2.1,Nat.le_refl _,fun h=>absurd h (Nat.lt_irrefl _)⟩ k3)
def mTk:AL:=orSp Rz PJ
theorem yT:DK Tryz.prog 185 mTk:=zFn YE zGK
theorem Zh(p:A7)(b:Int)(n:Nat)(c a:Nat->Int)(d:ByteArray):mTk [(true,poV p),(true,[.v (.int .i64 b),.s .z 2 n (ptrsT c a),.v (.string d)])]=some (p.n<=1000000,[poO (tk1 p ⟨b,n,c,a,d⟩).1,pT (tk1 p ⟨b,n,c,a,d⟩).2.1 (tk1 p ⟨b,n,c,a,d⟩).2.2.1,(false,[.v (.bool (tk1 p ⟨b,n,c,a,d⟩).2.2.2)])]):=qI (Uw p ⟨b,n,c,a,d⟩)
theorem zH1(p:A7)(b:Int)(d:ByteArray):mTk [(true,poV p),(true,[.v (.int .i64 b),.v n0,.v (.string d)])]=some (p.n<=1000000,[poO (tk1 p (BM b d)).1,pT (tk1 p (BM b d)).2.1 (tk1 p (BM b d)).2.2.1,(false,[.v (.bool (tk1 p (BM b d)).2.2.2)])]):=by
 refine qJ (VU fun x h=>?_) (Ag (fun l=>(Cw (nth l 0 0) (nth l 0 1),AS (nth l 1 0),CO (nth l 1 2))) (fun _=>rfl) (p,b,d));simp at h
set_option maxRecDepth 20000
set_option maxHeartbeats 1600000
theorem Ul(h:AZ p):∀i,i<p.n->(p.s i).kn<=8:=fun i hi=>by
 rcases h.2.1 i hi with a | a
 ·have:=a.2.1;omega
 ·rcases a.2 with b | b
  ·omega
  ·omega
abbrev toR(t:D9):Bool×List Tr:=(true,[.s .o 3 t.pool.n (Aw .z t.pool.s),.s .o 1 t.pool.hn (BH t.pool.h),.v (.int .i64 t.rs),.v (.int .i64 t.rb),.s .o 2 t.old.length (ptL t.old),.v (.int .i64 t.code)])
abbrev sT(d:ByteArray):Bool×List Tr:=(false,[.v (.string d)])
theorem AR.upE{w:World}{g:Nat->Bs}:∀{l m:List Tr} {cs:List Value},AR TrE l m->AR (Sh w g) l cs->AR (Sh w g) m cs
 | _,_,_,.nil,h=>by cases h;exact .nil
 | _,_,_,.cons e t,h=>by
  cases h with
  | cons y ty=>exact .cons (y.e e) (AR.upE t ty)
theorem An.up{m m2:AL}(h:An P f m)(H:∀d c rs,m2 d=some (c,rs)->∃a,m a=some (c,rs)/\AR (fun q i=>q.1=i.1/\AR TrE q.2 i.2) d a):An P f m2:=by
 intro w d c rs b p g0 ys r l;obtain⟨a,k,j⟩:=H d c rs b;refine h w a c rs k p g0 ys r ?_;clear b k H
 induction j generalizing ys with
 | nil=>cases l;exact .nil
 | cons e t ih=>
  cases l with
  | cons y ty=>
   refine .cons ?_ (ih _ ty)
   rename_i q i _ _ u _
   obtain⟨q1,s⟩:=q;obtain⟨r1,v⟩:=i;obtain⟨n,g⟩:=e;cases (show q1=r1 from n);cases q1
   ·obtain⟨T,o,hs⟩:=y;cases (show s = [T] from o);cases g with
    | cons g t2=>cases t2;exact⟨_,rfl,hs.e g⟩
   ·obtain⟨cs,e,hs⟩:=y;refine⟨cs,e,?_⟩;exact AR.upE g hs
theorem An.upk{κ:Type}{A:ι->List (Bool×List Tr)}{C:ι->Prop}{R:ι->List (Bool×List Tr)}{m:AL}(h:An P f m)(H:∀x,∃a,m a=some (C x,R x)/\AR (fun q g=>q.1=g.1/\AR TrE q.2 g.2) (A x) a):An P f (AY A C R):=h.up fun j c rs e=>by
 unfold AY at e;split at e
 ·rename_i d
  cases e;obtain⟨a,i,b⟩:=H d.choose;rw[d.choose_spec]at b;exact⟨a,i,b⟩
 ·cases e
def PB(a b c d e f:Int):Nat->Nat->Tr:=fun p q=>([Tr.v (.int .i64 a),.v (.int .i64 b),.v (.int .i64 c),.v (.int .i64 d),.v (.int .i64 e),.v (.int .i64 f)]:List Tr)[p*2+q]?.getD (.v (.bool false))
def f3(a b c:Int):Nat->Int
 | 0=>a
 | 1=>b
 | _=>c
theorem R2{a b c d e f:Int}:(Tr.s fl 2 3 fun p q=>([Tr.v (.int .i64 a),.v (.int .i64 b),.v (.int .i64 c),.v (.int .i64 d),.v (.int .i64 e),.v (.int .i64 f)]:List Tr)[p*2+q]?.getD (.v (.bool false))).CY = .s .b 2 3 (PB a b c d e f):=by
 simp only[Tr.CY];congr 1;funext p q;simp only[PB];generalize p*2+q=j
 match j with
 | 0 | 1 | 2 | 3 | 4 | 5=>rfl
 | j+6=>rfl
def qz:AL:=AY (fun q:(Int×Int×Int)×Int×Int×Int=>[(false,[.s .b 2 3 (PB q.1.1 q.2.1 q.1.2.1 q.2.2.1 q.1.2.2 q.2.2.2)])]) (fun q=>(3:Nat)<=1000000) (fun q=>[(false,[.s .o 2 (kidsUp (f3 q.1.1 q.1.2.1 q.1.2.2) (f3 q.2.1 q.2.2.1 q.2.2.2) 3).length (ptL (kidsUp (f3 q.1.1 q.1.2.1 q.1.2.2) (f3 q.2.1 q.2.2.1 q.2.2.2) 3))])])
theorem Us(a b c d e f:Int):qz [(false,[.s .b 2 3 (PB a b c d e f)])]=some ((3:Nat)<=1000000,[(false,[.s .o 2 (kidsUp (f3 a c e) (f3 b d f) 3).length (ptL (kidsUp (f3 a c e) (f3 b d f) 3))])]):=Ag (fun l=>((AS (Bp (nth l 0 0) 0 0),AS (Bp (nth l 0 0) 1 0),AS (Bp (nth l 0 0) 2 0)),AS (Bp (nth l 0 0) 0 1),AS (Bp (nth l 0 0) 1 1),AS (Bp (nth l 0 0) 2 1))) (fun _=>rfl) ((a,c,e),b,d,f)
theorem Ta:An Tryz.prog 186 qz:=X3.upk (κ:=Nat) fun ⟨⟨a,c,e⟩,b,d,f⟩=>⟨_,TA 3 (f3 a c e) (f3 b d f),.cons ⟨rfl,.cons (F9 fun i j hi g=>by
 match i,j,hi,g with
 | 0,0,_,_=>rfl
 | 0,1,_,_=>rfl
 | 1,0,_,_=>rfl
 | 1,1,_,_=>rfl
 | 2,0,_,_=>rfl
 | 2,1,_,_=>rfl) .nil⟩ .nil⟩
variable{xs xb:Int}
theorem qQ:Ej (BU p (BV p xs xb n) (Bj p xs xb n)) (n % 8) x=Ao p xs xb n 1 x:=rfl
theorem qS:Ej (Bf p (BV p xs xb n) (Bj p xs xb n)) (n % 8) x=Am p xs xb n 1 x:=rfl
theorem qP:Ej (BU p xs xb) (n / 8) x=Ao p xs xb n 0 x:=rfl
theorem qR:Ej (Bf p xs xb) (n / 8) x=Am p xs xb n 0 x:=rfl
attribute [local go_sem] QG R2
def mTW:AL:=AY (fun q:(A7×Int×Int)×Int×ByteArray×Int=>[poT q.1.1.n q.1.1.s q.1.1.hn q.1.1.h,pT q.1.2.1 q.1.2.2,iT q.2.1,sT q.2.2.1,iT q.2.2.2]) (fun q=>q.1.1.n<=1000000/\q.1.1.hn<=1000000) (fun q=>[toR (CF q.1.1 q.1.2.1 q.1.2.2 q.2.1 q.2.2.1 q.2.2.2)])
theorem zIE(p:A7)(xs xb AM:Int)(d:ByteArray)(b:Int):mTW [poT p.n p.s p.hn p.h,pT xs xb,iT AM,sT d,iT b]=some (p.n<=1000000/\p.hn<=1000000,[toR (CF p xs xb AM d b)]):=Ag (fun l=>((Cw (nth l 0 0) (nth l 0 1),AS (nth l 1 0),AS (nth l 1 1)),AS (nth l 2 0),CO (nth l 3 0),AS (nth l 4 0))) (fun _=>rfl) ((p,xs,xb),AM,d,b)
theorem zCK:An Tryz.prog 151 mTW:=by
 refine B6 Al (GOk.cons OQ (AE Tryz.func70 rfl rfl) (GOk.cons Z1 (AE Tryz.func179 rfl rfl) (GOk.cons YF (AE Tryz.func180 rfl rfl) (GOk.cons Ys (AE Tryz.func181 rfl rfl) (GOk.cons YG (AE Tryz.func182 rfl rfl) (GOk.cons RK (AE Tryz.func183 rfl rfl) (GOk.cons Ta (AE Tryz.func186 rfl rfl) (GOk.cons zAp (AE Tryz.func187 rfl rfl) (GOk.ptrK yT (AE Tryz.func185 rfl rfl) GOk.nil))))))))) Ak Tryz.func151 rfl Tryz.ntmps151 Tryz.results151 22 ?_;rintro⟨⟨p,xs,xb⟩,AM,d,b⟩ ⟨hn,o⟩;replace hn:p.n<=1000000:=hn;replace o:p.hn<=1000000:=o;refine⟨by simp,?_⟩;by_cases m:EY AM;rotate_left
 ·have v:(0<=AM/\AM<=63)↔False:=⟨m,False.elim⟩;simp[go_sem,NT,Nj,OU,v,hn,o];refine⟨fun h=>?_,fun B=>⟨fun h=>h,fun h=>?_,fun c j=>?_⟩⟩
  ·rw[Oc (by omega)];exact⟨rfl,rfl,rfl,rfl,rfl,rfl⟩
  ·rw[MK (by omega) fun e=>h.elim (· e.1) (· e.2)];exact⟨rfl,rfl,rfl,rfl,rfl,rfl⟩
  ·rw[MO (by omega) ⟨c,j⟩ fun e=>m e.1];exact⟨rfl,rfl,rfl,rfl,rfl,rfl⟩
 obtain⟨n,rfl⟩:=Int.eq_ofNat_of_zero_le m.1;have a:n<64:=by have:=m.2;omega
 simp[go_sem,NT,Nj,OU,zFK,Lm,Ut,Zh,zH1,QY,Us,hn,o,N4 a,Mf];refine⟨fun h=>?_,fun B=>⟨fun h=>h,fun h=>?_,fun c j=>?_⟩⟩
 ·rw[Oc (by omega)];exact⟨rfl,rfl,rfl,rfl,rfl,rfl⟩
 ·rw[MK (by omega) fun e=>h.elim (· e.1) (· e.2)];exact⟨rfl,rfl,rfl,rfl,rfl,rfl⟩
 refine⟨fun h=>?_,fun C x=>⟨fun h=>?_,fun h=>?_⟩⟩
 ·rw[MO (by omega) ⟨c,j⟩ fun e=>h.elim (fun h=>absurd h (by omega)) (fun h=>h (by exact_mod_cast e.2))];exact⟨rfl,rfl,rfl,rfl,rfl,rfl⟩
 ·rw[Xr c a j (by exact_mod_cast x) (by exact_mod_cast h)];exact⟨rfl,rfl,rfl,rfl,rfl,rfl⟩
 have g:d.size=16:=by exact_mod_cast x
 have G:3<=roomN p.s p.n:=by exact_mod_cast h
 obtain⟨i0,l⟩:=IE (f:=p.s) (n:=p.n) (by omega);refine⟨fun i hi=>by have:=Ul c.1 i hi;omega,⟨c,a⟩,?_⟩;have u:Ie p xs xb:=Nb c;have t:Ie p (BV p xs xb n) (Bj p xs xb n):=LY c (by omega);have H:roomN (Bg p b d i0).s p.n+1=roomN p.s p.n:=Km (s:=BM b d) l (Gd j.1 g);obtain⟨k,r⟩:=IE (f:=(Bg p b d i0).s) (n:=p.n) (by omega);have q1:roomN (Cz p xs xb n b d i0 k).s p.n+1=roomN (Bg p b d i0).s p.n:=Km (p:=Bg p b d i0) r (I3 c a j l);obtain⟨y,w⟩:=IE (f:=(Cz p xs xb n b d i0 k).s) (n:=p.n) (by omega);have D:tk1 p (BM b d)=(Bg p b d i0,(i0:Int),b,true):=Gz l;have E:tk1 (Bg p b d i0) ⟨b,8,Ao p xs xb n 1 (i0:Int),Am p xs xb n 1 b,⟨#[]⟩⟩=(Cz p xs xb n b d i0 k,(k:Int),b,true):=Gz r;have F:tk1 (Cz p xs xb n b d i0 k) ⟨b,8,Ao p xs xb n 0 (k:Int),Am p xs xb n 0 b,⟨#[]⟩⟩=(IS p xs xb n b d i0 k y,(y:Int),b,true):=Gz w;have z:((n:Int) % 8).toNat=n % 8:=by omega
 have q:((n:Int) / 8).toNat=n / 8:=by omega
 simp only[z,q,D,E,F,qQ,qS,qP,qR];rw[UR c a j g l r w];refine⟨t,by omega,by omega,hn,u,by omega,by omega,hn,?_⟩;have A:BS p xs xb n 3=kidsUp (f3 (BZ p xs xb n) (BV p xs xb n) xs) (f3 (Bh p xs xb n) (Bj p xs xb n) xb) 3:=rfl;rw[A];exact⟨by kernel_rfl,⟨TrE.refl _,Bo⟩,⟨TrE.refl _,Bz⟩,rfl,rfl,⟨TrE.refl _,GZ⟩,rfl⟩
end
end Go.Proofs.YtddigaohmfpepaaGreatDoor
