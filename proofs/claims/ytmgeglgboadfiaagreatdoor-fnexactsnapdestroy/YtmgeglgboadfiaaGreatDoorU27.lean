/- A part of the proof. -/
import Derived.Test.YtmgeglgboadfiaaGreatDoorRows
import Derived.Test.YtmgeglgboadfiaaGreatDoorU1
import Derived.ChangeSame
import Derived.ChangeVars
import Derived.JoinedOf
import Derived.LaidLaws
import Derived.Stop.LaidTwo
import Derived.Stop.Joined
import Derived.Stop.ErrReads
import Derived.MakeChecks
import Derived.OpenShut
import Derived.ChangeOld
set_option linter.unusedVariables false
set_option maxRecDepth 20000
set_option maxHeartbeats 4000000
namespace Go.Proofs.YtmgeglgboadfiaaGreatDoor
open Go.ChangeShapes Go.WideShapes Go.RowKit
set_option maxRecDepth 100000
abbrev zJ3:List (String×DataW Unit):=[("loop.example/g00381/impl.errForm",Rows.laid_loop_example_g00381_impl_errForm),("loop.example/g00381/impl.errSize",Rows.laid_loop_example_g00381_impl_errSize),("loop.example/g00381/impl.errNone",Rows.laid_loop_example_g00381_impl_errNone),("loop.example/g00381/impl.errThere",Rows.laid_loop_example_g00381_impl_errThere),("loop.example/g00381/impl.errFull",Rows.laid_loop_example_g00381_impl_errFull),("loop.example/g00381/impl.errState",Rows.laid_loop_example_g00381_impl_errState),("loop.example/g00381/impl.errRange",Rows.laid_loop_example_g00381_impl_errRange)]
def errN:Nat->String
 | 0=> "loop.example/g00381/impl.errForm"
 | 1=> "loop.example/g00381/impl.errSize"
 | 2=> "loop.example/g00381/impl.errNone"
 | 3=> "loop.example/g00381/impl.errThere"
 | 4=> "loop.example/g00381/impl.errFull"
 | 5=> "loop.example/g00381/impl.errState"
 | _=> "loop.example/g00381/impl.errRange"
theorem yn(i:Nat)(h:i<7):Tryz.prog.globalNamed (errN i)=some (zAW i)/\(Tryz.prog.globals[zAW i]?).map (·.type)=some 73:=by
 match i,h with
 | 0,_=>exact⟨by kernel_rfl,by kernel_rfl⟩
 | 1,_=>exact⟨by kernel_rfl,by kernel_rfl⟩
 | 2,_=>exact⟨by kernel_rfl,by kernel_rfl⟩
 | 3,_=>exact⟨by kernel_rfl,by kernel_rfl⟩
 | 4,_=>exact⟨by kernel_rfl,by kernel_rfl⟩
 | 5,_=>exact⟨by kernel_rfl,by kernel_rfl⟩
 | 6,_=>exact⟨by kernel_rfl,by kernel_rfl⟩
theorem zLl : "*" ++ "errors.errorString" = "*errors.errorString" :=by decide
theorem zEO(u:TypeId)(h:Tryz.prog.typeName? 3 u=some "*errors.errorString"):u=269:=
 typeName_ptr_named (nm:= "errors.errorString") (by rw[zLl];kernel_rfl) (by kernel_rfl) (by decide) u (by rw[zLl];exact h)
theorem zBv:Tryz.prog.cellsOf 295=1:=by kernel_rfl
theorem zB5:Tryz.prog.cellsOf 9=1:=by kernel_rfl
theorem zIn{W:World}(h:laidMetH Tryz.prog zJ3 W):∃p:Nat->Addr,zEd W p/\∀i,i<7->W.var? Tryz.prog (errN i)=some #[qC (p i)]:=by
 rw[MakeChecks.laidMetH_plain _ _ _ (by kernel_rfl)]at h;obtain⟨ps,⟨g0,t0,tA,f0,p0,q0,dA,nB,lA,fB,⟨g1,t1,vA,f1,p1,q1,eA,oB,mA,gB,⟨g2,t2,aB,f2,p2,q2,fA,pB,nA,iB,⟨g3,t3,bB,f3,p3,q3,gA,rB,oA,jB,⟨g4,t4,cB,f4,p4,q4,iA,sB,pA,kB,⟨g5,t5,dB,f5,p5,q5,jA,tB,rA,lB,⟨g6,t6,eB,f6,p6,q6,kA,vB,sA,mB,_,e6⟩,e5⟩,e4⟩,e3⟩,e2⟩,e1⟩,e0⟩,bA,aA⟩:=h;obtain rfl:=Option.some.inj ((yn 0 (by omega)).1.symm.trans dA);obtain rfl:=Option.some.inj ((yn 0 (by omega)).2.symm.trans nB);obtain rfl:=Option.some.inj ((yn 1 (by omega)).1.symm.trans eA);obtain rfl:=Option.some.inj ((yn 1 (by omega)).2.symm.trans oB);obtain rfl:=Option.some.inj ((yn 2 (by omega)).1.symm.trans fA);obtain rfl:=Option.some.inj ((yn 2 (by omega)).2.symm.trans pB);obtain rfl:=Option.some.inj ((yn 3 (by omega)).1.symm.trans gA);obtain rfl:=Option.some.inj ((yn 3 (by omega)).2.symm.trans rB);obtain rfl:=Option.some.inj ((yn 4 (by omega)).1.symm.trans iA);obtain rfl:=Option.some.inj ((yn 4 (by omega)).2.symm.trans sB);obtain rfl:=Option.some.inj ((yn 5 (by omega)).1.symm.trans jA);obtain rfl:=Option.some.inj ((yn 5 (by omega)).2.symm.trans tB);obtain rfl:=Option.some.inj ((yn 6 (by omega)).1.symm.trans kA);obtain rfl:=Option.some.inj ((yn 6 (by omega)).2.symm.trans vB);subst e6;subst e5;subst e4;subst e3;subst e2;subst e1;subst e0;obtain⟨l0⟩:=tA;have aC:∀u v,l0 = [.iface u v]->Value.okWide Tryz.prog W .any 0 u v:=fun u v e=>by
  subst e;exact(aA (zAW 0) 0 (by simp[MemPlace.row])).2 u v (by simpa using World.var?_cell dA lA 0)
 obtain⟨a0,s0,rfl,iC,pC,cD,rfl⟩:=errorString_of_trod Tryz.underlying73 zEO Tryz.underlying269 Tryz.underlying295 rfl rfl Tryz.underlying9 zBv zB5 fB aC;obtain⟨l1⟩:=vA;have bC:∀u v,l1 = [.iface u v]->Value.okWide Tryz.prog W .any 0 u v:=fun u v e=>by
  subst e;exact(aA (zAW 1) 0 (by simp[MemPlace.row])).2 u v (by simpa using World.var?_cell eA mA 0)
 obtain⟨a1,s1,rfl,jC,rC,dD,rfl⟩:=errorString_of_trod Tryz.underlying73 zEO Tryz.underlying269 Tryz.underlying295 rfl rfl Tryz.underlying9 zBv zB5 gB bC;obtain⟨l2⟩:=aB;have cC:∀u v,l2 = [.iface u v]->Value.okWide Tryz.prog W .any 0 u v:=fun u v e=>by
  subst e;exact(aA (zAW 2) 0 (by simp[MemPlace.row])).2 u v (by simpa using World.var?_cell fA nA 0)
 obtain⟨a2,s2,rfl,kC,sC,eD,rfl⟩:=errorString_of_trod Tryz.underlying73 zEO Tryz.underlying269 Tryz.underlying295 rfl rfl Tryz.underlying9 zBv zB5 iB cC;obtain⟨l3⟩:=bB;have dC:∀u v,l3 = [.iface u v]->Value.okWide Tryz.prog W .any 0 u v:=fun u v e=>by
  subst e;exact(aA (zAW 3) 0 (by simp[MemPlace.row])).2 u v (by simpa using World.var?_cell gA oA 0)
 obtain⟨a3,s3,rfl,lC,tC,fD,rfl⟩:=errorString_of_trod Tryz.underlying73 zEO Tryz.underlying269 Tryz.underlying295 rfl rfl Tryz.underlying9 zBv zB5 jB dC;obtain⟨l4⟩:=cB;have eC:∀u v,l4 = [.iface u v]->Value.okWide Tryz.prog W .any 0 u v:=fun u v e=>by
  subst e;exact(aA (zAW 4) 0 (by simp[MemPlace.row])).2 u v (by simpa using World.var?_cell iA pA 0)
 obtain⟨a4,s4,rfl,mC,vC,gD,rfl⟩:=errorString_of_trod Tryz.underlying73 zEO Tryz.underlying269 Tryz.underlying295 rfl rfl Tryz.underlying9 zBv zB5 kB eC;obtain⟨l5⟩:=dB;have fC:∀u v,l5 = [.iface u v]->Value.okWide Tryz.prog W .any 0 u v:=fun u v e=>by
  subst e;exact(aA (zAW 5) 0 (by simp[MemPlace.row])).2 u v (by simpa using World.var?_cell jA rA 0)
 obtain⟨a5,s5,rfl,nC,aD,iD,rfl⟩:=errorString_of_trod Tryz.underlying73 zEO Tryz.underlying269 Tryz.underlying295 rfl rfl Tryz.underlying9 zBv zB5 lB fC;obtain⟨l6⟩:=eB;have gC:∀u v,l6 = [.iface u v]->Value.okWide Tryz.prog W .any 0 u v:=fun u v e=>by
  subst e;exact(aA (zAW 6) 0 (by simp[MemPlace.row])).2 u v (by simpa using World.var?_cell kA sA 0)
 obtain⟨a6,s6,rfl,oC,bD,jD,rfl⟩:=errorString_of_trod Tryz.underlying73 zEO Tryz.underlying269 Tryz.underlying295 rfl rfl Tryz.underlying9 zBv zB5 mB gC;refine⟨fun | 0=>a0 | 1=>a1 | 2=>a2 | 3=>a3 | 4=>a4 | 5=>a5 | _=>a6,⟨fun i hi=>?_,fun i hi=>?_,fun i j hi hj cA he=>?_⟩,fun i hi=>?_⟩
 ·match i,hi with
  | 0,_=>simpa using World.var?_cell dA lA 0
  | 1,_=>simpa using World.var?_cell eA mA 0
  | 2,_=>simpa using World.var?_cell fA nA 0
  | 3,_=>simpa using World.var?_cell gA oA 0
  | 4,_=>simpa using World.var?_cell iA pA 0
  | 5,_=>simpa using World.var?_cell jA rA 0
  | 6,_=>simpa using World.var?_cell kA sA 0
 ·match i,hi with
  | 0,_=>exact(aA a0.block a0.off (by simp[MemPlace.row])).1
  | 1,_=>exact(aA a1.block a1.off (by simp[MemPlace.row])).1
  | 2,_=>exact(aA a2.block a2.off (by simp[MemPlace.row])).1
  | 3,_=>exact(aA a3.block a3.off (by simp[MemPlace.row])).1
  | 4,_=>exact(aA a4.block a4.off (by simp[MemPlace.row])).1
  | 5,_=>exact(aA a5.block a5.off (by simp[MemPlace.row])).1
  | 6,_=>exact(aA a6.block a6.off (by simp[MemPlace.row])).1
 ·simp only[MemPlace.row]at bA
  match i,hi,j,hj with
  | 0,_,0,_=>exact absurd rfl cA
  | 0,_,1,_=>obtain rfl:a0=a1:=he;simp at bA
  | 0,_,2,_=>obtain rfl:a0=a2:=he;simp at bA
  | 0,_,3,_=>obtain rfl:a0=a3:=he;simp at bA
  | 0,_,4,_=>obtain rfl:a0=a4:=he;simp at bA
  | 0,_,5,_=>obtain rfl:a0=a5:=he;simp at bA
  | 0,_,6,_=>obtain rfl:a0=a6:=he;simp at bA
  | 1,_,0,_=>obtain rfl:a1=a0:=he;simp at bA
  | 1,_,1,_=>exact absurd rfl cA
  | 1,_,2,_=>obtain rfl:a1=a2:=he;simp at bA
  | 1,_,3,_=>obtain rfl:a1=a3:=he;simp at bA
  | 1,_,4,_=>obtain rfl:a1=a4:=he;simp at bA
  | 1,_,5,_=>obtain rfl:a1=a5:=he;simp at bA
  | 1,_,6,_=>obtain rfl:a1=a6:=he;simp at bA
  | 2,_,0,_=>obtain rfl:a2=a0:=he;simp at bA
  | 2,_,1,_=>obtain rfl:a2=a1:=he;simp at bA
  | 2,_,2,_=>exact absurd rfl cA
  | 2,_,3,_=>obtain rfl:a2=a3:=he;simp at bA
  | 2,_,4,_=>obtain rfl:a2=a4:=he;simp at bA
  | 2,_,5,_=>obtain rfl:a2=a5:=he;simp at bA
  | 2,_,6,_=>obtain rfl:a2=a6:=he;simp at bA
  | 3,_,0,_=>obtain rfl:a3=a0:=he;simp at bA
  | 3,_,1,_=>obtain rfl:a3=a1:=he;simp at bA
  | 3,_,2,_=>obtain rfl:a3=a2:=he;simp at bA
  | 3,_,3,_=>exact absurd rfl cA
  | 3,_,4,_=>obtain rfl:a3=a4:=he;simp at bA
  | 3,_,5,_=>obtain rfl:a3=a5:=he;simp at bA
  | 3,_,6,_=>obtain rfl:a3=a6:=he;simp at bA
  | 4,_,0,_=>obtain rfl:a4=a0:=he;simp at bA
  | 4,_,1,_=>obtain rfl:a4=a1:=he;simp at bA
  | 4,_,2,_=>obtain rfl:a4=a2:=he;simp at bA
  | 4,_,3,_=>obtain rfl:a4=a3:=he;simp at bA
  | 4,_,4,_=>exact absurd rfl cA
  | 4,_,5,_=>obtain rfl:a4=a5:=he;simp at bA
  | 4,_,6,_=>obtain rfl:a4=a6:=he;simp at bA
  | 5,_,0,_=>obtain rfl:a5=a0:=he;simp at bA
  | 5,_,1,_=>obtain rfl:a5=a1:=he;simp at bA
  | 5,_,2,_=>obtain rfl:a5=a2:=he;simp at bA
  | 5,_,3,_=>obtain rfl:a5=a3:=he;simp at bA
  | 5,_,4,_=>obtain rfl:a5=a4:=he;simp at bA
  | 5,_,5,_=>exact absurd rfl cA
  | 5,_,6,_=>obtain rfl:a5=a6:=he;simp at bA
  | 6,_,0,_=>obtain rfl:a6=a0:=he;simp at bA
  | 6,_,1,_=>obtain rfl:a6=a1:=he;simp at bA
  | 6,_,2,_=>obtain rfl:a6=a2:=he;simp at bA
  | 6,_,3,_=>obtain rfl:a6=a3:=he;simp at bA
  | 6,_,4,_=>obtain rfl:a6=a4:=he;simp at bA
  | 6,_,5,_=>obtain rfl:a6=a5:=he;simp at bA
  | 6,_,6,_=>exact absurd rfl cA
 ·match i,hi with
  | 0,_=>exact lA
  | 1,_=>exact mA
  | 2,_=>exact nA
  | 3,_=>exact oA
  | 4,_=>exact pA
  | 5,_=>exact rA
  | 6,_=>exact sA
theorem zLZ{W W':World}{n:String}{cs:Array Value}(h:W.var? Tryz.prog n=some cs)(t:Below W.heap.size W W'):W'.var? Tryz.prog n=some cs:=by
 unfold World.var? at h ⊢;cases hg:Tryz.prog.globalNamed n with
 | none=>simp[hg]at h
 | some g=>
  simp only[hg,Option.bind_some]at h ⊢;have aA:g<W.heap.size:=by
   rcases Nat.lt_or_ge g W.heap.size with h' | h'
   ·exact h'
   ·simp[Array.getElem?_eq_none h']at h
  rw[t.block g aA];exact h
noncomputable def zE2:Nat:=(World.holding Tryz.prog default ⟨#[],#[],[]⟩).heap.size
noncomputable def zIB(os:Os):World:=
 let w0:=World.holding Tryz.prog os ⟨#[.cells #[.string ⟨#[105,116,32,105,115,32,110,111,116,32,114,105,103,104,116]⟩] 295,.cells #[.string ⟨#[105,116,32,105,115,32,116,111,111,32,108,111,110,103]⟩] 295,.cells #[.string ⟨#[116,104,101,114,101,32,105,115,32,110,111,110,101]⟩] 295,.cells #[.string ⟨#[116,104,101,114,101,32,105,115,32,111,110,101,32,97,108,114,101,97,100,121]⟩] 295,.cells #[.string ⟨#[116,104,101,114,101,32,105,115,32,110,111,32,114,111,111,109]⟩] 295,.cells #[.string ⟨#[105,116,32,100,111,101,115,32,110,111,116,32,115,116,97,110,100,32,115,111,32,116,104,97,116,32,116,104,105,115,32,99,97,110,32,98,101,32,100,111,110,101]⟩] 295,.cells #[.string ⟨#[105,116,32,105,115,32,111,117,116,32,111,102,32,114,97,110,103,101]⟩] 295],#[],[]⟩
 {w0 with heap:=((((((((((((((w0.heap).modify 4 fun
   | .cells _ t frozen=>.cells #[qC ⟨zE2+0,0,none⟩] t frozen
   | o=>o)).modify 3 fun
   | .cells _ t frozen=>.cells #[qC ⟨zE2+1,0,none⟩] t frozen
   | o=>o)).modify 0 fun
   | .cells _ t frozen=>.cells #[qC ⟨zE2+2,0,none⟩] t frozen
   | o=>o)).modify 2 fun
   | .cells _ t frozen=>.cells #[qC ⟨zE2+3,0,none⟩] t frozen
   | o=>o)).modify 5 fun
   | .cells _ t frozen=>.cells #[qC ⟨zE2+4,0,none⟩] t frozen
   | o=>o)).modify 1 fun
   | .cells _ t frozen=>.cells #[qC ⟨zE2+5,0,none⟩] t frozen
   | o=>o)).modify 6 fun
   | .cells _ t frozen=>.cells #[qC ⟨zE2+6,0,none⟩] t frozen
   | o=>o)}
theorem zHg(os:Os)(args:Array Value):laidMetH Tryz.prog zJ3 ((zIB os).forCall (fun _ _=>0) ⟨#[],args,[]⟩).memory:=by
 rw[MakeChecks.laidMetH_plain _ _ _ (by kernel_rfl)];exact laidMet_of_run (ps:=[.cell 4 0,.cell (zE2+0) 0,.cell 3 0,.cell (zE2+1) 0,.cell 0 0,.cell (zE2+2) 0,.cell 2 0,.cell (zE2+3) 0,.cell 5 0,.cell (zE2+4) 0,.cell 1 0,.cell (zE2+5) 0,.cell 6 0,.cell (zE2+6) 0]) 8 (by kernel_rfl) (by kernel_rfl) (by kernel_rfl)
open Go.Stop
theorem zEP{H:Type}(enc:TypeId×Value->H){W:World}{p:Nat->Addr}(h:∀i,i<7->W.var? Tryz.prog (errN i)=some #[qC (p i)])(sp:Nat->Bool) :
  ∀(l:List Nat),(∀i,i∈l->i<7)->DataW.TrodVars enc Tryz.prog W sp (l.map errN) (l.map fun i=>tok enc (qC (p i))) (l.map fun i=>MemPlace.cell (zAW i) 0)
 | [],_=>rfl
 | i :: l,hl=>⟨zAW i,73,#[qC (p i)],1,[],l.map (fun i=>MemPlace.cell (zAW i) 0),(yn i (hl i (List.mem_cons_self ..))).1,(yn i (hl i (List.mem_cons_self ..))).2,h i (hl i (List.mem_cons_self ..)),trod_held Tryz.underlying73 (show IsIface (qC (p i))from trivial) 0,zEP enc h sp l (fun j hj=>hl j (List.mem_cons_of_mem _ hj)),rfl⟩
end Go.Proofs.YtmgeglgboadfiaaGreatDoor
