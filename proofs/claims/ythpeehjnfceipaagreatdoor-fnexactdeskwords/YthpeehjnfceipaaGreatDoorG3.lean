/- What the row's cell 'laid' gives of the seven errors; a world in which they are laid (no law is proved here). -/
import Derived.Test.YthpeehjnfceipaaGreatDoorRows
import Derived.Test.YthpeehjnfceipaaGreatDoorG2
import Derived.ChangeSame
import Derived.ChangeVars
import Derived.JoinedOf
import Derived.RowKit
import Derived.RowKitTokens
import Derived.LaidLaws
import Derived.Stop.LaidTwo
import Derived.Stop.Joined
import Derived.Stop.ErrReads
import Derived.MakeChecks
import Derived.OpenShut
import Derived.ChangeOld
namespace Go.Proofs.YthpeehjnfceipaaGreatDoor
open Go.ChangeShapes Go.WideShapes Go.RowKit
set_option linter.unusedVariables false
set_option maxRecDepth 100000
abbrev laid7:List (String×DataW Unit):=[("loop.example/g00381/impl.errForm",Rows.laid_loop_example_g00381_impl_errForm),("loop.example/g00381/impl.errSize",Rows.laid_loop_example_g00381_impl_errSize),("loop.example/g00381/impl.errNone",Rows.laid_loop_example_g00381_impl_errNone),("loop.example/g00381/impl.errThere",Rows.laid_loop_example_g00381_impl_errThere),("loop.example/g00381/impl.errFull",Rows.laid_loop_example_g00381_impl_errFull),("loop.example/g00381/impl.errState",Rows.laid_loop_example_g00381_impl_errState),("loop.example/g00381/impl.errRange",Rows.laid_loop_example_g00381_impl_errRange)]
def errN:Nat→String
 | 0=> "loop.example/g00381/impl.errForm"
 | 1=> "loop.example/g00381/impl.errSize"
 | 2=> "loop.example/g00381/impl.errNone"
 | 3=> "loop.example/g00381/impl.errThere"
 | 4=> "loop.example/g00381/impl.errFull"
 | 5=> "loop.example/g00381/impl.errState"
 | _=> "loop.example/g00381/impl.errRange"
theorem errName(i:Nat)(h:i<7):Tryz.prog.globalNamed (errN i)=some (errG i)∧(Tryz.prog.globals[errG i]?).map (·.type)=some 73:=by
 match i,h with
 | 0,_=>exact⟨by kernel_rfl,by kernel_rfl⟩
 | 1,_=>exact⟨by kernel_rfl,by kernel_rfl⟩
 | 2,_=>exact⟨by kernel_rfl,by kernel_rfl⟩
 | 3,_=>exact⟨by kernel_rfl,by kernel_rfl⟩
 | 4,_=>exact⟨by kernel_rfl,by kernel_rfl⟩
 | 5,_=>exact⟨by kernel_rfl,by kernel_rfl⟩
 | 6,_=>exact⟨by kernel_rfl,by kernel_rfl⟩
theorem errStar : "*" ++ "errors.errorString" = "*errors.errorString" :=by decide
theorem errRow(u:TypeId)(h:Tryz.prog.typeName? 3 u=some "*errors.errorString"):u=324:=
 typeName_ptr_named (nm:= "errors.errorString") (by rw [errStar]; kernel_rfl) (by kernel_rfl) (by decide) u (by rw [errStar]; exact h)
theorem errCells:Tryz.prog.cellsOf 348=1:=by kernel_rfl
theorem strCells:Tryz.prog.cellsOf 9=1:=by kernel_rfl
theorem errs_of_laid{W:World}(h:laidMetH Tryz.prog laid7 W):∃p:Nat→Addr,Errs W p∧∀i,i<7→W.var? Tryz.prog (errN i)=some #[errV (p i)]:=by
 rw [MakeChecks.laidMetH_plain _ _ _ (by kernel_rfl)] at h
 obtain⟨ps,⟨g0,t0,cs0,f0,p0,q0,hg0,ht0,hv0,hd0,⟨g1,t1,cs1,f1,p1,q1,hg1,ht1,hv1,hd1,⟨g2,t2,cs2,f2,p2,q2,hg2,ht2,hv2,hd2,⟨g3,t3,cs3,f3,p3,q3,hg3,ht3,hv3,hd3,⟨g4,t4,cs4,f4,p4,q4,hg4,ht4,hv4,hd4,⟨g5,t5,cs5,f5,p5,q5,hg5,ht5,hv5,hd5,⟨g6,t6,cs6,f6,p6,q6,hg6,ht6,hv6,hd6,_,e6⟩,e5⟩,e4⟩,e3⟩,e2⟩,e1⟩,e0⟩,hnd,hrows⟩:=h
 obtain rfl:=Option.some.inj ((errName 0 (by omega)).1.symm.trans hg0)
 obtain rfl:=Option.some.inj ((errName 0 (by omega)).2.symm.trans ht0)
 obtain rfl:=Option.some.inj ((errName 1 (by omega)).1.symm.trans hg1)
 obtain rfl:=Option.some.inj ((errName 1 (by omega)).2.symm.trans ht1)
 obtain rfl:=Option.some.inj ((errName 2 (by omega)).1.symm.trans hg2)
 obtain rfl:=Option.some.inj ((errName 2 (by omega)).2.symm.trans ht2)
 obtain rfl:=Option.some.inj ((errName 3 (by omega)).1.symm.trans hg3)
 obtain rfl:=Option.some.inj ((errName 3 (by omega)).2.symm.trans ht3)
 obtain rfl:=Option.some.inj ((errName 4 (by omega)).1.symm.trans hg4)
 obtain rfl:=Option.some.inj ((errName 4 (by omega)).2.symm.trans ht4)
 obtain rfl:=Option.some.inj ((errName 5 (by omega)).1.symm.trans hg5)
 obtain rfl:=Option.some.inj ((errName 5 (by omega)).2.symm.trans ht5)
 obtain rfl:=Option.some.inj ((errName 6 (by omega)).1.symm.trans hg6)
 obtain rfl:=Option.some.inj ((errName 6 (by omega)).2.symm.trans ht6)
 subst e6
 subst e5
 subst e4
 subst e3
 subst e2
 subst e1
 subst e0
 obtain⟨l0⟩:=cs0
 have ok0:∀u v,l0 = [.iface u v]→Value.okWide Tryz.prog W .any 0 u v:=fun u v e=>by
  subst e
  exact(hrows (errG 0) 0 (by simp [MemPlace.row])).2 u v (by simpa using World.var?_cell hg0 hv0 0)
 obtain⟨a0,s0,rfl,hc0,hs0,hz0,rfl⟩:=errorString_of_trod Tryz.underlying73 errRow Tryz.underlying324 Tryz.underlying348 rfl rfl Tryz.underlying9 errCells strCells hd0 ok0
 obtain⟨l1⟩:=cs1
 have ok1:∀u v,l1 = [.iface u v]→Value.okWide Tryz.prog W .any 0 u v:=fun u v e=>by
  subst e
  exact(hrows (errG 1) 0 (by simp [MemPlace.row])).2 u v (by simpa using World.var?_cell hg1 hv1 0)
 obtain⟨a1,s1,rfl,hc1,hs1,hz1,rfl⟩:=errorString_of_trod Tryz.underlying73 errRow Tryz.underlying324 Tryz.underlying348 rfl rfl Tryz.underlying9 errCells strCells hd1 ok1
 obtain⟨l2⟩:=cs2
 have ok2:∀u v,l2 = [.iface u v]→Value.okWide Tryz.prog W .any 0 u v:=fun u v e=>by
  subst e
  exact(hrows (errG 2) 0 (by simp [MemPlace.row])).2 u v (by simpa using World.var?_cell hg2 hv2 0)
 obtain⟨a2,s2,rfl,hc2,hs2,hz2,rfl⟩:=errorString_of_trod Tryz.underlying73 errRow Tryz.underlying324 Tryz.underlying348 rfl rfl Tryz.underlying9 errCells strCells hd2 ok2
 obtain⟨l3⟩:=cs3
 have ok3:∀u v,l3 = [.iface u v]→Value.okWide Tryz.prog W .any 0 u v:=fun u v e=>by
  subst e
  exact(hrows (errG 3) 0 (by simp [MemPlace.row])).2 u v (by simpa using World.var?_cell hg3 hv3 0)
 obtain⟨a3,s3,rfl,hc3,hs3,hz3,rfl⟩:=errorString_of_trod Tryz.underlying73 errRow Tryz.underlying324 Tryz.underlying348 rfl rfl Tryz.underlying9 errCells strCells hd3 ok3
 obtain⟨l4⟩:=cs4
 have ok4:∀u v,l4 = [.iface u v]→Value.okWide Tryz.prog W .any 0 u v:=fun u v e=>by
  subst e
  exact(hrows (errG 4) 0 (by simp [MemPlace.row])).2 u v (by simpa using World.var?_cell hg4 hv4 0)
 obtain⟨a4,s4,rfl,hc4,hs4,hz4,rfl⟩:=errorString_of_trod Tryz.underlying73 errRow Tryz.underlying324 Tryz.underlying348 rfl rfl Tryz.underlying9 errCells strCells hd4 ok4
 obtain⟨l5⟩:=cs5
 have ok5:∀u v,l5 = [.iface u v]→Value.okWide Tryz.prog W .any 0 u v:=fun u v e=>by
  subst e
  exact(hrows (errG 5) 0 (by simp [MemPlace.row])).2 u v (by simpa using World.var?_cell hg5 hv5 0)
 obtain⟨a5,s5,rfl,hc5,hs5,hz5,rfl⟩:=errorString_of_trod Tryz.underlying73 errRow Tryz.underlying324 Tryz.underlying348 rfl rfl Tryz.underlying9 errCells strCells hd5 ok5
 obtain⟨l6⟩:=cs6
 have ok6:∀u v,l6 = [.iface u v]→Value.okWide Tryz.prog W .any 0 u v:=fun u v e=>by
  subst e
  exact(hrows (errG 6) 0 (by simp [MemPlace.row])).2 u v (by simpa using World.var?_cell hg6 hv6 0)
 obtain⟨a6,s6,rfl,hc6,hs6,hz6,rfl⟩:=errorString_of_trod Tryz.underlying73 errRow Tryz.underlying324 Tryz.underlying348 rfl rfl Tryz.underlying9 errCells strCells hd6 ok6
 refine⟨fun | 0=>a0 | 1=>a1 | 2=>a2 | 3=>a3 | 4=>a4 | 5=>a5 | _=>a6,⟨fun i hi=>?_,fun i hi=>?_,fun i j hi hj hne he=>?_⟩,fun i hi=>?_⟩
 ·match i,hi with
  | 0,_=>simpa using World.var?_cell hg0 hv0 0
  | 1,_=>simpa using World.var?_cell hg1 hv1 0
  | 2,_=>simpa using World.var?_cell hg2 hv2 0
  | 3,_=>simpa using World.var?_cell hg3 hv3 0
  | 4,_=>simpa using World.var?_cell hg4 hv4 0
  | 5,_=>simpa using World.var?_cell hg5 hv5 0
  | 6,_=>simpa using World.var?_cell hg6 hv6 0
 ·match i,hi with
  | 0,_=>exact(hrows a0.block a0.off (by simp [MemPlace.row])).1
  | 1,_=>exact(hrows a1.block a1.off (by simp [MemPlace.row])).1
  | 2,_=>exact(hrows a2.block a2.off (by simp [MemPlace.row])).1
  | 3,_=>exact(hrows a3.block a3.off (by simp [MemPlace.row])).1
  | 4,_=>exact(hrows a4.block a4.off (by simp [MemPlace.row])).1
  | 5,_=>exact(hrows a5.block a5.off (by simp [MemPlace.row])).1
  | 6,_=>exact(hrows a6.block a6.off (by simp [MemPlace.row])).1
 ·simp only [MemPlace.row] at hnd
  match i,hi,j,hj with
  | 0,_,0,_=>exact absurd rfl hne
  | 0,_,1,_=>obtain rfl:a0=a1:=he; simp at hnd
  | 0,_,2,_=>obtain rfl:a0=a2:=he; simp at hnd
  | 0,_,3,_=>obtain rfl:a0=a3:=he; simp at hnd
  | 0,_,4,_=>obtain rfl:a0=a4:=he; simp at hnd
  | 0,_,5,_=>obtain rfl:a0=a5:=he; simp at hnd
  | 0,_,6,_=>obtain rfl:a0=a6:=he; simp at hnd
  | 1,_,0,_=>obtain rfl:a1=a0:=he; simp at hnd
  | 1,_,1,_=>exact absurd rfl hne
  | 1,_,2,_=>obtain rfl:a1=a2:=he; simp at hnd
  | 1,_,3,_=>obtain rfl:a1=a3:=he; simp at hnd
  | 1,_,4,_=>obtain rfl:a1=a4:=he; simp at hnd
  | 1,_,5,_=>obtain rfl:a1=a5:=he; simp at hnd
  | 1,_,6,_=>obtain rfl:a1=a6:=he; simp at hnd
  | 2,_,0,_=>obtain rfl:a2=a0:=he; simp at hnd
  | 2,_,1,_=>obtain rfl:a2=a1:=he; simp at hnd
  | 2,_,2,_=>exact absurd rfl hne
  | 2,_,3,_=>obtain rfl:a2=a3:=he; simp at hnd
  | 2,_,4,_=>obtain rfl:a2=a4:=he; simp at hnd
  | 2,_,5,_=>obtain rfl:a2=a5:=he; simp at hnd
  | 2,_,6,_=>obtain rfl:a2=a6:=he; simp at hnd
  | 3,_,0,_=>obtain rfl:a3=a0:=he; simp at hnd
  | 3,_,1,_=>obtain rfl:a3=a1:=he; simp at hnd
  | 3,_,2,_=>obtain rfl:a3=a2:=he; simp at hnd
  | 3,_,3,_=>exact absurd rfl hne
  | 3,_,4,_=>obtain rfl:a3=a4:=he; simp at hnd
  | 3,_,5,_=>obtain rfl:a3=a5:=he; simp at hnd
  | 3,_,6,_=>obtain rfl:a3=a6:=he; simp at hnd
  | 4,_,0,_=>obtain rfl:a4=a0:=he; simp at hnd
  | 4,_,1,_=>obtain rfl:a4=a1:=he; simp at hnd
  | 4,_,2,_=>obtain rfl:a4=a2:=he; simp at hnd
  | 4,_,3,_=>obtain rfl:a4=a3:=he; simp at hnd
  | 4,_,4,_=>exact absurd rfl hne
  | 4,_,5,_=>obtain rfl:a4=a5:=he; simp at hnd
  | 4,_,6,_=>obtain rfl:a4=a6:=he; simp at hnd
  | 5,_,0,_=>obtain rfl:a5=a0:=he; simp at hnd
  | 5,_,1,_=>obtain rfl:a5=a1:=he; simp at hnd
  | 5,_,2,_=>obtain rfl:a5=a2:=he; simp at hnd
  | 5,_,3,_=>obtain rfl:a5=a3:=he; simp at hnd
  | 5,_,4,_=>obtain rfl:a5=a4:=he; simp at hnd
  | 5,_,5,_=>exact absurd rfl hne
  | 5,_,6,_=>obtain rfl:a5=a6:=he; simp at hnd
  | 6,_,0,_=>obtain rfl:a6=a0:=he; simp at hnd
  | 6,_,1,_=>obtain rfl:a6=a1:=he; simp at hnd
  | 6,_,2,_=>obtain rfl:a6=a2:=he; simp at hnd
  | 6,_,3,_=>obtain rfl:a6=a3:=he; simp at hnd
  | 6,_,4,_=>obtain rfl:a6=a4:=he; simp at hnd
  | 6,_,5,_=>obtain rfl:a6=a5:=he; simp at hnd
  | 6,_,6,_=>exact absurd rfl hne
 ·match i,hi with
  | 0,_=>exact hv0
  | 1,_=>exact hv1
  | 2,_=>exact hv2
  | 3,_=>exact hv3
  | 4,_=>exact hv4
  | 5,_=>exact hv5
  | 6,_=>exact hv6
theorem var?_below{W W':World}{n:String}{cs:Array Value}(h:W.var? Tryz.prog n=some cs)(t:Below W.heap.size W W'):W'.var? Tryz.prog n=some cs:=by
 unfold World.var? at h ⊢
 cases hg:Tryz.prog.globalNamed n with
 | none=>simp [hg] at h
 | some g=>
  simp only [hg,Option.bind_some] at h ⊢
  have hlt:g<W.heap.size:=by
   rcases Nat.lt_or_ge g W.heap.size with h' | h'
   ·exact h'
   ·simp [Array.getElem?_eq_none h'] at h
  rw [t.block g hlt]
  exact h
noncomputable def lowE:Nat:=(World.holding Tryz.prog default ⟨#[],#[],[]⟩).heap.size
noncomputable def laidWorld(os:Os):World:=
 let w0:=World.holding Tryz.prog os ⟨#[.cells #[.string ⟨#[105,116,32,105,115,32,110,111,116,32,114,105,103,104,116]⟩] 348,.cells #[.string ⟨#[105,116,32,105,115,32,116,111,111,32,108,111,110,103]⟩] 348,.cells #[.string ⟨#[116,104,101,114,101,32,105,115,32,110,111,110,101]⟩] 348,.cells #[.string ⟨#[116,104,101,114,101,32,105,115,32,111,110,101,32,97,108,114,101,97,100,121]⟩] 348,.cells #[.string ⟨#[116,104,101,114,101,32,105,115,32,110,111,32,114,111,111,109]⟩] 348,.cells #[.string ⟨#[105,116,32,100,111,101,115,32,110,111,116,32,115,116,97,110,100,32,115,111,32,116,104,97,116,32,116,104,105,115,32,99,97,110,32,98,101,32,100,111,110,101]⟩] 348,.cells #[.string ⟨#[105,116,32,105,115,32,111,117,116,32,111,102,32,114,97,110,103,101]⟩] 348],#[],[]⟩
 {w0 with heap:=((((((((((((((w0.heap).modify 5 fun
   | .cells _ t frozen=>.cells #[errV ⟨lowE+0,0,none⟩] t frozen
   | o=>o)).modify 4 fun
   | .cells _ t frozen=>.cells #[errV ⟨lowE+1,0,none⟩] t frozen
   | o=>o)).modify 2 fun
   | .cells _ t frozen=>.cells #[errV ⟨lowE+2,0,none⟩] t frozen
   | o=>o)).modify 0 fun
   | .cells _ t frozen=>.cells #[errV ⟨lowE+3,0,none⟩] t frozen
   | o=>o)).modify 1 fun
   | .cells _ t frozen=>.cells #[errV ⟨lowE+4,0,none⟩] t frozen
   | o=>o)).modify 3 fun
   | .cells _ t frozen=>.cells #[errV ⟨lowE+5,0,none⟩] t frozen
   | o=>o)).modify 7 fun
   | .cells _ t frozen=>.cells #[errV ⟨lowE+6,0,none⟩] t frozen
   | o=>o)}
end Go.Proofs.YthpeehjnfceipaaGreatDoor

namespace Go.Proofs.YthpeehjnfceipaaGreatDoor
open Go.ChangeShapes Go.WideShapes Go.RowKit Go.Stop
set_option linter.unusedVariables false
theorem errs_readL{H:Type}(enc:TypeId×Value→H){W:World}{p:Nat→Addr}(h:∀i,i<7→W.var? Tryz.prog (errN i)=some #[errV (p i)])(sp:Nat→Bool) :
  ∀(l:List Nat),(∀i,i∈l→i<7)→DataW.TrodVars enc Tryz.prog W sp (l.map errN) (l.map fun i=>tok enc (errV (p i))) (l.map fun i=>MemPlace.cell (errG i) 0)
 | [],_=>rfl
 | i :: l,hl=>⟨errG i,73,#[errV (p i)],1,[],l.map (fun i=>MemPlace.cell (errG i) 0),(errName i (hl i (List.mem_cons_self ..))).1,(errName i (hl i (List.mem_cons_self ..))).2,h i (hl i (List.mem_cons_self ..)),trod_held Tryz.underlying73 (show IsIface (errV (p i))from trivial) 0,errs_readL enc h sp l (fun j hj=>hl j (List.mem_cons_of_mem _ hj)),rfl⟩
end Go.Proofs.YthpeehjnfceipaaGreatDoor
