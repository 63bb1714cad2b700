/- A part of the proof. -/
import Derived.Test.YtgabgheflgjgiaaGreatDoorU48
import Derived.Test.YtgabgheflgjgiaaGreatDoorTie
import Derived.Test.YtgabgheflgjgiaaGreatDoorCards
import Derived.LaidSub
import Derived.SevenTiedAt
import Derived.ChangeMaps5
set_option linter.unusedVariables false
set_option maxRecDepth 20000
set_option maxHeartbeats 4000000
namespace Go.Proofs.YtgabgheflgjgiaaGreatDoor
open Go.ChangeShapes Go.WideShapes Go.ChangeAt Go.RowKit
open Go.ChangeMaps (open_string)
set_option maxRecDepth 100000
abbrev zGp:List (String×DataW Unit):=[("math/bits.deBruijn32tab",Rows.laid_math_bits_deBruijn32tab),("math/bits.deBruijn64tab",Rows.laid_math_bits_deBruijn64tab),("internal/strconv.uint64pow10",Rows.laid_internal_strconv_uint64pow10),("unicode/utf8.acceptRanges",Rows.laid_unicode_utf8_acceptRanges),("loop.example/g00381/impl.errForm",Rows.laid_loop_example_g00381_impl_errForm),("loop.example/g00381/impl.errSize",Rows.laid_loop_example_g00381_impl_errSize),("loop.example/g00381/impl.errNone",Rows.laid_loop_example_g00381_impl_errNone),("loop.example/g00381/impl.errThere",Rows.laid_loop_example_g00381_impl_errThere),("loop.example/g00381/impl.errFull",Rows.laid_loop_example_g00381_impl_errFull),("loop.example/g00381/impl.errState",Rows.laid_loop_example_g00381_impl_errState),("loop.example/g00381/impl.errRange",Rows.laid_loop_example_g00381_impl_errRange),("unicode/utf8.first",Rows.laid_unicode_utf8_first)]
theorem zMj{W:World}(h:laidMetH Tryz.prog zGp W):laidMetH Tryz.prog zN2 W:=h.filter (fun x=>x.1∈["loop.example/g00381/impl.errForm", "loop.example/g00381/impl.errSize", "loop.example/g00381/impl.errNone", "loop.example/g00381/impl.errThere", "loop.example/g00381/impl.errFull", "loop.example/g00381/impl.errState", "loop.example/g00381/impl.errRange"])
noncomputable def zFy(os:Os):World:=
 let w0:=zLT os
 {w0 with heap:=((((((((((w0.heap).modify 11 fun
   | .cells _ t frozen=>.cells #[.int .u8 0,.int .u8 1,.int .u8 28,.int .u8 2,.int .u8 29,.int .u8 14,.int .u8 24,.int .u8 3,.int .u8 30,.int .u8 22,.int .u8 20,.int .u8 15,.int .u8 25,.int .u8 17,.int .u8 4,.int .u8 8,.int .u8 31,.int .u8 27,.int .u8 13,.int .u8 23,.int .u8 21,.int .u8 19,.int .u8 16,.int .u8 7,.int .u8 26,.int .u8 12,.int .u8 18,.int .u8 6,.int .u8 11,.int .u8 5,.int .u8 10,.int .u8 9] t frozen
   | o=>o)).modify 12 fun
   | .cells _ t frozen=>.cells #[.int .u8 0,.int .u8 1,.int .u8 56,.int .u8 2,.int .u8 57,.int .u8 49,.int .u8 28,.int .u8 3,.int .u8 61,.int .u8 58,.int .u8 42,.int .u8 50,.int .u8 38,.int .u8 29,.int .u8 17,.int .u8 4,.int .u8 62,.int .u8 47,.int .u8 59,.int .u8 36,.int .u8 45,.int .u8 43,.int .u8 51,.int .u8 22,.int .u8 53,.int .u8 39,.int .u8 33,.int .u8 30,.int .u8 24,.int .u8 18,.int .u8 12,.int .u8 5,.int .u8 63,.int .u8 55,.int .u8 48,.int .u8 27,.int .u8 60,.int .u8 41,.int .u8 37,.int .u8 16,.int .u8 46,.int .u8 35,.int .u8 44,.int .u8 21,.int .u8 52,.int .u8 32,.int .u8 23,.int .u8 11,.int .u8 54,.int .u8 26,.int .u8 40,.int .u8 15,.int .u8 34,.int .u8 20,.int .u8 31,.int .u8 10,.int .u8 25,.int .u8 14,.int .u8 19,.int .u8 9,.int .u8 13,.int .u8 8,.int .u8 7,.int .u8 6] t frozen
   | o=>o)).modify 8 fun
   | .cells _ t frozen=>.cells #[.int .u64 1,.int .u64 10,.int .u64 100,.int .u64 1000,.int .u64 10000,.int .u64 100000,.int .u64 1000000,.int .u64 10000000,.int .u64 100000000,.int .u64 1000000000,.int .u64 10000000000,.int .u64 100000000000,.int .u64 1000000000000,.int .u64 10000000000000,.int .u64 100000000000000,.int .u64 1000000000000000,.int .u64 10000000000000000,.int .u64 100000000000000000,.int .u64 1000000000000000000,.int .u64 10000000000000000000] t frozen
   | o=>o)).modify 10 fun
   | .cells _ t frozen=>.cells #[.int .u8 128,.int .u8 191,.int .u8 160,.int .u8 191,.int .u8 128,.int .u8 159,.int .u8 144,.int .u8 191,.int .u8 128,.int .u8 143,.int .u8 0,.int .u8 0,.int .u8 0,.int .u8 0,.int .u8 0,.int .u8 0,.int .u8 0,.int .u8 0,.int .u8 0,.int .u8 0,.int .u8 0,.int .u8 0,.int .u8 0,.int .u8 0,.int .u8 0,.int .u8 0,.int .u8 0,.int .u8 0,.int .u8 0,.int .u8 0,.int .u8 0,.int .u8 0] t frozen
   | o=>o)).modify 9 fun
   | .cells _ t frozen=>.cells (Go.Pinned.utf8FirstZ.map fun n:Nat=>Value.int .u8 (n:Int)).toArray t frozen
   | o=>o)}
theorem zF9(os:Os)(args:Array Value):laidMetH Tryz.prog zGp ((zFy os).forCall (fun _ _=>0) ⟨#[],args,[]⟩).memory:=by
 rw[MakeChecks.laidMetH_plain _ _ _ (by kernel_rfl)];exact laidMet_of_run' 8 (by kernel_rfl) (by kernel_rfl)
theorem own:ownKnob Tryz.prog.godebug=none:=by kernel_rfl
theorem zNg:laidOutB Tryz.prog=true:=by kernel_rfl
theorem zCs(os:Os)(aA:os.Started)(H:Type)(enc:TypeId×Value->H) :
  ReturnsInHanded {} Tryz.checked os 3 .any (fun w args=>(Rows.fnExactDeskFaultSpec.pre enc Tryz.prog Tryz.f3 [] false w args/\laidMetH Tryz.prog zGp w)/\sizedMet enc Tryz.prog Tryz.f3 (OpenSpec.ofChange Rows.fnExactDeskFaultSpec) false w args)
   (Rows.fnExactDeskFaultSpec.post enc Tryz.prog Tryz.f3 false true false false):=by
 refine returnsInHanded_of_change_and (C:=Tryz.checked) (X:=fun w _=>laidMetH Tryz.prog zGp w) (fun _ _ _ hh h=>h.of_heap hh) own aA (by kernel_rfl) Tryz.func3
  (ChangeSpec.witness_at (enc:=enc) (C:=Tryz.checked) (os:=os) (X:=fun w _=>laidMetH Tryz.prog zGp w) false (zFy os) #[.string ⟨#[]⟩] 8 rfl (by kernel_rfl) (by kernel_rfl) (by kernel_rfl) (by kernel_rfl) (by kernel_rfl) (zF9 os _)) ?_
 intro W base args ds gs eA bA hW _ _ hL _;have cA:∀(j:Nat) t v,Tryz.f3.params[j]?=some t->args[j]?=some v->Value.okWide Tryz.prog W .any base t v:=bA;have jA:=hW;obtain⟨p,q,gA,iA,rfl,oA,pA⟩:=hW;have hA:DataW.TrodAll enc Tryz.prog W 0 (fun _=>true) true Tryz.f3.params.toList args.toList ds p:=gA;have hV:DataW.TrodVars enc Tryz.prog W (fun _=>true) ["loop.example/g00381/impl.errThere", "loop.example/g00381/impl.errFull", "loop.example/g00381/impl.errSize", "loop.example/g00381/impl.errForm", "loop.example/g00381/impl.errNone", "loop.example/g00381/impl.errState", "loop.example/g00381/impl.errRange"] gs q:=iA;rw[Tryz.params3]at hA cA;obtain⟨v0,rA,d0,nA,p0,q0,fA,rfl,rfl,h0,r0⟩:=trodAll_cons hA;obtain⟨rfl,rfl,rfl⟩:=trodAll_nil r0;obtain rfl:args=#[v0]:=by cases args;simp_all
 obtain⟨pe,hE,dA⟩:=zIX (zMj hL);obtain⟨rfl,rfl⟩:=hV.unique ((show DataW.TrodVars enc Tryz.prog W _ ["loop.example/g00381/impl.errThere", "loop.example/g00381/impl.errFull", "loop.example/g00381/impl.errSize", "loop.example/g00381/impl.errForm", "loop.example/g00381/impl.errNone", "loop.example/g00381/impl.errState", "loop.example/g00381/impl.errRange"] [tok enc (zBU (pe 3)),tok enc (zBU (pe 4)),tok enc (zBU (pe 1)),tok enc (zBU (pe 0)),tok enc (zBU (pe 2)),tok enc (zBU (pe 5)),tok enc (zBU (pe 6))] [.cell (errG 3) 0,.cell (errG 4) 0,.cell (errG 1) 0,.cell (errG 0) 0,.cell (errG 2) 0,.cell (errG 5) 0,.cell (errG 6) 0] from zEW enc dA _ [3,4,1,0,2,5,6] (by decide)));have k0:=h0;have lA:∀x∈p0,x.block<W.heap.size:=by obtain⟨m,hm⟩:=k0;exact DataW.trod_lt m _ _ _ hm
 obtain⟨mA,rfl,_,_,kA⟩:=open_string Tryz.underlying9 (cA 0 9 v0 rfl rfl) h0;clear gA iA bA;refine(zDP mA W kA).mono fun e W' ⟨he,bel⟩=>?_
 subst he;exact⟨_,rfl,_,_,_,[],_,[.cell (errG 3) 0,.cell (errG 4) 0,.cell (errG 1) 0,.cell (errG 0) 0,.cell (errG 2) 0,.cell (errG 5) 0,.cell (errG 6) 0],jA,trodAll_mk1 (shut_bool Tryz.underlying4 _),(trodAll_cons_mk (Below.trod zNg (by kernel_rfl) (of_decide_eq_true (by kernel_rfl)) k0 bel lA) trodAll_mk0),(show DataW.TrodVars enc Tryz.prog W' _ ["loop.example/g00381/impl.errThere", "loop.example/g00381/impl.errFull", "loop.example/g00381/impl.errSize", "loop.example/g00381/impl.errForm", "loop.example/g00381/impl.errNone", "loop.example/g00381/impl.errState", "loop.example/g00381/impl.errRange"] [tok enc (zBU (pe 3)),tok enc (zBU (pe 4)),tok enc (zBU (pe 1)),tok enc (zBU (pe 0)),tok enc (zBU (pe 2)),tok enc (zBU (pe 5)),tok enc (zBU (pe 6))] [.cell (errG 3) 0,.cell (errG 4) 0,.cell (errG 1) 0,.cell (errG 0) 0,.cell (errG 2) 0,.cell (errG 5) 0,.cell (errG 6) 0] from zEW enc (fun i hi=>zKd (dA i hi) bel) _ [3,4,1,0,2,5,6] (by decide)),bel.frame _,fun h=>by cases h⟩
end Go.Proofs.YtgabgheflgjgiaaGreatDoor
