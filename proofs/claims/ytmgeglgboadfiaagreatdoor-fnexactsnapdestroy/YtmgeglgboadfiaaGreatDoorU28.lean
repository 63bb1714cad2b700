/- For every argument that comes in the law FnExactSnapDestroy returns true: impl.SnapDestroy answers as spec.SnapDestroy, every field; it writes into no argument, and its answer owns its memory. The seven errors of the package are as its text lays them (the card ties them to it). -/
import Derived.Test.YtmgeglgboadfiaaGreatDoorU26
import Derived.Test.YtmgeglgboadfiaaGreatDoorU27
import Derived.Test.YtmgeglgboadfiaaGreatDoorTie
import Derived.Test.YtmgeglgboadfiaaGreatDoorCards
import Derived.SevenTiedAt
set_option linter.unusedVariables false
set_option maxRecDepth 20000
set_option maxHeartbeats 4000000
namespace Go.Proofs.YtmgeglgboadfiaaGreatDoor
open Go.ChangeShapes Go.WideShapes Go.ChangeAt Go.RowKit
theorem own:ownKnob Tryz.prog.godebug=none:=by kernel_rfl
theorem zLt:laidOutB Tryz.prog=true:=by kernel_rfl
theorem zB7(os:Os)(aA:os.Started)(H:Type)(enc:TypeId×Value->H) :
  ReturnsInHanded {} Tryz.checked os 5 .any (fun w args=>(Rows.fnExactSnapDestroySpec.pre enc Tryz.prog Tryz.f5 [] false w args/\laidMetH Tryz.prog zJ3 w)/\sizedMet enc Tryz.prog Tryz.f5 (OpenSpec.ofChange Rows.fnExactSnapDestroySpec) false w args)
   (Rows.fnExactSnapDestroySpec.post enc Tryz.prog Tryz.f5 false true false false):=by
 refine returnsInHanded_of_change_and (C:=Tryz.checked) (X:=fun w _=>laidMetH Tryz.prog zJ3 w) (fun _ _ _ hh h=>h.of_heap hh) own aA (by kernel_rfl) Tryz.func5
  (ChangeSpec.witness_at (enc:=enc) (C:=Tryz.checked) (os:=os) (X:=fun w _=>laidMetH Tryz.prog zJ3 w) false (zIB os) #[.agg #[.slice none 0 0,.slice none 0 0,.int .i64 0,.int .i64 0,.slice none 0 0,.slice none 0 0],.int .i64 0] 8 rfl (by kernel_rfl) (by kernel_rfl) (by kernel_rfl) (by kernel_rfl) (by kernel_rfl) (zHg os _)) ?_
 intro W base args ds gs eA bA hW _ _ hL _;have cA:∀(j:Nat) t v,Tryz.f5.params[j]?=some t->args[j]?=some v->Value.okWide Tryz.prog W .any base t v:=bA;have lA:=hW;obtain⟨p,q,jA,kA,rfl,dB,eB⟩:=hW;have hA:DataW.TrodAll enc Tryz.prog W 0 (fun _=>true) true Tryz.f5.params.toList args.toList ds p:=jA;have hV:DataW.TrodVars enc Tryz.prog W (fun _=>true) ["loop.example/g00381/impl.errNone", "loop.example/g00381/impl.errState", "loop.example/g00381/impl.errSize", "loop.example/g00381/impl.errForm", "loop.example/g00381/impl.errThere", "loop.example/g00381/impl.errFull", "loop.example/g00381/impl.errRange"] gs q:=kA;rw[Tryz.params5]at hA cA;obtain⟨v0,fB,d0,bB,p0,q0,fA,rfl,rfl,h0,r0⟩:=trodAll_cons hA;obtain⟨v1,gB,d1,cB,p1,q1,gA,rfl,rfl,h1,r1⟩:=trodAll_cons r0;obtain⟨rfl,rfl,rfl⟩:=trodAll_nil r1;obtain rfl:args=#[v0,v1]:=by cases args;simp_all
 obtain⟨pe,hE,dA⟩:=zIn hL;obtain⟨rfl,rfl⟩:=hV.unique ((show DataW.TrodVars enc Tryz.prog W _ ["loop.example/g00381/impl.errNone", "loop.example/g00381/impl.errState", "loop.example/g00381/impl.errSize", "loop.example/g00381/impl.errForm", "loop.example/g00381/impl.errThere", "loop.example/g00381/impl.errFull", "loop.example/g00381/impl.errRange"] [tok enc (qC (pe 2)),tok enc (qC (pe 5)),tok enc (qC (pe 1)),tok enc (qC (pe 0)),tok enc (qC (pe 3)),tok enc (qC (pe 4)),tok enc (qC (pe 6))] [.cell (zAW 2) 0,.cell (zAW 5) 0,.cell (zAW 1) 0,.cell (zAW 0) 0,.cell (zAW 3) 0,.cell (zAW 4) 0,.cell (zAW 6) 0] from zEP enc dA _ [2,5,1,0,3,4,6] (by decide)));have k0:=h0;have k1:=h1;have nA:∀x∈p0,x.block<W.heap.size:=by obtain⟨m,hm⟩:=k0;exact DataW.trod_lt m _ _ _ hm
 have oA:∀x∈p1,x.block<W.heap.size:=by obtain⟨m,hm⟩:=k1;exact DataW.trod_lt m _ _ _ hm
 obtain⟨pA,rA,sA,tA,vA,rfl,mA,iA⟩:=zLH (cA 0 29 v0 rfl rfl) h0;obtain⟨z1,rfl,e1,_,aB⟩:=open_int Tryz.underlying2 (cA 1 2 v1 rfl rfl) h1;clear jA kA bA;refine(zCc pe pA rA sA tA vA z1 W mA iA aB hE).mono fun e W' ⟨he,bel⟩=>?_
 subst he;exact⟨_,rfl,_,_,_,[],_,[.cell (zAW 2) 0,.cell (zAW 5) 0,.cell (zAW 1) 0,.cell (zAW 0) 0,.cell (zAW 3) 0,.cell (zAW 4) 0,.cell (zAW 6) 0],lA,trodAll_mk1 (shut_bool Tryz.underlying4 _),(trodAll_cons_mk (Below.trod zLt (by kernel_rfl) (of_decide_eq_true (by kernel_rfl)) k0 bel nA) (trodAll_cons_mk (Below.trod zLt (by kernel_rfl) (of_decide_eq_true (by kernel_rfl)) k1 bel oA) trodAll_mk0)),(show DataW.TrodVars enc Tryz.prog W' _ ["loop.example/g00381/impl.errNone", "loop.example/g00381/impl.errState", "loop.example/g00381/impl.errSize", "loop.example/g00381/impl.errForm", "loop.example/g00381/impl.errThere", "loop.example/g00381/impl.errFull", "loop.example/g00381/impl.errRange"] [tok enc (qC (pe 2)),tok enc (qC (pe 5)),tok enc (qC (pe 1)),tok enc (qC (pe 0)),tok enc (qC (pe 3)),tok enc (qC (pe 4)),tok enc (qC (pe 6))] [.cell (zAW 2) 0,.cell (zAW 5) 0,.cell (zAW 1) 0,.cell (zAW 0) 0,.cell (zAW 3) 0,.cell (zAW 4) 0,.cell (zAW 6) 0] from zEP enc (fun i hi=>zLZ (dA i hi) bel) _ [2,5,1,0,3,4,6] (by decide)),bel.frame _,fun h=>by cases h⟩
theorem zCs:Rows.FnExactSnapDestroySaid:=
 OpenClaim.holds_of_wide 5 Tryz.f5 rfl rfl rfl rfl rfl rfl rfl ⟨rfl,rfl,rfl,rfl,rfl⟩ rfl rfl rfl rfl rfl (by kernel_rfl) Tryz.func5 (by kernel_rfl)
  (of_decide_eq_true (by kernel_rfl)) (by unfold Func.isWrapper;first | (rw[if_pos (by decide +kernel)];kernel_rfl) | (rw[if_neg (by decide +kernel)];exact⟨rfl,rfl⟩))
  (fun os aA H enc _=>zB7 os aA H enc)
theorem fnExactSnapDestroy_holds:Rows.FnExactSnapDestroyCardSaid:=
 Claim7.holds_tied_plain_at .later [] [.sentinel,.sentinel,.sentinel,.sentinel,.sentinel,.sentinel,.sentinel] true (true,Rows.fnExactSnapDestroyCard.stood.harness.2) true
  zCs (fun _ h=>by cases h) (by kernel_rfl) (fun _ h=>by cases h) fnExactSnapDestroy_row_tie rfl ⟨rfl,rfl⟩ (by kernel_rfl) rfl
  (fun f fn hf bA=>by
   obtain rfl:f=5:=Option.some.inj ((show Tryz.prog.funcNamed "loop.example/g00381/laws.FnExactSnapDestroy" = some 5 by kernel_rfl).symm.trans hf) |>.symm;obtain rfl:fn=Tryz.f5:=(Option.some.inj (Tryz.func5.symm.trans bA)).symm;exact⟨by kernel_rfl,fun j t ht=>by
    rw[Tryz.params5]at ht;have hm:t∈[29,2]:=(by simpa using Array.mem_of_getElem? ht);have aA:([29,2].all fun u=>!Tryz.prog.wantsStandIn u)=true:=(by kernel_rfl);exact(show Tryz.prog.wantsStandIn t=false by simpa using List.all_eq_true.1 aA t hm)⟩)
  (by kernel_rfl)
end Go.Proofs.YtmgeglgboadfiaaGreatDoor
