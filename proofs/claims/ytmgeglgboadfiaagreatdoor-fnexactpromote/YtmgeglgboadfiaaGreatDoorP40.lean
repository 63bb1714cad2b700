/- For every argument that comes in the law FnExactPromote returns true: impl.Promote answers as spec.Promote, every field; it writes into no argument, and its answer owns its memory. The seven errors of the package are as its text lays them (the card ties them to it). -/
import Derived.Test.YtmgeglgboadfiaaGreatDoorRows
import Derived.Test.YtmgeglgboadfiaaGreatDoorP38
import Derived.Test.YtmgeglgboadfiaaGreatDoorP39
import Derived.Test.YtmgeglgboadfiaaGreatDoorP36
import Derived.Test.YtmgeglgboadfiaaGreatDoorTie
import Derived.Test.YtmgeglgboadfiaaGreatDoorCards
import Derived.OpenShut
import Derived.ChangeOld
import Derived.SevenTiedAt
import Derived.ChangeMaps5
namespace Go.Proofs.YtmgeglgboadfiaaGreatDoor
open Go.ChangeShapes Go.WideShapes Go.ChangeAt Go.RowKit
open Go.ChangeMaps (open_string)
set_option linter.unusedVariables false
theorem own:ownKnob Tryz.prog.godebug=none:=by kernel_rfl
theorem laidOut:laidOutB Tryz.prog=true:=by kernel_rfl
set_option maxRecDepth 100000 in
theorem fnExactPromote_lifted(os:Os)(started:os.Started)(H:Type)(enc:TypeId×Value→H) :
  ReturnsInHanded {} Tryz.checked os 6 .any (fun w args=>(Rows.fnExactPromoteSpec.pre enc Tryz.prog Tryz.f6 [] false w args∧laidMetH Tryz.prog laid7 w)∧sizedMet enc Tryz.prog Tryz.f6 (OpenSpec.ofChange Rows.fnExactPromoteSpec) false w args)
   (Rows.fnExactPromoteSpec.post enc Tryz.prog Tryz.f6 false true false false):=by
 refine returnsInHanded_of_change_and (C:=Tryz.checked) (X:=fun w _=>laidMetH Tryz.prog laid7 w) (fun _ _ _ hh h=>h.of_heap hh) own started (by kernel_rfl) Tryz.func6
  (ChangeSpec.witness_at (enc:=enc) (C:=Tryz.checked) (os:=os) (X:=fun w _=>laidMetH Tryz.prog laid7 w) false (laidWorld os) #[.agg #[.slice none 0 0,.slice none 0 0,.int .i64 0,.int .i64 0,.slice none 0 0,.slice none 0 0],.string ⟨#[]⟩] 8 rfl (by kernel_rfl) (by kernel_rfl) (by kernel_rfl) (by kernel_rfl) (by kernel_rfl) (laidWorld_met os _)) ?_
 intro W base args ds gs before hval0 hW _ _ hL _
 have hval:∀(j:Nat) t v,Tryz.f6.params[j]?=some t→args[j]?=some v→Value.okWide Tryz.prog W .any base t v:=hval0
 have hW':=hW
 obtain⟨p,q,hA0,hV0,rfl,hfz,hnd⟩:=hW
 have hA:DataW.TrodAll enc Tryz.prog W 0 (fun _=>true) true Tryz.f6.params.toList args.toList ds p:=hA0
 have hV:DataW.TrodVars enc Tryz.prog W (fun _=>true) ["loop.example/g00381/impl.errNone", "loop.example/g00381/impl.errState", "loop.example/g00381/impl.errThere", "loop.example/g00381/impl.errSize", "loop.example/g00381/impl.errForm", "loop.example/g00381/impl.errFull", "loop.example/g00381/impl.errRange"] gs q:=hV0
 rw [Tryz.params6] at hA hval
 obtain⟨v0,vs0,d0,ds0,p0,q0,hargs0,rfl,rfl,h0,r0⟩:=trodAll_cons hA
 obtain⟨v1,vs1,d1,ds1,p1,q1,hargs1,rfl,rfl,h1,r1⟩:=trodAll_cons r0
 obtain⟨rfl,rfl,rfl⟩:=trodAll_nil r1
 obtain rfl:args=#[v0,v1]:=by cases args; simp_all
 obtain⟨pe,hE,hvar⟩:=errs_of_laid hL
 obtain⟨rfl,rfl⟩:=hV.unique ((show DataW.TrodVars enc Tryz.prog W _ ["loop.example/g00381/impl.errNone", "loop.example/g00381/impl.errState", "loop.example/g00381/impl.errThere", "loop.example/g00381/impl.errSize", "loop.example/g00381/impl.errForm", "loop.example/g00381/impl.errFull", "loop.example/g00381/impl.errRange"] [tok enc (errV (pe 2)),tok enc (errV (pe 5)),tok enc (errV (pe 3)),tok enc (errV (pe 1)),tok enc (errV (pe 0)),tok enc (errV (pe 4)),tok enc (errV (pe 6))] [.cell (errG 2) 0,.cell (errG 5) 0,.cell (errG 3) 0,.cell (errG 1) 0,.cell (errG 0) 0,.cell (errG 4) 0,.cell (errG 6) 0] from errs_readL enc hvar _ [2,5,3,1,0,4,6] (by decide)))
 have k0:=h0
 have k1:=h1
 have lt0:∀x∈p0,x.block<W.heap.size:=by obtain⟨m,hm⟩:=k0; exact DataW.trod_lt m _ _ _ hm
 have lt1:∀x∈p1,x.block<W.heap.size:=by obtain⟨m,hm⟩:=k1; exact DataW.trod_lt m _ _ _ hm
 obtain⟨s0a,s0b,s0c,s0d,wd0,rfl,hp0,hwf0⟩:=open_world (hval 0 29 v0 rfl rfl) h0
 obtain⟨st1,rfl,_,_,hz1⟩:=open_string Tryz.underlying9 (hval 1 9 v1 rfl rfl) h1
 clear hA0 hV0 hval0
 refine(fnExactPromote_walk pe s0a s0b s0c s0d wd0 st1 W hp0 hwf0 hz1 hE).mono fun e W' ⟨he,bel⟩=>?_
 subst he
 exact⟨_,rfl,_,_,_,[],_,[.cell (errG 2) 0,.cell (errG 5) 0,.cell (errG 3) 0,.cell (errG 1) 0,.cell (errG 0) 0,.cell (errG 4) 0,.cell (errG 6) 0],hW',trodAll_mk1 (shut_bool Tryz.underlying4 _),(trodAll_cons_mk (Below.trod laidOut (by kernel_rfl) (of_decide_eq_true (by kernel_rfl)) k0 bel lt0) (trodAll_cons_mk (Below.trod laidOut (by kernel_rfl) (of_decide_eq_true (by kernel_rfl)) k1 bel lt1) trodAll_mk0)),(show DataW.TrodVars enc Tryz.prog W' _ ["loop.example/g00381/impl.errNone", "loop.example/g00381/impl.errState", "loop.example/g00381/impl.errThere", "loop.example/g00381/impl.errSize", "loop.example/g00381/impl.errForm", "loop.example/g00381/impl.errFull", "loop.example/g00381/impl.errRange"] [tok enc (errV (pe 2)),tok enc (errV (pe 5)),tok enc (errV (pe 3)),tok enc (errV (pe 1)),tok enc (errV (pe 0)),tok enc (errV (pe 4)),tok enc (errV (pe 6))] [.cell (errG 2) 0,.cell (errG 5) 0,.cell (errG 3) 0,.cell (errG 1) 0,.cell (errG 0) 0,.cell (errG 4) 0,.cell (errG 6) 0] from errs_readL enc (fun i hi=>var?_below (hvar i hi) bel) _ [2,5,3,1,0,4,6] (by decide)),bel.frame _,fun h=>by cases h⟩
theorem fnExactPromote_row:Rows.FnExactPromoteSaid:=
 OpenClaim.holds_of_wide 6 Tryz.f6 rfl rfl rfl rfl rfl rfl rfl ⟨rfl,rfl,rfl,rfl,rfl⟩ rfl rfl rfl rfl rfl (by kernel_rfl) Tryz.func6 (by kernel_rfl)
  (of_decide_eq_true (by kernel_rfl)) (by unfold Func.isWrapper; first | (rw [if_pos (by decide +kernel)]; kernel_rfl) | (rw [if_neg (by decide +kernel)]; exact⟨rfl,rfl⟩))
  (fun os started H enc _=>fnExactPromote_lifted os started H enc)
theorem fnExactPromote_holds:Rows.FnExactPromoteCardSaid:=
 Claim7.holds_tied_plain_at .later [] [.sentinel,.sentinel,.sentinel,.sentinel,.sentinel,.sentinel,.sentinel] true (true,Rows.fnExactPromoteCard.stood.harness.2) true
  fnExactPromote_row (fun _ h=>by cases h) (by kernel_rfl) (fun _ h=>by cases h) fnExactPromote_row_tie rfl ⟨rfl,rfl⟩ (by kernel_rfl) rfl
  (fun f fn hf hfn=>by
   obtain rfl:f=6:=Option.some.inj ((show Tryz.prog.funcNamed "loop.example/g00381/laws.FnExactPromote" = some 6 by kernel_rfl).symm.trans hf) |>.symm
   obtain rfl:fn=Tryz.f6:=(Option.some.inj (Tryz.func6.symm.trans hfn)).symm
   exact⟨by kernel_rfl,fun j t ht=>by
    rw [Tryz.params6] at ht
    have hm:t∈[29,9]:=by simpa using Array.mem_of_getElem? ht
    have hall:([29,9].all fun u=>!Tryz.prog.wantsStandIn u)=true:=by kernel_rfl
    exact(show Tryz.prog.wantsStandIn t=false by simpa using List.all_eq_true.1 hall t hm)⟩)
  (by kernel_rfl)
end Go.Proofs.YtmgeglgboadfiaaGreatDoor
