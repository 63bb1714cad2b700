/- For every argument that comes in the law FnExactStoreSync returns true: impl.StoreSync answers as spec.StoreSync, every field; it writes into no argument, and its answer owns its memory. The seven errors of the package are as its text lays them (the card ties them to it). -/
import Derived.Test.YtihplgckbhnohaaGreatDoorRows
import Derived.Test.YtihplgckbhnohaaGreatDoorG37
import Derived.Test.YtihplgckbhnohaaGreatDoorG33
import Derived.Test.YtihplgckbhnohaaGreatDoorG29
import Derived.Test.YtihplgckbhnohaaGreatDoorG30
import Derived.Test.YtihplgckbhnohaaGreatDoorTie
import Derived.Test.YtihplgckbhnohaaGreatDoorCards
import Derived.OpenShut
import Derived.ChangeOld
import Derived.SevenTiedAt
namespace Go.Proofs.YtihplgckbhnohaaGreatDoor
open Go.ChangeShapes Go.WideShapes Go.ChangeAt Go.RowKit
set_option linter.unusedVariables false
theorem own:ownKnob Tryz.prog.godebug=none:=by kernel_rfl
theorem laidOut:laidOutB Tryz.prog=true:=by kernel_rfl
set_option maxRecDepth 100000 in
theorem fnExactStoreSync_lifted(os:Os)(started:os.Started)(H:Type)(enc:TypeId×Value→H) :
  ReturnsInHanded {} Tryz.checked os 3 .any (fun w args=>(Rows.fnExactStoreSyncSpec.pre enc Tryz.prog Tryz.f3 [] false w args∧laidMetH Tryz.prog laid7 w)∧sizedMet enc Tryz.prog Tryz.f3 (OpenSpec.ofChange Rows.fnExactStoreSyncSpec) false w args)
   (Rows.fnExactStoreSyncSpec.post enc Tryz.prog Tryz.f3 false true false false):=by
 refine returnsInHanded_of_change_and (C:=Tryz.checked) (X:=fun w _=>laidMetH Tryz.prog laid7 w) (fun _ _ _ hh h=>h.of_heap hh) own started (by kernel_rfl) Tryz.func3
  (ChangeSpec.witness_at (enc:=enc) (C:=Tryz.checked) (os:=os) (X:=fun w _=>laidMetH Tryz.prog laid7 w) false (laidWorld os) #[.agg #[.slice none 0 0,.slice none 0 0,.int .i64 0,.int .i64 0,.slice none 0 0,.slice none 0 0,.slice none 0 0,.slice none 0 0,.int .i64 0,.int .i64 0,.slice none 0 0,.slice none 0 0]] 8 rfl (by kernel_rfl) (by kernel_rfl) (by kernel_rfl) (by kernel_rfl) (by kernel_rfl) (laidWorld_met os _)) ?_
 intro W base args ds gs before hval0 hW _ _ hL _
 have hval:∀(j:Nat) t v,Tryz.f3.params[j]?=some t→args[j]?=some v→Value.okWide Tryz.prog W .any base t v:=hval0
 have hW':=hW
 obtain⟨p,q,hA0,hV0,rfl,hfz,hnd⟩:=hW
 have hA:DataW.TrodAll enc Tryz.prog W 0 (fun _=>true) true Tryz.f3.params.toList args.toList ds p:=hA0
 have hV:DataW.TrodVars enc Tryz.prog W (fun _=>true) ["loop.example/g00381/impl.errForm", "loop.example/g00381/impl.errSize", "loop.example/g00381/impl.errNone", "loop.example/g00381/impl.errThere", "loop.example/g00381/impl.errFull", "loop.example/g00381/impl.errState", "loop.example/g00381/impl.errRange"] gs q:=hV0
 rw [Tryz.params3] at hA hval
 obtain⟨v0,vs0,d0,ds0,p0,q0,hargs0,rfl,rfl,h0,r0⟩:=trodAll_cons hA
 obtain⟨rfl,rfl,rfl⟩:=trodAll_nil r0
 obtain rfl:args=#[v0]:=by cases args; simp_all
 obtain⟨pe,hE,hvar⟩:=errs_of_laid hL
 obtain⟨rfl,rfl⟩:=hV.unique (errs_read enc hvar _)
 have k0:=h0
 have lt0:∀x∈p0,x.block<W.heap.size:=by obtain⟨m,hm⟩:=k0; exact DataW.trod_lt m _ _ _ hm
 obtain⟨s0a,s0b,s0c,s0d,s0e,s0f,s0g,s0h,wd0,rfl,hp0,hwf0,hwg0⟩:=open_store (hval 0 31 v0 rfl rfl) h0
 clear hA0 hV0 hval0
 refine(fnExactStoreSync_walk pe s0a s0b s0c s0d s0e s0f s0g s0h wd0 W hp0 hwf0 hwg0 hE).mono fun e W' ⟨he,bel⟩=>?_
 subst he
 exact⟨_,rfl,_,_,_,[],_,[.cell (errG 0) 0,.cell (errG 1) 0,.cell (errG 2) 0,.cell (errG 3) 0,.cell (errG 4) 0,.cell (errG 5) 0,.cell (errG 6) 0],hW',trodAll_mk1 (shut_bool Tryz.underlying4 _),(trodAll_cons_mk (Below.trod laidOut (by kernel_rfl) (of_decide_eq_true (by kernel_rfl)) k0 bel lt0) trodAll_mk0),errs_read enc (fun i hi=>var?_below (hvar i hi) bel) _,bel.frame _,fun h=>by cases h⟩
theorem fnExactStoreSync_row:Rows.FnExactStoreSyncSaid:=
 OpenClaim.holds_of_wide 3 Tryz.f3 rfl rfl rfl rfl rfl rfl rfl ⟨rfl,rfl,rfl,rfl,rfl⟩ rfl rfl rfl rfl rfl (by kernel_rfl) Tryz.func3 (by kernel_rfl)
  (of_decide_eq_true (by kernel_rfl)) (by unfold Func.isWrapper; first | (rw [if_pos (by decide +kernel)]; kernel_rfl) | (rw [if_neg (by decide +kernel)]; exact⟨rfl,rfl⟩))
  (fun os started H enc _=>fnExactStoreSync_lifted os started H enc)
theorem fnExactStoreSync_holds:Rows.FnExactStoreSyncCardSaid:=
 Claim7.holds_tied_plain_at .later [] [.sentinel,.sentinel,.sentinel,.sentinel,.sentinel,.sentinel,.sentinel] true (true,Rows.fnExactStoreSyncCard.stood.harness.2) true
  fnExactStoreSync_row (fun _ h=>by cases h) (by kernel_rfl) (fun _ h=>by cases h) fnExactStoreSync_row_tie rfl ⟨rfl,rfl⟩ (by kernel_rfl) rfl
  (fun f fn hf hfn=>by
   obtain rfl:f=3:=Option.some.inj ((show Tryz.prog.funcNamed "loop.example/g00381/laws.FnExactStoreSync" = some 3 by kernel_rfl).symm.trans hf) |>.symm
   obtain rfl:fn=Tryz.f3:=(Option.some.inj (Tryz.func3.symm.trans hfn)).symm
   exact⟨by kernel_rfl,fun j t ht=>by
    rw [Tryz.params3] at ht
    have hm:t∈[31]:=by simpa using Array.mem_of_getElem? ht
    have hall:([31].all fun u=>!Tryz.prog.wantsStandIn u)=true:=by kernel_rfl
    exact(show Tryz.prog.wantsStandIn t=false by simpa using List.all_eq_true.1 hall t hm)⟩)
  (by kernel_rfl)
end Go.Proofs.YtihplgckbhnohaaGreatDoor
