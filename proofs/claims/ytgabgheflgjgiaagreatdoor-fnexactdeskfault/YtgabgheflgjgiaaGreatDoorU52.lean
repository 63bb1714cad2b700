/- For every text that comes in the law FnExactDeskFault returns true: impl.DeskFault answers as spec.DeskFault, field by field. The package variables on the road are as their text lays them (the card ties them to it). -/
import Derived.Test.YtgabgheflgjgiaaGreatDoorU51
set_option linter.unusedVariables false
set_option maxRecDepth 20000
set_option maxHeartbeats 10000000
namespace Go.Proofs.YtgabgheflgjgiaaGreatDoor
open Go.ChangeShapes Go.WideShapes Go.ChangeAt Go.RowKit
open Go.ChangeMaps (open_string)
set_option maxRecDepth 100000
theorem fnExactDeskFault_holds:Rows.FnExactDeskFaultCardSaid:=
 Claim7.holds_tied_plain_at .later [] [.data,.data,.data,.data,.sentinel,.sentinel,.sentinel,.sentinel,.sentinel,.sentinel,.sentinel,.pinned] true (true,Rows.fnExactDeskFaultCard.stood.harness.2) true
  zDb (fun _ h=>by cases h) (by as_aux_lemma=>kernel_rfl) (fun _ h=>by cases h) fnExactDeskFault_row_tie rfl ⟨rfl,rfl⟩ (by as_aux_lemma=>kernel_rfl) rfl
  (fun f fn hf bA=>by
   obtain rfl:f=3:=Option.some.inj ((show Tryz.prog.funcNamed "loop.example/g00381/laws.FnExactDeskFault" = some 3 by kernel_rfl).symm.trans hf) |>.symm;obtain rfl:fn=Tryz.f3:=(Option.some.inj (Tryz.func3.symm.trans bA)).symm;exact⟨by kernel_rfl,fun j t ht=>by
    rw[Tryz.params3]at ht;have hm:t∈[9]:=(by simpa using Array.mem_of_getElem? ht);have aA:([9].all fun u=>!Tryz.prog.wantsStandIn u)=true:=(by kernel_rfl);exact(show Tryz.prog.wantsStandIn t=false by simpa using List.all_eq_true.1 aA t hm)⟩)
  (by as_aux_lemma=>kernel_rfl)
end Go.Proofs.YtgabgheflgjgiaaGreatDoor
