/- A part of the proof. -/
import Derived.Test.YtgabgheflgjgiaaGreatDoorU49
import Derived.Test.YtgabgheflgjgiaaGreatDoorU50
set_option linter.unusedVariables false
set_option maxRecDepth 20000
set_option maxHeartbeats 10000000
namespace Go.Proofs.YtgabgheflgjgiaaGreatDoor
open Go.ChangeShapes Go.WideShapes Go.ChangeAt Go.RowKit
open Go.ChangeMaps (open_string)
set_option maxRecDepth 100000
theorem zDb:Rows.FnExactDeskFaultSaid:=
 OpenClaim.holds_of_wide 3 Tryz.f3 rfl rfl rfl rfl rfl rfl rfl ⟨rfl,rfl,rfl,rfl,rfl⟩ rfl rfl rfl rfl rfl (by as_aux_lemma=>kernel_rfl) Tryz.func3 zFL
  (of_decide_eq_true (by as_aux_lemma=>kernel_rfl)) (by unfold Func.isWrapper;first | (rw[if_pos (by decide +kernel)];kernel_rfl) | (rw[if_neg (by decide +kernel)];exact⟨rfl,rfl⟩))
  (fun os aA H enc _=>zCs os aA H enc)
end Go.Proofs.YtgabgheflgjgiaaGreatDoor
