/- A part of the proof. -/
import Derived.Test.YtgabgheflgjgiaaGreatDoorU1
import Derived.Test.YtgabgheflgjgiaaGreatDoorTie
import Derived.Test.YtgabgheflgjgiaaGreatDoorCards
import Derived.LaidSub
import Derived.SevenTiedAt
import Derived.ChangeMaps5
set_option linter.unusedVariables false
set_option maxRecDepth 20000
set_option maxHeartbeats 10000000
namespace Go.Proofs.YtgabgheflgjgiaaGreatDoor
set_option maxRecDepth 100000
theorem zFL:joinedFacts Tryz.prog 3 Tryz.f3 Rows.fnExactDeskFaultSpec Rows.fnExactDeskFaultRow=true:=by
 simp only[joinedFacts,Bool.and_eq_true]
 repeat' (with_reducible apply And.intro)
 all_goals as_aux_lemma=>kernel_rfl
end Go.Proofs.YtgabgheflgjgiaaGreatDoor
