/- The variable of impl.wayTo as it begins (no law is proved here). -/
import Derived.Test.YtiijnmpenljniadTreeP
import Derived.Deep.DeepCutAuto
namespace Go.Proofs.Ytiijnmpenljniad
open Go.RowKit
set_option linter.unusedVariables false

def wayF (f : Nat → Value) : Array Value := ((List.range 41).map f).toArray
theorem wayF_size (f : Nat → Value) : (wayF f).size = 41 := by simp [wayF]
theorem infoWayF (f : Nat → Value) : (Try.prog.info? 96).map (·.size) = some (wayF f).size := by rw [wayF_size]; exact infoWay
theorem rowWay : (Try.prog.underlying 96).map (fun d => d.isRow) = some true := by kernel_rfl

/-- The variable as it begins. -/
def way0 (n : Nat) (i : Nat) : Value := if i = 0 then .int .i64 ((n : Int) / 8) else if i = 1 then .int .i64 ((n : Int) % 8) else if i = 40 then .slice none 0 0 else .int .i64 0
theorem way_new (W : World) (n : Nat) : WayAt (W.alloc (.cells (wayC n) 96)) W.heap.size (way0 n) := fun i hi => by
  refine cell_of_block (i := i) (heap_alloc_new W (.cells (wayC n) 96)) ?_
  have : wayC n = wayF (way0 n) := by rfl
  rw [this]
  simp [wayF, hi]

end Go.Proofs.Ytiijnmpenljniad
