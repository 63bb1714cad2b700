/-
  DERIVED. GIVEN WITH THE SEED: THE PROGRAM's TIES (one call each: nine closed facts by the kernel) AND EACH ROW's TIE, after the 31st guide's Derived/Test/Toyas{Tie, Card}.lean. No idea stands in it: it is a product of the set-up. Laid BY PROGRAM, IN A SANDBOX (cutbox-door.mjs). By AI agents, Wed Nov 11 2026. No macro, syntax, notation, axiom, sorry.
-/
import Derived.Test.YtibhefllijahkaaGreatDoorRows
import Derived.LaidByTextLater
import Derived.SevenTiedAt
import Derived.LaidSub
import Derived.LaidOnce
namespace Go.Proofs.YtibhefllijahkaaGreatDoor
open Go
set_option maxRecDepth 100000
theorem seatTie1 : Tryz.prog.laidByTextLater [("loop.example/g00381/impl.errForm", Rows.laid_loop_example_g00381_impl_errForm), ("loop.example/g00381/impl.errSize", Rows.laid_loop_example_g00381_impl_errSize), ("loop.example/g00381/impl.errNone", Rows.laid_loop_example_g00381_impl_errNone), ("loop.example/g00381/impl.errThere", Rows.laid_loop_example_g00381_impl_errThere), ("loop.example/g00381/impl.errFull", Rows.laid_loop_example_g00381_impl_errFull), ("loop.example/g00381/impl.errState", Rows.laid_loop_example_g00381_impl_errState), ("loop.example/g00381/impl.errRange", Rows.laid_loop_example_g00381_impl_errRange)] [.sentinel, .sentinel, .sentinel, .sentinel, .sentinel, .sentinel, .sentinel] true :=
  Program.laidByTextLater_by_one 142 8 2 (by kernel_rfl) (by kernel_rfl) (by kernel_rfl) (by kernel_rfl) (by kernel_rfl) (by kernel_rfl) (fun _ _ => by kernel_rfl)
theorem noOwnUnsafe : Tryz.pinned.checked.prog.headLifts.contains "ownunsafe" = false := by kernel_rfl
theorem tie : Tryz.prog.laidByTextLater [("loop.example/g00381/impl.errForm", Rows.laid_loop_example_g00381_impl_errForm), ("loop.example/g00381/impl.errSize", Rows.laid_loop_example_g00381_impl_errSize), ("loop.example/g00381/impl.errNone", Rows.laid_loop_example_g00381_impl_errNone), ("loop.example/g00381/impl.errThere", Rows.laid_loop_example_g00381_impl_errThere), ("loop.example/g00381/impl.errFull", Rows.laid_loop_example_g00381_impl_errFull), ("loop.example/g00381/impl.errState", Rows.laid_loop_example_g00381_impl_errState), ("loop.example/g00381/impl.errRange", Rows.laid_loop_example_g00381_impl_errRange)] [.sentinel, .sentinel, .sentinel, .sentinel, .sentinel, .sentinel, .sentinel] true :=
  Program.laidByTextLater.sub seatTie1 ["loop.example/g00381/impl.errForm", "loop.example/g00381/impl.errSize", "loop.example/g00381/impl.errNone", "loop.example/g00381/impl.errThere", "loop.example/g00381/impl.errFull", "loop.example/g00381/impl.errState", "loop.example/g00381/impl.errRange"] (by kernel_rfl) (by kernel_rfl)
theorem fnPromote_row_tie : Rows.fnPromoteRow.laidByTextAt .later Tryz.pinned [.sentinel, .sentinel, .sentinel, .sentinel, .sentinel, .sentinel, .sentinel] true :=
  OpenClaim.laidByTextAt_later rfl rfl tie noOwnUnsafe
theorem fnPromoteUpto_row_tie : Rows.fnPromoteUptoRow.laidByTextAt .later Tryz.pinned [.sentinel, .sentinel, .sentinel, .sentinel, .sentinel, .sentinel, .sentinel] true :=
  OpenClaim.laidByTextAt_later rfl rfl tie noOwnUnsafe
end Go.Proofs.YtibhefllijahkaaGreatDoor
