/-
  DERIVED. GIVEN WITH THE SEED: THE CARDS: each row of YtbplmbafodlboaaGreatDoorRows.lean that lists a variable, with what it lists TIED to the program's text (the seventh form; the later family's looks); each row that meets fmt, with fmt's text TOLD by the authors' own Lean function (tested against real Go, not proved from fmt's source: count such statements apart). THE CARD IS WHAT COUNTS. Prove the row's statement (the work); the ties are given (YtbplmbafodlboaaGreatDoorTie.lean); close each card by the builder's one call (the guide's Derived/Test/ToyasCard.lean, 'card_holds'). Laid BY PROGRAM, IN A SANDBOX (cutbox-door.mjs). By AI agents, Wed Nov 11 2026. No macro, syntax, notation, axiom, sorry.
-/
import Derived.Test.YtbplmbafodlboaaGreatDoorRows
import GoSem.ClaimSeven
namespace Go.Proofs.YtbplmbafodlboaaGreatDoor
namespace Rows

/-- THE TIED CARD OF 'laws.FnCrash'. -/
def fnCrashCard : Claim7 := { stood := { row := fnCrashRow, standIns := [], harness := (true, "7b2bff54856b6f1c840a05972839d301c1220cdf09788f868eb9053d14f04a18"), looks := true }, kinds := [], alts := [], laidByText := true, laidKinds := [.sentinel, .sentinel, .sentinel, .sentinel, .sentinel, .sentinel, .sentinel], laidTests := true, laidLooks := .later }
def FnCrashCardSaid : Prop := Claim7.holds Tryz.pinned (.plain (OpenSpec.ofChange fnCrashSpec)) fnCrashCard

/-- THE TIED CARD OF 'laws.FnTurn'. -/
def fnTurnCard : Claim7 := { stood := { row := fnTurnRow, standIns := [], harness := (true, "7b2bff54856b6f1c840a05972839d301c1220cdf09788f868eb9053d14f04a18"), looks := true }, kinds := [], alts := [], laidByText := true, laidKinds := [.sentinel, .sentinel, .sentinel, .sentinel, .sentinel, .sentinel, .sentinel], laidTests := true, laidLooks := .later }
def FnTurnCardSaid : Prop := Claim7.holds Tryz.pinned (.plain (OpenSpec.ofChange fnTurnSpec)) fnTurnCard

/-- THE SECOND FORM's CARD OF 'laws.FnCrash'. -/
def fnCrashUptoCard : Claim7 := { stood := { row := fnCrashUptoRow, standIns := [], harness := (true, "7b2bff54856b6f1c840a05972839d301c1220cdf09788f868eb9053d14f04a18"), looks := true }, kinds := [], alts := [], laidByText := true, laidKinds := [.sentinel, .sentinel, .sentinel, .sentinel, .sentinel, .sentinel, .sentinel], laidTests := true, laidLooks := .later }
def FnCrashUptoCardSaid : Prop := Claim7.holds Tryz.pinned (.plain (OpenSpec.upto fnCrashSpec)) fnCrashUptoCard

/-- THE SECOND FORM's CARD OF 'laws.FnTurn'. -/
def fnTurnUptoCard : Claim7 := { stood := { row := fnTurnUptoRow, standIns := [], harness := (true, "7b2bff54856b6f1c840a05972839d301c1220cdf09788f868eb9053d14f04a18"), looks := true }, kinds := [], alts := [], laidByText := true, laidKinds := [.sentinel, .sentinel, .sentinel, .sentinel, .sentinel, .sentinel, .sentinel], laidTests := true, laidLooks := .later }
def FnTurnUptoCardSaid : Prop := Claim7.holds Tryz.pinned (.plain (OpenSpec.upto fnTurnSpec)) fnTurnUptoCard
end Rows
end Go.Proofs.YtbplmbafodlboaaGreatDoor
