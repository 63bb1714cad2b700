/-
  DERIVED. GIVEN WITH THE SEED: THE CARDS: each row of YtmgeglgboadfiaaGreatDoorRows.lean that lists a variable, with what it lists TIED to the program's text (the seventh form; the later family's looks); each row that meets fmt, with fmt's text TOLD by the authors' own Lean function (tested against real Go, not proved from fmt's source: count such statements apart). THE CARD IS WHAT COUNTS. Prove the row's statement (the work); the ties are given (YtmgeglgboadfiaaGreatDoorTie.lean); close each card by the builder's one call (the guide's Derived/Test/ToyasCard.lean, 'card_holds'). Laid BY PROGRAM, IN A SANDBOX (cutbox-door.mjs). By AI agents, Wed Nov 11 2026. No macro, syntax, notation, axiom, sorry.
-/
import Derived.Test.YtmgeglgboadfiaaGreatDoorRows
import GoSem.ClaimSeven
namespace Go.Proofs.YtmgeglgboadfiaaGreatDoor
namespace Rows

/-- THE TIED CARD OF 'laws.FnExactSetWrite'. -/
def fnExactSetWriteCard : Claim7 := { stood := { row := fnExactSetWriteRow, standIns := [], harness := (true, "f569fb2e4214d53db6d5b2a77b50c517c833a376570fba39ad0f6d09c49e2084"), looks := true }, kinds := [], alts := [], laidByText := true, laidKinds := [.sentinel, .sentinel, .sentinel, .sentinel, .sentinel, .sentinel, .sentinel], laidTests := true, laidLooks := .later }
def FnExactSetWriteCardSaid : Prop := Claim7.holds Tryz.pinned (.plain (OpenSpec.ofChange fnExactSetWriteSpec)) fnExactSetWriteCard

/-- THE TIED CARD OF 'laws.FnExactSetTrim'. -/
def fnExactSetTrimCard : Claim7 := { stood := { row := fnExactSetTrimRow, standIns := [], harness := (true, "f569fb2e4214d53db6d5b2a77b50c517c833a376570fba39ad0f6d09c49e2084"), looks := true }, kinds := [], alts := [], laidByText := true, laidKinds := [.sentinel, .sentinel, .sentinel, .sentinel, .sentinel, .sentinel, .sentinel], laidTests := true, laidLooks := .later }
def FnExactSetTrimCardSaid : Prop := Claim7.holds Tryz.pinned (.plain (OpenSpec.ofChange fnExactSetTrimSpec)) fnExactSetTrimCard

/-- THE TIED CARD OF 'laws.FnExactSnapDestroy'. -/
def fnExactSnapDestroyCard : Claim7 := { stood := { row := fnExactSnapDestroyRow, standIns := [], harness := (true, "f569fb2e4214d53db6d5b2a77b50c517c833a376570fba39ad0f6d09c49e2084"), looks := true }, kinds := [], alts := [], laidByText := true, laidKinds := [.sentinel, .sentinel, .sentinel, .sentinel, .sentinel, .sentinel, .sentinel], laidTests := true, laidLooks := .later }
def FnExactSnapDestroyCardSaid : Prop := Claim7.holds Tryz.pinned (.plain (OpenSpec.ofChange fnExactSnapDestroySpec)) fnExactSnapDestroyCard

/-- THE TIED CARD OF 'laws.FnExactPromote'. -/
def fnExactPromoteCard : Claim7 := { stood := { row := fnExactPromoteRow, standIns := [], harness := (true, "f569fb2e4214d53db6d5b2a77b50c517c833a376570fba39ad0f6d09c49e2084"), looks := true }, kinds := [], alts := [], laidByText := true, laidKinds := [.sentinel, .sentinel, .sentinel, .sentinel, .sentinel, .sentinel, .sentinel], laidTests := true, laidLooks := .later }
def FnExactPromoteCardSaid : Prop := Claim7.holds Tryz.pinned (.plain (OpenSpec.ofChange fnExactPromoteSpec)) fnExactPromoteCard

/-- THE SECOND FORM's CARD OF 'laws.FnExactSetWrite'. -/
def fnExactSetWriteUptoCard : Claim7 := { stood := { row := fnExactSetWriteUptoRow, standIns := [], harness := (true, "f569fb2e4214d53db6d5b2a77b50c517c833a376570fba39ad0f6d09c49e2084"), looks := true }, kinds := [], alts := [], laidByText := true, laidKinds := [.sentinel, .sentinel, .sentinel, .sentinel, .sentinel, .sentinel, .sentinel], laidTests := true, laidLooks := .later }
def FnExactSetWriteUptoCardSaid : Prop := Claim7.holds Tryz.pinned (.plain (OpenSpec.upto fnExactSetWriteSpec)) fnExactSetWriteUptoCard

/-- THE SECOND FORM's CARD OF 'laws.FnExactSetTrim'. -/
def fnExactSetTrimUptoCard : Claim7 := { stood := { row := fnExactSetTrimUptoRow, standIns := [], harness := (true, "f569fb2e4214d53db6d5b2a77b50c517c833a376570fba39ad0f6d09c49e2084"), looks := true }, kinds := [], alts := [], laidByText := true, laidKinds := [.sentinel, .sentinel, .sentinel, .sentinel, .sentinel, .sentinel, .sentinel], laidTests := true, laidLooks := .later }
def FnExactSetTrimUptoCardSaid : Prop := Claim7.holds Tryz.pinned (.plain (OpenSpec.upto fnExactSetTrimSpec)) fnExactSetTrimUptoCard

/-- THE SECOND FORM's CARD OF 'laws.FnExactSnapDestroy'. -/
def fnExactSnapDestroyUptoCard : Claim7 := { stood := { row := fnExactSnapDestroyUptoRow, standIns := [], harness := (true, "f569fb2e4214d53db6d5b2a77b50c517c833a376570fba39ad0f6d09c49e2084"), looks := true }, kinds := [], alts := [], laidByText := true, laidKinds := [.sentinel, .sentinel, .sentinel, .sentinel, .sentinel, .sentinel, .sentinel], laidTests := true, laidLooks := .later }
def FnExactSnapDestroyUptoCardSaid : Prop := Claim7.holds Tryz.pinned (.plain (OpenSpec.upto fnExactSnapDestroySpec)) fnExactSnapDestroyUptoCard

/-- THE SECOND FORM's CARD OF 'laws.FnExactPromote'. -/
def fnExactPromoteUptoCard : Claim7 := { stood := { row := fnExactPromoteUptoRow, standIns := [], harness := (true, "f569fb2e4214d53db6d5b2a77b50c517c833a376570fba39ad0f6d09c49e2084"), looks := true }, kinds := [], alts := [], laidByText := true, laidKinds := [.sentinel, .sentinel, .sentinel, .sentinel, .sentinel, .sentinel, .sentinel], laidTests := true, laidLooks := .later }
def FnExactPromoteUptoCardSaid : Prop := Claim7.holds Tryz.pinned (.plain (OpenSpec.upto fnExactPromoteSpec)) fnExactPromoteUptoCard
end Rows
end Go.Proofs.YtmgeglgboadfiaaGreatDoor
