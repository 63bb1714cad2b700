/-
  DERIVED. GIVEN WITH THE SEED: THE CARDS: each row of YtibhefllijahkaaGreatDoorRows.lean that lists a variable, with what it lists TIED to the program's text (the seventh form; the later family's looks); each row that meets fmt, with fmt's text TOLD by the authors' own Lean function (tested against real Go, not proved from fmt's source: count such statements apart). THE CARD IS WHAT COUNTS. Prove the row's statement (the work); the ties are given (YtibhefllijahkaaGreatDoorTie.lean); close each card by the builder's one call (the guide's Derived/Test/ToyasCard.lean, 'card_holds'). Laid BY PROGRAM, IN A SANDBOX (cutbox-door.mjs). By AI agents, Wed Nov 11 2026. No macro, syntax, notation, axiom, sorry.
-/
import Derived.Test.YtibhefllijahkaaGreatDoorRows
import GoSem.ClaimSeven
namespace Go.Proofs.YtibhefllijahkaaGreatDoor
namespace Rows

/-- THE TIED CARD OF 'laws.FnPromote'. -/
def fnPromoteCard : Claim7 := { stood := { row := fnPromoteRow, standIns := [], harness := (true, "abe736ad26cd979f7c8224b840692f5a787ef2878c7958d75b7da966b7104a94"), looks := true }, kinds := [], alts := [], laidByText := true, laidKinds := [.sentinel, .sentinel, .sentinel, .sentinel, .sentinel, .sentinel, .sentinel], laidTests := true, laidLooks := .later }
def FnPromoteCardSaid : Prop := Claim7.holds Tryz.pinned (.plain (OpenSpec.ofChange fnPromoteSpec)) fnPromoteCard

/-- THE SECOND FORM's CARD OF 'laws.FnPromote'. -/
def fnPromoteUptoCard : Claim7 := { stood := { row := fnPromoteUptoRow, standIns := [], harness := (true, "abe736ad26cd979f7c8224b840692f5a787ef2878c7958d75b7da966b7104a94"), looks := true }, kinds := [], alts := [], laidByText := true, laidKinds := [.sentinel, .sentinel, .sentinel, .sentinel, .sentinel, .sentinel, .sentinel], laidTests := true, laidLooks := .later }
def FnPromoteUptoCardSaid : Prop := Claim7.holds Tryz.pinned (.plain (OpenSpec.upto fnPromoteSpec)) fnPromoteUptoCard
end Rows
end Go.Proofs.YtibhefllijahkaaGreatDoor
