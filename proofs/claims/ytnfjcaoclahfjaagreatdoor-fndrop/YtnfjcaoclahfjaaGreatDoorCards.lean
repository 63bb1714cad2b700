/-
  DERIVED. GIVEN WITH THE SEED: THE CARDS: each row of YtnfjcaoclahfjaaGreatDoorRows.lean that lists a variable, with what it lists TIED to the program's text (the seventh form; the later family's looks); each row that meets fmt, with fmt's text TOLD by the authors' own Lean function (tested against real Go, not proved from fmt's source: count such statements apart). THE CARD IS WHAT COUNTS. Prove the row's statement (the work); the ties are given (YtnfjcaoclahfjaaGreatDoorTie.lean); close each card by the builder's one call (the guide's Derived/Test/ToyasCard.lean, 'card_holds'). Laid BY PROGRAM, IN A SANDBOX (cutbox-door.mjs). By AI agents, Wed Nov 11 2026. No macro, syntax, notation, axiom, sorry.
-/
import Derived.Test.YtnfjcaoclahfjaaGreatDoorRows
import GoSem.ClaimSeven
namespace Go.Proofs.YtnfjcaoclahfjaaGreatDoor
namespace Rows

/-- THE TIED CARD OF 'laws.FnDrop'. -/
def fnDropCard : Claim7 := { stood := { row := fnDropRow, standIns := [], harness := (true, "aea2d390cc315872e4b58fff9249843fb4ccf295205dd61a221e72941c45fd63"), looks := true }, kinds := [], alts := [], laidByText := true, laidKinds := [.sentinel, .sentinel, .sentinel, .sentinel, .sentinel, .sentinel, .sentinel], laidTests := true, laidLooks := .later }
def FnDropCardSaid : Prop := Claim7.holds Tryz.pinned (.plain (OpenSpec.ofChange fnDropSpec)) fnDropCard

/-- THE SECOND FORM's CARD OF 'laws.FnDrop'. -/
def fnDropUptoCard : Claim7 := { stood := { row := fnDropUptoRow, standIns := [], harness := (true, "aea2d390cc315872e4b58fff9249843fb4ccf295205dd61a221e72941c45fd63"), looks := true }, kinds := [], alts := [], laidByText := true, laidKinds := [.sentinel, .sentinel, .sentinel, .sentinel, .sentinel, .sentinel, .sentinel], laidTests := true, laidLooks := .later }
def FnDropUptoCardSaid : Prop := Claim7.holds Tryz.pinned (.plain (OpenSpec.upto fnDropSpec)) fnDropUptoCard
end Rows
end Go.Proofs.YtnfjcaoclahfjaaGreatDoor
