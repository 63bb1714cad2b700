/-
  DERIVED. GIVEN WITH THE SEED: THE CARDS: each row of YtihdcanckbkgfaaGreatDoorRows.lean that lists a variable, with what it lists TIED to the program's text (the seventh form; the later family's looks); each row that meets fmt, with fmt's text TOLD by the authors' own Lean function (tested against real Go, not proved from fmt's source: count such statements apart). THE CARD IS WHAT COUNTS. Prove the row's statement (the work); the ties are given (YtihdcanckbkgfaaGreatDoorTie.lean); close each card by the builder's one call (the guide's Derived/Test/ToyasCard.lean, 'card_holds'). Laid BY PROGRAM, IN A SANDBOX (cutbox-door.mjs). By AI agents, Wed Nov 11 2026. No macro, syntax, notation, axiom, sorry.
-/
import Derived.Test.YtihdcanckbkgfaaGreatDoorRows
import GoSem.ClaimSeven
namespace Go.Proofs.YtihdcanckbkgfaaGreatDoor
namespace Rows

/-- THE TIED CARD OF 'laws.FnExactSetDestroy'. -/
def fnExactSetDestroyCard : Claim7 := { stood := { row := fnExactSetDestroyRow, standIns := [], harness := (true, "d8dd80655a4a4ddccac487b334846224271da407a47d5be6e0c9d0f2be198c54"), looks := true }, kinds := [], alts := [], laidByText := true, laidKinds := [.sentinel, .sentinel, .sentinel, .sentinel, .sentinel, .sentinel, .sentinel], laidTests := true, laidLooks := .later }
def FnExactSetDestroyCardSaid : Prop := Claim7.holds Tryz.pinned (.plain (OpenSpec.ofChange fnExactSetDestroySpec)) fnExactSetDestroyCard

/-- THE TIED CARD OF 'laws.FnExactRollback'. -/
def fnExactRollbackCard : Claim7 := { stood := { row := fnExactRollbackRow, standIns := [], harness := (true, "d8dd80655a4a4ddccac487b334846224271da407a47d5be6e0c9d0f2be198c54"), looks := true }, kinds := [], alts := [], laidByText := true, laidKinds := [.sentinel, .sentinel, .sentinel, .sentinel, .sentinel, .sentinel, .sentinel], laidTests := true, laidLooks := .later }
def FnExactRollbackCardSaid : Prop := Claim7.holds Tryz.pinned (.plain (OpenSpec.ofChange fnExactRollbackSpec)) fnExactRollbackCard

/-- THE TIED CARD OF 'laws.FnExactPromote'. -/
def fnExactPromoteCard : Claim7 := { stood := { row := fnExactPromoteRow, standIns := [], harness := (true, "d8dd80655a4a4ddccac487b334846224271da407a47d5be6e0c9d0f2be198c54"), looks := true }, kinds := [], alts := [], laidByText := true, laidKinds := [.sentinel, .sentinel, .sentinel, .sentinel, .sentinel, .sentinel, .sentinel], laidTests := true, laidLooks := .later }
def FnExactPromoteCardSaid : Prop := Claim7.holds Tryz.pinned (.plain (OpenSpec.ofChange fnExactPromoteSpec)) fnExactPromoteCard

/-- THE SECOND FORM's CARD OF 'laws.FnExactSetDestroy'. -/
def fnExactSetDestroyUptoCard : Claim7 := { stood := { row := fnExactSetDestroyUptoRow, standIns := [], harness := (true, "d8dd80655a4a4ddccac487b334846224271da407a47d5be6e0c9d0f2be198c54"), looks := true }, kinds := [], alts := [], laidByText := true, laidKinds := [.sentinel, .sentinel, .sentinel, .sentinel, .sentinel, .sentinel, .sentinel], laidTests := true, laidLooks := .later }
def FnExactSetDestroyUptoCardSaid : Prop := Claim7.holds Tryz.pinned (.plain (OpenSpec.upto fnExactSetDestroySpec)) fnExactSetDestroyUptoCard

/-- THE SECOND FORM's CARD OF 'laws.FnExactRollback'. -/
def fnExactRollbackUptoCard : Claim7 := { stood := { row := fnExactRollbackUptoRow, standIns := [], harness := (true, "d8dd80655a4a4ddccac487b334846224271da407a47d5be6e0c9d0f2be198c54"), looks := true }, kinds := [], alts := [], laidByText := true, laidKinds := [.sentinel, .sentinel, .sentinel, .sentinel, .sentinel, .sentinel, .sentinel], laidTests := true, laidLooks := .later }
def FnExactRollbackUptoCardSaid : Prop := Claim7.holds Tryz.pinned (.plain (OpenSpec.upto fnExactRollbackSpec)) fnExactRollbackUptoCard

/-- THE SECOND FORM's CARD OF 'laws.FnExactPromote'. -/
def fnExactPromoteUptoCard : Claim7 := { stood := { row := fnExactPromoteUptoRow, standIns := [], harness := (true, "d8dd80655a4a4ddccac487b334846224271da407a47d5be6e0c9d0f2be198c54"), looks := true }, kinds := [], alts := [], laidByText := true, laidKinds := [.sentinel, .sentinel, .sentinel, .sentinel, .sentinel, .sentinel, .sentinel], laidTests := true, laidLooks := .later }
def FnExactPromoteUptoCardSaid : Prop := Claim7.holds Tryz.pinned (.plain (OpenSpec.upto fnExactPromoteSpec)) fnExactPromoteUptoCard
end Rows
end Go.Proofs.YtihdcanckbkgfaaGreatDoor
