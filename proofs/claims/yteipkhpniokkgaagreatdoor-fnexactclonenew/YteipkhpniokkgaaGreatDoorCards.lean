/-
  DERIVED. GIVEN WITH THE SEED: THE CARDS: each row of YteipkhpniokkgaaGreatDoorRows.lean that lists a variable, with what it lists TIED to the program's text (the seventh form; the later family's looks); each row that meets fmt, with fmt's text TOLD by the authors' own Lean function (tested against real Go, not proved from fmt's source: count such statements apart). THE CARD IS WHAT COUNTS. Prove the row's statement (the work); the ties are given (YteipkhpniokkgaaGreatDoorTie.lean); close each card by the builder's one call (the guide's Derived/Test/ToyasCard.lean, 'card_holds'). Laid BY PROGRAM, IN A SANDBOX (cutbox-door.mjs). By AI agents, Wed Nov 11 2026. No macro, syntax, notation, axiom, sorry.
-/
import Derived.Test.YteipkhpniokkgaaGreatDoorRows
import GoSem.ClaimSeven
namespace Go.Proofs.YteipkhpniokkgaaGreatDoor
namespace Rows

/-- THE TIED CARD OF 'laws.FnExactSetNew'. -/
def fnExactSetNewCard : Claim7 := { stood := { row := fnExactSetNewRow, standIns := [], harness := (true, "db65f66f2997f0a93f277ea827358985fe0f1007ae32ce4495ac28fd5777b46d"), looks := true }, kinds := [], alts := [], laidByText := true, laidKinds := [.sentinel, .sentinel, .sentinel, .sentinel, .sentinel, .sentinel, .sentinel], laidTests := true, laidLooks := .later }
def FnExactSetNewCardSaid : Prop := Claim7.holds Tryz.pinned (.plain (OpenSpec.ofChange fnExactSetNewSpec)) fnExactSetNewCard

/-- THE TIED CARD OF 'laws.FnExactSnapNew'. -/
def fnExactSnapNewCard : Claim7 := { stood := { row := fnExactSnapNewRow, standIns := [], harness := (true, "db65f66f2997f0a93f277ea827358985fe0f1007ae32ce4495ac28fd5777b46d"), looks := true }, kinds := [], alts := [], laidByText := true, laidKinds := [.sentinel, .sentinel, .sentinel, .sentinel, .sentinel, .sentinel, .sentinel], laidTests := true, laidLooks := .later }
def FnExactSnapNewCardSaid : Prop := Claim7.holds Tryz.pinned (.plain (OpenSpec.ofChange fnExactSnapNewSpec)) fnExactSnapNewCard

/-- THE TIED CARD OF 'laws.FnExactCloneNew'. -/
def fnExactCloneNewCard : Claim7 := { stood := { row := fnExactCloneNewRow, standIns := [], harness := (true, "db65f66f2997f0a93f277ea827358985fe0f1007ae32ce4495ac28fd5777b46d"), looks := true }, kinds := [], alts := [], laidByText := true, laidKinds := [.sentinel, .sentinel, .sentinel, .sentinel, .sentinel, .sentinel, .sentinel], laidTests := true, laidLooks := .later }
def FnExactCloneNewCardSaid : Prop := Claim7.holds Tryz.pinned (.plain (OpenSpec.ofChange fnExactCloneNewSpec)) fnExactCloneNewCard

/-- THE SECOND FORM's CARD OF 'laws.FnExactSetNew'. -/
def fnExactSetNewUptoCard : Claim7 := { stood := { row := fnExactSetNewUptoRow, standIns := [], harness := (true, "db65f66f2997f0a93f277ea827358985fe0f1007ae32ce4495ac28fd5777b46d"), looks := true }, kinds := [], alts := [], laidByText := true, laidKinds := [.sentinel, .sentinel, .sentinel, .sentinel, .sentinel, .sentinel, .sentinel], laidTests := true, laidLooks := .later }
def FnExactSetNewUptoCardSaid : Prop := Claim7.holds Tryz.pinned (.plain (OpenSpec.upto fnExactSetNewSpec)) fnExactSetNewUptoCard

/-- THE SECOND FORM's CARD OF 'laws.FnExactSnapNew'. -/
def fnExactSnapNewUptoCard : Claim7 := { stood := { row := fnExactSnapNewUptoRow, standIns := [], harness := (true, "db65f66f2997f0a93f277ea827358985fe0f1007ae32ce4495ac28fd5777b46d"), looks := true }, kinds := [], alts := [], laidByText := true, laidKinds := [.sentinel, .sentinel, .sentinel, .sentinel, .sentinel, .sentinel, .sentinel], laidTests := true, laidLooks := .later }
def FnExactSnapNewUptoCardSaid : Prop := Claim7.holds Tryz.pinned (.plain (OpenSpec.upto fnExactSnapNewSpec)) fnExactSnapNewUptoCard

/-- THE SECOND FORM's CARD OF 'laws.FnExactCloneNew'. -/
def fnExactCloneNewUptoCard : Claim7 := { stood := { row := fnExactCloneNewUptoRow, standIns := [], harness := (true, "db65f66f2997f0a93f277ea827358985fe0f1007ae32ce4495ac28fd5777b46d"), looks := true }, kinds := [], alts := [], laidByText := true, laidKinds := [.sentinel, .sentinel, .sentinel, .sentinel, .sentinel, .sentinel, .sentinel], laidTests := true, laidLooks := .later }
def FnExactCloneNewUptoCardSaid : Prop := Claim7.holds Tryz.pinned (.plain (OpenSpec.upto fnExactCloneNewSpec)) fnExactCloneNewUptoCard
end Rows
end Go.Proofs.YteipkhpniokkgaaGreatDoor
