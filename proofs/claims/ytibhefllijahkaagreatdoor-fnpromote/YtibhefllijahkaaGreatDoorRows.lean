/-
  NARROWER THAN 'FOR EVERY INPUT', by the rows' own cells (each row's printed sentence says how): FnPromote: ifaces, laid.
  DERIVED. THE GIVEN ROWS OF THIS SEAT. 1 by the template 'for every input the law returns true; each argument reads behind the call as it read before'; 0 by the template 'total and deterministic' (their statements: YtibhefllijahkaaGreatDoorTotals.lean).
  GIVEN WITH THE SEED: the statements are not yours to turn. If you find one false, say at which input.
  Laid BY PROGRAM, IN A SANDBOX (cutbox-rows.mjs): the forced cells as the released guide's own fill.sh prints them over the translation ff07f920a45558f2… (all of the seat's roots in one cut). By AI agents, Wed Nov 11 2026. No macro, syntax, notation, axiom, sorry.
-/
import Derived.Test.YtibhefllijahkaaGreatDoorChecked
import GoSem.Claim
import GoSem.ClaimJoined
import GoSem.ClaimMapViews
import Derived.JoinedTies
import Derived.KernelRfl
namespace Go.Proofs.YtibhefllijahkaaGreatDoor
/- THE CELL 'sum', in the pinned program and in every row, IS THE sha256 OF THE DUMP (.gsa) THAT YtibhefllijahkaaGreatDoorProg.lean LOADS. Nothing in Lean hashes anything: it is a label: what it is worth is what the hold of that sum in a sandbox is worth. -/
noncomputable def Tryz.pinned : Pinned := { name := "ytibhefllijahkaagreatdoor", sum := "ff07f920a45558f271dbf99b8cb57c35e531151b73a1854cee50190851bb65d4", checked := Tryz.checked }
namespace Rows
def none {H : Type} : Left H := { results := [], args := [] }

/- WHAT THE LISTED PACKAGE-LEVEL VARIABLES READ AS WHEN THE CALL BEGINS. Each datum BY PROGRAM (the guide's laid-datum.mjs) off the statement by which the dump's own 'gosem.cut.vars' lays the variable. In a bare row this is a premise. The card (YtibhefllijahkaaGreatDoorCards.lean) ties it to the program's text. -/
def laid_loop_example_g00381_impl_errForm {H : Type} : DataW H := .iface "*errors.errorString" (.ptr (.agg [.lit (.string [105, 116, 32, 105, 115, 32, 110, 111, 116, 32, 114, 105, 103, 104, 116])]))
def laid_loop_example_g00381_impl_errSize {H : Type} : DataW H := .iface "*errors.errorString" (.ptr (.agg [.lit (.string [105, 116, 32, 105, 115, 32, 116, 111, 111, 32, 108, 111, 110, 103])]))
def laid_loop_example_g00381_impl_errNone {H : Type} : DataW H := .iface "*errors.errorString" (.ptr (.agg [.lit (.string [116, 104, 101, 114, 101, 32, 105, 115, 32, 110, 111, 110, 101])]))
def laid_loop_example_g00381_impl_errThere {H : Type} : DataW H := .iface "*errors.errorString" (.ptr (.agg [.lit (.string [116, 104, 101, 114, 101, 32, 105, 115, 32, 111, 110, 101, 32, 97, 108, 114, 101, 97, 100, 121])]))
def laid_loop_example_g00381_impl_errFull {H : Type} : DataW H := .iface "*errors.errorString" (.ptr (.agg [.lit (.string [116, 104, 101, 114, 101, 32, 105, 115, 32, 110, 111, 32, 114, 111, 111, 109])]))
def laid_loop_example_g00381_impl_errState {H : Type} : DataW H := .iface "*errors.errorString" (.ptr (.agg [.lit (.string [105, 116, 32, 100, 111, 101, 115, 32, 110, 111, 116, 32, 115, 116, 97, 110, 100, 32, 115, 111, 32, 116, 104, 97, 116, 32, 116, 104, 105, 115, 32, 99, 97, 110, 32, 98, 101, 32, 100, 111, 110, 101])]))
def laid_loop_example_g00381_impl_errRange {H : Type} : DataW H := .iface "*errors.errorString" (.ptr (.agg [.lit (.string [105, 116, 32, 105, 115, 32, 111, 117, 116, 32, 111, 102, 32, 114, 97, 110, 103, 101])]))

/-- 'laws.FnPromote': WHATEVER THE INPUT: true; the input reads as it did. -/
def fnPromoteSpec : ChangeSpec := { name := "fnPromote", vars := ["loop.example/g00381/impl.errNone", "loop.example/g00381/impl.errState", "loop.example/g00381/impl.errThere", "loop.example/g00381/impl.errSize", "loop.example/g00381/impl.errForm", "loop.example/g00381/impl.errFull", "loop.example/g00381/impl.errRange"], fn := fun _ => fun
  | [d1, d2, g1, g2, g3, g4, g5, g6, g7] => { results := [.lit (.bool true)], args := [d1, d2], vars := [g1, g2, g3, g4, g5, g6, g7] }
  | _ => none }
def fnPromoteRow : OpenClaim := { program := "ytibhefllijahkaagreatdoor", sum := "ff07f920a45558f271dbf99b8cb57c35e531151b73a1854cee50190851bb65d4", func := "loop.example/g00381/laws.FnPromote", spec := "fnPromote", inPlace := ["internal/reflectlite.TypeOf", "internal/bytealg.abigen_runtime_cmpstring"], unfollowed := true, recurses := true, named := ["loop.example/g00381/impl.errNone", "loop.example/g00381/impl.errState", "loop.example/g00381/impl.errThere", "loop.example/g00381/impl.errSize", "loop.example/g00381/impl.errForm", "loop.example/g00381/impl.errFull", "loop.example/g00381/impl.errRange"], ifaces := true, plainKeys := false, apart := false, laid := [("loop.example/g00381/impl.errForm", laid_loop_example_g00381_impl_errForm), ("loop.example/g00381/impl.errSize", laid_loop_example_g00381_impl_errSize), ("loop.example/g00381/impl.errNone", laid_loop_example_g00381_impl_errNone), ("loop.example/g00381/impl.errThere", laid_loop_example_g00381_impl_errThere), ("loop.example/g00381/impl.errFull", laid_loop_example_g00381_impl_errFull), ("loop.example/g00381/impl.errState", laid_loop_example_g00381_impl_errState), ("loop.example/g00381/impl.errRange", laid_loop_example_g00381_impl_errRange)] }
def FnPromoteSaid : Prop := fnPromoteRow.holds Tryz.pinned (OpenSpec.ofChange fnPromoteSpec)

/-- ITS FALSE NEIGHBOUR: 'it returns false'. Refute it at one input. -/
def fnPromoteWrong : ChangeSpec := { name := "fnPromote", vars := ["loop.example/g00381/impl.errNone", "loop.example/g00381/impl.errState", "loop.example/g00381/impl.errThere", "loop.example/g00381/impl.errSize", "loop.example/g00381/impl.errForm", "loop.example/g00381/impl.errFull", "loop.example/g00381/impl.errRange"], fn := fun _ => fun
  | [d1, d2, g1, g2, g3, g4, g5, g6, g7] => { results := [.lit (.bool false)], args := [d1, d2], vars := [g1, g2, g3, g4, g5, g6, g7] }
  | _ => none }
def FnPromoteWrongFalsely : Prop := fnPromoteRow.holds Tryz.pinned (OpenSpec.ofChange fnPromoteWrong)

/- THE SECOND FORM. 'bulk': how many values and letters a reading holds, each counted each time it is reached (what is shared counts as often as it is met; a slice's spare places count too). A statement '..UptoSaid' is the law's where the arguments, and the package variables that the reading takes, are together of bulk at most 1048576: NARROWER than '..Said'. Prove '..Said' where nothing that the law and all that it calls make is longer than what came in: it says more and counts as full. Else prove '..UptoSaid'. A law counts once. -/
mutual
def uptoBulk {H : Type} : DataW H → Nat
  | .lit (.string bytes) => bytes.length + 1
  | .lit _ => 1
  | .nil => 1
  | .ptr d => uptoBulk d + 1
  | .slice elems spare => uptoBulkAll elems + uptoBulkAll spare + 1
  | .agg parts => uptoBulkAll parts + 1
  | .iface _ d => uptoBulk d + 1
  | .map entries => uptoBulkEntries entries + 1
  | .held _ => 1
def uptoBulkAll {H : Type} : List (DataW H) → Nat
  | [] => 0
  | d :: r => uptoBulk d + uptoBulkAll r
def uptoBulkEntries {H : Type} : List (Lit × DataW H) → Nat
  | [] => 0
  | x :: r => uptoBulkEntry x + uptoBulkEntries r
def uptoBulkEntry {H : Type} : Lit × DataW H → Nat
  | (.string bytes, d) => bytes.length + uptoBulk d + 1
  | (_, d) => uptoBulk d + 1
 end
def uptoSmall : (H : Type) → List (DataW H) → Bool := fun _ ds => decide (uptoBulkAll ds ≤ 1048576)
def OpenSpec.upto (s : _root_.Go.ChangeSpec) : _root_.Go.OpenSpec := { _root_.Go.OpenSpec.ofChange s with cond := some uptoSmall }

/-- 'laws.FnPromote', WHERE WHAT IT READS IS OF BULK AT MOST 1048576: true; the input reads as it did. -/
def fnPromoteUptoRow : OpenClaim := { program := "ytibhefllijahkaagreatdoor", sum := "ff07f920a45558f271dbf99b8cb57c35e531151b73a1854cee50190851bb65d4", func := "loop.example/g00381/laws.FnPromote", spec := "fnPromote", inPlace := ["internal/reflectlite.TypeOf", "internal/bytealg.abigen_runtime_cmpstring"], unfollowed := true, recurses := true, named := ["loop.example/g00381/impl.errNone", "loop.example/g00381/impl.errState", "loop.example/g00381/impl.errThere", "loop.example/g00381/impl.errSize", "loop.example/g00381/impl.errForm", "loop.example/g00381/impl.errFull", "loop.example/g00381/impl.errRange"], ifaces := true, plainKeys := false, apart := false, laid := [("loop.example/g00381/impl.errForm", laid_loop_example_g00381_impl_errForm), ("loop.example/g00381/impl.errSize", laid_loop_example_g00381_impl_errSize), ("loop.example/g00381/impl.errNone", laid_loop_example_g00381_impl_errNone), ("loop.example/g00381/impl.errThere", laid_loop_example_g00381_impl_errThere), ("loop.example/g00381/impl.errFull", laid_loop_example_g00381_impl_errFull), ("loop.example/g00381/impl.errState", laid_loop_example_g00381_impl_errState), ("loop.example/g00381/impl.errRange", laid_loop_example_g00381_impl_errRange)], narrowed := true }
def FnPromoteUptoSaid : Prop := fnPromoteUptoRow.holds Tryz.pinned (OpenSpec.upto fnPromoteSpec)

end Rows
end Go.Proofs.YtibhefllijahkaaGreatDoor
