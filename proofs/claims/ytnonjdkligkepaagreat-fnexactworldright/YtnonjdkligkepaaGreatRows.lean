/-
  No cell of these rows narrows 'for every input' (looked for: loops, veiled, ifaces, maps, wideKeys, modest, calm, conditions, laid).
  DERIVED. THE GIVEN ROWS OF THIS SEAT. 4 by the template 'for every input the law returns true; each argument reads behind the call as it read before'; 0 by the template 'total and deterministic' (their statements: YtnonjdkligkepaaGreatTotals.lean).
  GIVEN WITH THE SEED: the statements are not yours to turn. If you find one false, say at which input.
  Laid BY PROGRAM, IN A SANDBOX (cutbox-rows.mjs): the forced cells as the released guide's own fill.sh prints them over the translation 6f7fdf1d13cea4ba… (all of the seat's roots in one cut). By AI agents, Wed Nov 11 2026. No macro, syntax, notation, axiom, sorry.
-/
import Derived.Test.YtnonjdkligkepaaGreatChecked
import GoSem.Claim
import GoSem.ClaimJoined
import GoSem.ClaimMapViews
import Derived.JoinedTies
import Derived.KernelRfl
namespace Go.Proofs.YtnonjdkligkepaaGreat
/- THE CELL 'sum', in the pinned program and in every row, IS THE sha256 OF THE DUMP (.gsa) THAT YtnonjdkligkepaaGreatProg.lean LOADS. Nothing in Lean hashes anything: it is a label: what it is worth is what the hold of that sum in a sandbox is worth. -/
noncomputable def Tryz.pinned : Pinned := { name := "ytnonjdkligkepaagreat", sum := "6f7fdf1d13cea4ba341e1507369c28427038b21e8595a9959809b2e4b427bae9", checked := Tryz.checked }
namespace Rows
def none {H : Type} : Left H := { results := [], args := [] }

/-- 'laws.FnExactWorldRight': WHATEVER THE INPUT: true; the input reads as it did. -/
def fnExactWorldRightSpec : ChangeSpec := { name := "fnExactWorldRight", fn := fun _ => fun
  | [d] => { results := [.lit (.bool true)], args := [d] }
  | _ => none }
def fnExactWorldRightRow : OpenClaim := { program := "ytnonjdkligkepaagreat", sum := "6f7fdf1d13cea4ba341e1507369c28427038b21e8595a9959809b2e4b427bae9", func := "loop.example/g00381/laws.FnExactWorldRight", spec := "fnExactWorldRight", unfollowed := true, recurses := true, plainKeys := false, apart := false }
def FnExactWorldRightSaid : Prop := fnExactWorldRightRow.holds Tryz.pinned (OpenSpec.ofChange fnExactWorldRightSpec)

/-- ITS FALSE NEIGHBOUR: 'it returns false'. Refute it at one input. -/
def fnExactWorldRightWrong : ChangeSpec := { name := "fnExactWorldRight", fn := fun _ => fun
  | [d] => { results := [.lit (.bool false)], args := [d] }
  | _ => none }
def FnExactWorldRightWrongFalsely : Prop := fnExactWorldRightRow.holds Tryz.pinned (OpenSpec.ofChange fnExactWorldRightWrong)

/-- 'laws.FnExactSnapOf': WHATEVER THE INPUT: true; the input reads as it did. -/
def fnExactSnapOfSpec : ChangeSpec := { name := "fnExactSnapOf", fn := fun _ => fun
  | [d1, d2] => { results := [.lit (.bool true)], args := [d1, d2] }
  | _ => none }
def fnExactSnapOfRow : OpenClaim := { program := "ytnonjdkligkepaagreat", sum := "6f7fdf1d13cea4ba341e1507369c28427038b21e8595a9959809b2e4b427bae9", func := "loop.example/g00381/laws.FnExactSnapOf", spec := "fnExactSnapOf", unfollowed := true, recurses := true, plainKeys := false, apart := false }
def FnExactSnapOfSaid : Prop := fnExactSnapOfRow.holds Tryz.pinned (OpenSpec.ofChange fnExactSnapOfSpec)

/-- ITS FALSE NEIGHBOUR: 'it returns false'. Refute it at one input. -/
def fnExactSnapOfWrong : ChangeSpec := { name := "fnExactSnapOf", fn := fun _ => fun
  | [d1, d2] => { results := [.lit (.bool false)], args := [d1, d2] }
  | _ => none }
def FnExactSnapOfWrongFalsely : Prop := fnExactSnapOfRow.holds Tryz.pinned (OpenSpec.ofChange fnExactSnapOfWrong)

/-- 'laws.FnExactSetOf': WHATEVER THE INPUT: true; the input reads as it did. -/
def fnExactSetOfSpec : ChangeSpec := { name := "fnExactSetOf", fn := fun _ => fun
  | [d1, d2] => { results := [.lit (.bool true)], args := [d1, d2] }
  | _ => none }
def fnExactSetOfRow : OpenClaim := { program := "ytnonjdkligkepaagreat", sum := "6f7fdf1d13cea4ba341e1507369c28427038b21e8595a9959809b2e4b427bae9", func := "loop.example/g00381/laws.FnExactSetOf", spec := "fnExactSetOf", unfollowed := true, recurses := true, plainKeys := false, apart := false }
def FnExactSetOfSaid : Prop := fnExactSetOfRow.holds Tryz.pinned (OpenSpec.ofChange fnExactSetOfSpec)

/-- ITS FALSE NEIGHBOUR: 'it returns false'. Refute it at one input. -/
def fnExactSetOfWrong : ChangeSpec := { name := "fnExactSetOf", fn := fun _ => fun
  | [d1, d2] => { results := [.lit (.bool false)], args := [d1, d2] }
  | _ => none }
def FnExactSetOfWrongFalsely : Prop := fnExactSetOfRow.holds Tryz.pinned (OpenSpec.ofChange fnExactSetOfWrong)

/-- 'laws.FnExactNextsOf': WHATEVER THE INPUT: true; the input reads as it did. -/
def fnExactNextsOfSpec : ChangeSpec := { name := "fnExactNextsOf", fn := fun _ => fun
  | [d1, d2] => { results := [.lit (.bool true)], args := [d1, d2] }
  | _ => none }
def fnExactNextsOfRow : OpenClaim := { program := "ytnonjdkligkepaagreat", sum := "6f7fdf1d13cea4ba341e1507369c28427038b21e8595a9959809b2e4b427bae9", func := "loop.example/g00381/laws.FnExactNextsOf", spec := "fnExactNextsOf", unfollowed := true, recurses := true, plainKeys := false, apart := false }
def FnExactNextsOfSaid : Prop := fnExactNextsOfRow.holds Tryz.pinned (OpenSpec.ofChange fnExactNextsOfSpec)

/-- ITS FALSE NEIGHBOUR: 'it returns false'. Refute it at one input. -/
def fnExactNextsOfWrong : ChangeSpec := { name := "fnExactNextsOf", fn := fun _ => fun
  | [d1, d2] => { results := [.lit (.bool false)], args := [d1, d2] }
  | _ => none }
def FnExactNextsOfWrongFalsely : Prop := fnExactNextsOfRow.holds Tryz.pinned (OpenSpec.ofChange fnExactNextsOfWrong)

/- THE SECOND FORM. 'bulk': how many values and letters a reading holds, each counted each time it is reached (what is shared counts as often as it is met; a slice's spare places count too). A statement '..UptoSaid' is the law's where the arguments, and the package variables that the reading takes, are together of bulk at most 1048576: NARROWER than '..Said'. Prove '..Said' where nothing that the law and all that it calls make is longer than what came in: it says more and counts as full. Else prove '..UptoSaid'. A law counts once. -/
mutual
def uptoBulk {H : Type} : DataW H → Nat
  | .lit (.string bytes) => bytes.length + 1
  | .lit _ => 1
  | .nil => 1
  | .ptr d => uptoBulk d + 1
  | .slice elems spare => uptoBulkAll elems + uptoBulkAll spare + 1
  | .agg parts => uptoBulkAll parts + 1
  | .iface _ d => uptoBulk d + 1
  | .map entries => uptoBulkEntries entries + 1
  | .held _ => 1
def uptoBulkAll {H : Type} : List (DataW H) → Nat
  | [] => 0
  | d :: r => uptoBulk d + uptoBulkAll r
def uptoBulkEntries {H : Type} : List (Lit × DataW H) → Nat
  | [] => 0
  | x :: r => uptoBulkEntry x + uptoBulkEntries r
def uptoBulkEntry {H : Type} : Lit × DataW H → Nat
  | (.string bytes, d) => bytes.length + uptoBulk d + 1
  | (_, d) => uptoBulk d + 1
 end
def uptoSmall : (H : Type) → List (DataW H) → Bool := fun _ ds => decide (uptoBulkAll ds ≤ 1048576)
def OpenSpec.upto (s : _root_.Go.ChangeSpec) : _root_.Go.OpenSpec := { _root_.Go.OpenSpec.ofChange s with cond := some uptoSmall }

/-- 'laws.FnExactWorldRight', WHERE WHAT IT READS IS OF BULK AT MOST 1048576: true; the input reads as it did. -/
def fnExactWorldRightUptoRow : OpenClaim := { program := "ytnonjdkligkepaagreat", sum := "6f7fdf1d13cea4ba341e1507369c28427038b21e8595a9959809b2e4b427bae9", func := "loop.example/g00381/laws.FnExactWorldRight", spec := "fnExactWorldRight", unfollowed := true, recurses := true, plainKeys := false, apart := false, narrowed := true }
def FnExactWorldRightUptoSaid : Prop := fnExactWorldRightUptoRow.holds Tryz.pinned (OpenSpec.upto fnExactWorldRightSpec)

/-- 'laws.FnExactSnapOf', WHERE WHAT IT READS IS OF BULK AT MOST 1048576: true; the input reads as it did. -/
def fnExactSnapOfUptoRow : OpenClaim := { program := "ytnonjdkligkepaagreat", sum := "6f7fdf1d13cea4ba341e1507369c28427038b21e8595a9959809b2e4b427bae9", func := "loop.example/g00381/laws.FnExactSnapOf", spec := "fnExactSnapOf", unfollowed := true, recurses := true, plainKeys := false, apart := false, narrowed := true }
def FnExactSnapOfUptoSaid : Prop := fnExactSnapOfUptoRow.holds Tryz.pinned (OpenSpec.upto fnExactSnapOfSpec)

/-- 'laws.FnExactSetOf', WHERE WHAT IT READS IS OF BULK AT MOST 1048576: true; the input reads as it did. -/
def fnExactSetOfUptoRow : OpenClaim := { program := "ytnonjdkligkepaagreat", sum := "6f7fdf1d13cea4ba341e1507369c28427038b21e8595a9959809b2e4b427bae9", func := "loop.example/g00381/laws.FnExactSetOf", spec := "fnExactSetOf", unfollowed := true, recurses := true, plainKeys := false, apart := false, narrowed := true }
def FnExactSetOfUptoSaid : Prop := fnExactSetOfUptoRow.holds Tryz.pinned (OpenSpec.upto fnExactSetOfSpec)

/-- 'laws.FnExactNextsOf', WHERE WHAT IT READS IS OF BULK AT MOST 1048576: true; the input reads as it did. -/
def fnExactNextsOfUptoRow : OpenClaim := { program := "ytnonjdkligkepaagreat", sum := "6f7fdf1d13cea4ba341e1507369c28427038b21e8595a9959809b2e4b427bae9", func := "loop.example/g00381/laws.FnExactNextsOf", spec := "fnExactNextsOf", unfollowed := true, recurses := true, plainKeys := false, apart := false, narrowed := true }
def FnExactNextsOfUptoSaid : Prop := fnExactNextsOfUptoRow.holds Tryz.pinned (OpenSpec.upto fnExactNextsOfSpec)

end Rows
end Go.Proofs.YtnonjdkligkepaaGreat
