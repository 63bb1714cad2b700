/-
  No cell of these rows narrows 'for every input' (looked for: loops, veiled, ifaces, maps, wideKeys, modest, calm, conditions, laid).
  DERIVED. THE GIVEN ROWS OF THIS SEAT. 4 by the template 'for every input the law returns true; each argument reads behind the call as it read before'; 0 by the template 'total and deterministic' (their statements: YteffacfdbhdppacTotals.lean).
  GIVEN WITH THE SEED: the statements are not yours to turn. If you find one false, say at which input.
  Laid BY PROGRAM, IN A SANDBOX (cutbox-rows.mjs): the forced cells as the released guide's own fill.sh prints them over the translation 20261dc04e67cf1b… (all of the seat's roots in one cut). By AI agents, Wed Nov 11 2026. No macro, syntax, notation, axiom, sorry.
-/
import Derived.Test.YteffacfdbhdppacChecked
import GoSem.Claim
import GoSem.ClaimJoined
import GoSem.ClaimMapViews
import Derived.JoinedTies
import Derived.KernelRfl
namespace Go.Proofs.Yteffacfdbhdppac
/- THE CELL 'sum', in the pinned program and in every row, IS THE sha256 OF THE DUMP (.gsa) THAT YteffacfdbhdppacProg.lean LOADS. Nothing in Lean hashes anything: it is a label: what it is worth is what the hold of that sum in a sandbox is worth. -/
noncomputable def Try.pinned : Pinned := { name := "yteffacfdbhdppac", sum := "20261dc04e67cf1b5f2c3929d7181a792b56dbd8e3ea416c894d3e02b3ec676b", checked := Try.checked }
namespace Rows
def none {H : Type} : Left H := { results := [], args := [] }

/-- 'laws.FnExactNameRight': WHATEVER THE INPUT: true; the input reads as it did. -/
def fnExactNameRightSpec : ChangeSpec := { name := "fnExactNameRight", fn := fun _ => fun
  | [d] => { results := [.lit (.bool true)], args := [d] }
  | _ => none }
def fnExactNameRightRow : OpenClaim := { program := "yteffacfdbhdppac", sum := "20261dc04e67cf1b5f2c3929d7181a792b56dbd8e3ea416c894d3e02b3ec676b", func := "loop.example/g00381/laws.FnExactNameRight", spec := "fnExactNameRight", apart := false }
def FnExactNameRightSaid : Prop := fnExactNameRightRow.holds Try.pinned (OpenSpec.ofChange fnExactNameRightSpec)

/-- ITS FALSE NEIGHBOUR: 'it returns false'. Refute it at one input. -/
def fnExactNameRightWrong : ChangeSpec := { name := "fnExactNameRight", fn := fun _ => fun
  | [d] => { results := [.lit (.bool false)], args := [d] }
  | _ => none }
def FnExactNameRightWrongFalsely : Prop := fnExactNameRightRow.holds Try.pinned (OpenSpec.ofChange fnExactNameRightWrong)

/-- 'laws.FnExactPoolNew': WHATEVER THE INPUT: true; the input reads as it did. -/
def fnExactPoolNewSpec : ChangeSpec := { name := "fnExactPoolNew", fn := fun _ => fun
  | [d] => { results := [.lit (.bool true)], args := [d] }
  | _ => none }
def fnExactPoolNewRow : OpenClaim := { program := "yteffacfdbhdppac", sum := "20261dc04e67cf1b5f2c3929d7181a792b56dbd8e3ea416c894d3e02b3ec676b", func := "loop.example/g00381/laws.FnExactPoolNew", spec := "fnExactPoolNew", apart := false }
def FnExactPoolNewSaid : Prop := fnExactPoolNewRow.holds Try.pinned (OpenSpec.ofChange fnExactPoolNewSpec)

/-- ITS FALSE NEIGHBOUR: 'it returns false'. Refute it at one input. -/
def fnExactPoolNewWrong : ChangeSpec := { name := "fnExactPoolNew", fn := fun _ => fun
  | [d] => { results := [.lit (.bool false)], args := [d] }
  | _ => none }
def FnExactPoolNewWrongFalsely : Prop := fnExactPoolNewRow.holds Try.pinned (OpenSpec.ofChange fnExactPoolNewWrong)

/-- 'laws.FnExactPoolRight': WHATEVER THE INPUT: true; the input reads as it did. -/
def fnExactPoolRightSpec : ChangeSpec := { name := "fnExactPoolRight", fn := fun _ => fun
  | [d] => { results := [.lit (.bool true)], args := [d] }
  | _ => none }
def fnExactPoolRightRow : OpenClaim := { program := "yteffacfdbhdppac", sum := "20261dc04e67cf1b5f2c3929d7181a792b56dbd8e3ea416c894d3e02b3ec676b", func := "loop.example/g00381/laws.FnExactPoolRight", spec := "fnExactPoolRight", apart := false }
def FnExactPoolRightSaid : Prop := fnExactPoolRightRow.holds Try.pinned (OpenSpec.ofChange fnExactPoolRightSpec)

/-- ITS FALSE NEIGHBOUR: 'it returns false'. Refute it at one input. -/
def fnExactPoolRightWrong : ChangeSpec := { name := "fnExactPoolRight", fn := fun _ => fun
  | [d] => { results := [.lit (.bool false)], args := [d] }
  | _ => none }
def FnExactPoolRightWrongFalsely : Prop := fnExactPoolRightRow.holds Try.pinned (OpenSpec.ofChange fnExactPoolRightWrong)

/-- 'laws.FnExactPoolAt': WHATEVER THE INPUT: true; the input reads as it did. -/
def fnExactPoolAtSpec : ChangeSpec := { name := "fnExactPoolAt", fn := fun _ => fun
  | [d1, d2] => { results := [.lit (.bool true)], args := [d1, d2] }
  | _ => none }
def fnExactPoolAtRow : OpenClaim := { program := "yteffacfdbhdppac", sum := "20261dc04e67cf1b5f2c3929d7181a792b56dbd8e3ea416c894d3e02b3ec676b", func := "loop.example/g00381/laws.FnExactPoolAt", spec := "fnExactPoolAt", apart := false }
def FnExactPoolAtSaid : Prop := fnExactPoolAtRow.holds Try.pinned (OpenSpec.ofChange fnExactPoolAtSpec)

/-- ITS FALSE NEIGHBOUR: 'it returns false'. Refute it at one input. -/
def fnExactPoolAtWrong : ChangeSpec := { name := "fnExactPoolAt", fn := fun _ => fun
  | [d1, d2] => { results := [.lit (.bool false)], args := [d1, d2] }
  | _ => none }
def FnExactPoolAtWrongFalsely : Prop := fnExactPoolAtRow.holds Try.pinned (OpenSpec.ofChange fnExactPoolAtWrong)

/- THE SECOND FORM. 'bulk': how many values and letters a reading holds, each counted each time it is reached (what is shared counts as often as it is met; a slice's spare places count too). A statement '..UptoSaid' is the law's where the arguments, and the package variables that the reading takes, are together of bulk at most 1048576: NARROWER than '..Said'. Prove '..Said' where nothing that the law and all that it calls make is longer than what came in: it says more and counts as full. Else prove '..UptoSaid'. A law counts once. -/
mutual
def uptoBulk {H : Type} : DataW H → Nat
  | .lit (.string bytes) => bytes.length + 1
  | .lit _ => 1
  | .nil => 1
  | .ptr d => uptoBulk d + 1
  | .slice elems spare => uptoBulkAll elems + uptoBulkAll spare + 1
  | .agg parts => uptoBulkAll parts + 1
  | .iface _ d => uptoBulk d + 1
  | .map entries => uptoBulkEntries entries + 1
  | .held _ => 1
def uptoBulkAll {H : Type} : List (DataW H) → Nat
  | [] => 0
  | d :: r => uptoBulk d + uptoBulkAll r
def uptoBulkEntries {H : Type} : List (Lit × DataW H) → Nat
  | [] => 0
  | x :: r => uptoBulkEntry x + uptoBulkEntries r
def uptoBulkEntry {H : Type} : Lit × DataW H → Nat
  | (.string bytes, d) => bytes.length + uptoBulk d + 1
  | (_, d) => uptoBulk d + 1
 end
def uptoSmall : (H : Type) → List (DataW H) → Bool := fun _ ds => decide (uptoBulkAll ds ≤ 1048576)
def OpenSpec.upto (s : _root_.Go.ChangeSpec) : _root_.Go.OpenSpec := { _root_.Go.OpenSpec.ofChange s with cond := some uptoSmall }

/-- 'laws.FnExactNameRight', WHERE WHAT IT READS IS OF BULK AT MOST 1048576: true; the input reads as it did. -/
def fnExactNameRightUptoRow : OpenClaim := { program := "yteffacfdbhdppac", sum := "20261dc04e67cf1b5f2c3929d7181a792b56dbd8e3ea416c894d3e02b3ec676b", func := "loop.example/g00381/laws.FnExactNameRight", spec := "fnExactNameRight", apart := false, narrowed := true }
def FnExactNameRightUptoSaid : Prop := fnExactNameRightUptoRow.holds Try.pinned (OpenSpec.upto fnExactNameRightSpec)

/-- 'laws.FnExactPoolNew', WHERE WHAT IT READS IS OF BULK AT MOST 1048576: true; the input reads as it did. -/
def fnExactPoolNewUptoRow : OpenClaim := { program := "yteffacfdbhdppac", sum := "20261dc04e67cf1b5f2c3929d7181a792b56dbd8e3ea416c894d3e02b3ec676b", func := "loop.example/g00381/laws.FnExactPoolNew", spec := "fnExactPoolNew", apart := false, narrowed := true }
def FnExactPoolNewUptoSaid : Prop := fnExactPoolNewUptoRow.holds Try.pinned (OpenSpec.upto fnExactPoolNewSpec)

/-- 'laws.FnExactPoolRight', WHERE WHAT IT READS IS OF BULK AT MOST 1048576: true; the input reads as it did. -/
def fnExactPoolRightUptoRow : OpenClaim := { program := "yteffacfdbhdppac", sum := "20261dc04e67cf1b5f2c3929d7181a792b56dbd8e3ea416c894d3e02b3ec676b", func := "loop.example/g00381/laws.FnExactPoolRight", spec := "fnExactPoolRight", apart := false, narrowed := true }
def FnExactPoolRightUptoSaid : Prop := fnExactPoolRightUptoRow.holds Try.pinned (OpenSpec.upto fnExactPoolRightSpec)

/-- 'laws.FnExactPoolAt', WHERE WHAT IT READS IS OF BULK AT MOST 1048576: true; the input reads as it did. -/
def fnExactPoolAtUptoRow : OpenClaim := { program := "yteffacfdbhdppac", sum := "20261dc04e67cf1b5f2c3929d7181a792b56dbd8e3ea416c894d3e02b3ec676b", func := "loop.example/g00381/laws.FnExactPoolAt", spec := "fnExactPoolAt", apart := false, narrowed := true }
def FnExactPoolAtUptoSaid : Prop := fnExactPoolAtUptoRow.holds Try.pinned (OpenSpec.upto fnExactPoolAtSpec)

end Rows
end Go.Proofs.Yteffacfdbhdppac
