/-
  No cell of these rows narrows 'for every input' (looked for: loops, veiled, ifaces, maps, wideKeys, modest, calm, conditions, laid).
  DERIVED. THE GIVEN ROWS OF THIS SEAT. 6 by the template 'for every input the law returns true; each argument reads behind the call as it read before'; 0 by the template 'total and deterministic' (their statements: YtiijnmpenljniadTotals.lean).
  GIVEN WITH THE SEED: the statements are not yours to turn. If you find one false, say at which input.
  Laid BY PROGRAM, IN A SANDBOX (cutbox-rows.mjs): the forced cells as the released guide's own fill.sh prints them over the translation 649db426fde13c48… (all of the seat's roots in one cut). By AI agents, Wed Nov 11 2026. No macro, syntax, notation, axiom, sorry.
-/
import Derived.Test.YtiijnmpenljniadChecked
import GoSem.Claim
import GoSem.ClaimJoined
import GoSem.ClaimMapViews
import Derived.JoinedTies
import Derived.KernelRfl
namespace Go.Proofs.Ytiijnmpenljniad
/- THE CELL 'sum', in the pinned program and in every row, IS THE sha256 OF THE DUMP (.gsa) THAT YtiijnmpenljniadProg.lean LOADS. Nothing in Lean hashes anything: it is a label: what it is worth is what the hold of that sum in a sandbox is worth. -/
noncomputable def Try.pinned : Pinned := { name := "ytiijnmpenljniad", sum := "649db426fde13c486042292133848c12d740e64d471aef9e2c92f99427aa42dc", checked := Try.checked }
namespace Rows
def none {H : Type} : Left H := { results := [], args := [] }

/-- 'laws.FnExactPoolTake': WHATEVER THE INPUT: true; the input reads as it did. -/
def fnExactPoolTakeSpec : ChangeSpec := { name := "fnExactPoolTake", fn := fun _ => fun
  | [d1, d2] => { results := [.lit (.bool true)], args := [d1, d2] }
  | _ => none }
def fnExactPoolTakeRow : OpenClaim := { program := "ytiijnmpenljniad", sum := "649db426fde13c486042292133848c12d740e64d471aef9e2c92f99427aa42dc", func := "loop.example/g00381/laws.FnExactPoolTake", spec := "fnExactPoolTake", unfollowed := true, recurses := true, apart := false }
def FnExactPoolTakeSaid : Prop := fnExactPoolTakeRow.holds Try.pinned (OpenSpec.ofChange fnExactPoolTakeSpec)

/-- ITS FALSE NEIGHBOUR: 'it returns false'. Refute it at one input. -/
def fnExactPoolTakeWrong : ChangeSpec := { name := "fnExactPoolTake", fn := fun _ => fun
  | [d1, d2] => { results := [.lit (.bool false)], args := [d1, d2] }
  | _ => none }
def FnExactPoolTakeWrongFalsely : Prop := fnExactPoolTakeRow.holds Try.pinned (OpenSpec.ofChange fnExactPoolTakeWrong)

/-- 'laws.FnExactPoolHold': WHATEVER THE INPUT: true; the input reads as it did. -/
def fnExactPoolHoldSpec : ChangeSpec := { name := "fnExactPoolHold", fn := fun _ => fun
  | [d1, d2] => { results := [.lit (.bool true)], args := [d1, d2] }
  | _ => none }
def fnExactPoolHoldRow : OpenClaim := { program := "ytiijnmpenljniad", sum := "649db426fde13c486042292133848c12d740e64d471aef9e2c92f99427aa42dc", func := "loop.example/g00381/laws.FnExactPoolHold", spec := "fnExactPoolHold", apart := false }
def FnExactPoolHoldSaid : Prop := fnExactPoolHoldRow.holds Try.pinned (OpenSpec.ofChange fnExactPoolHoldSpec)

/-- ITS FALSE NEIGHBOUR: 'it returns false'. Refute it at one input. -/
def fnExactPoolHoldWrong : ChangeSpec := { name := "fnExactPoolHold", fn := fun _ => fun
  | [d1, d2] => { results := [.lit (.bool false)], args := [d1, d2] }
  | _ => none }
def FnExactPoolHoldWrongFalsely : Prop := fnExactPoolHoldRow.holds Try.pinned (OpenSpec.ofChange fnExactPoolHoldWrong)

/-- 'laws.FnExactPoolSync': WHATEVER THE INPUT: true; the input reads as it did. -/
def fnExactPoolSyncSpec : ChangeSpec := { name := "fnExactPoolSync", fn := fun _ => fun
  | [d] => { results := [.lit (.bool true)], args := [d] }
  | _ => none }
def fnExactPoolSyncRow : OpenClaim := { program := "ytiijnmpenljniad", sum := "649db426fde13c486042292133848c12d740e64d471aef9e2c92f99427aa42dc", func := "loop.example/g00381/laws.FnExactPoolSync", spec := "fnExactPoolSync", apart := false }
def FnExactPoolSyncSaid : Prop := fnExactPoolSyncRow.holds Try.pinned (OpenSpec.ofChange fnExactPoolSyncSpec)

/-- ITS FALSE NEIGHBOUR: 'it returns false'. Refute it at one input. -/
def fnExactPoolSyncWrong : ChangeSpec := { name := "fnExactPoolSync", fn := fun _ => fun
  | [d] => { results := [.lit (.bool false)], args := [d] }
  | _ => none }
def FnExactPoolSyncWrongFalsely : Prop := fnExactPoolSyncRow.holds Try.pinned (OpenSpec.ofChange fnExactPoolSyncWrong)

/-- 'laws.FnExactPoolRoom': WHATEVER THE INPUT: true; the input reads as it did. -/
def fnExactPoolRoomSpec : ChangeSpec := { name := "fnExactPoolRoom", fn := fun _ => fun
  | [d] => { results := [.lit (.bool true)], args := [d] }
  | _ => none }
def fnExactPoolRoomRow : OpenClaim := { program := "ytiijnmpenljniad", sum := "649db426fde13c486042292133848c12d740e64d471aef9e2c92f99427aa42dc", func := "loop.example/g00381/laws.FnExactPoolRoom", spec := "fnExactPoolRoom", apart := false }
def FnExactPoolRoomSaid : Prop := fnExactPoolRoomRow.holds Try.pinned (OpenSpec.ofChange fnExactPoolRoomSpec)

/-- ITS FALSE NEIGHBOUR: 'it returns false'. Refute it at one input. -/
def fnExactPoolRoomWrong : ChangeSpec := { name := "fnExactPoolRoom", fn := fun _ => fun
  | [d] => { results := [.lit (.bool false)], args := [d] }
  | _ => none }
def FnExactPoolRoomWrongFalsely : Prop := fnExactPoolRoomRow.holds Try.pinned (OpenSpec.ofChange fnExactPoolRoomWrong)

/-- 'laws.FnExactTreeRight': WHATEVER THE INPUT: true; the input reads as it did. -/
def fnExactTreeRightSpec : ChangeSpec := { name := "fnExactTreeRight", fn := fun _ => fun
  | [d1, d2] => { results := [.lit (.bool true)], args := [d1, d2] }
  | _ => none }
def fnExactTreeRightRow : OpenClaim := { program := "ytiijnmpenljniad", sum := "649db426fde13c486042292133848c12d740e64d471aef9e2c92f99427aa42dc", func := "loop.example/g00381/laws.FnExactTreeRight", spec := "fnExactTreeRight", recurses := true, apart := false }
def FnExactTreeRightSaid : Prop := fnExactTreeRightRow.holds Try.pinned (OpenSpec.ofChange fnExactTreeRightSpec)

/-- ITS FALSE NEIGHBOUR: 'it returns false'. Refute it at one input. -/
def fnExactTreeRightWrong : ChangeSpec := { name := "fnExactTreeRight", fn := fun _ => fun
  | [d1, d2] => { results := [.lit (.bool false)], args := [d1, d2] }
  | _ => none }
def FnExactTreeRightWrongFalsely : Prop := fnExactTreeRightRow.holds Try.pinned (OpenSpec.ofChange fnExactTreeRightWrong)

/-- 'laws.FnExactTreeRead': WHATEVER THE INPUT: true; the input reads as it did. -/
def fnExactTreeReadSpec : ChangeSpec := { name := "fnExactTreeRead", fn := fun _ => fun
  | [d1, d2, d3] => { results := [.lit (.bool true)], args := [d1, d2, d3] }
  | _ => none }
def fnExactTreeReadRow : OpenClaim := { program := "ytiijnmpenljniad", sum := "649db426fde13c486042292133848c12d740e64d471aef9e2c92f99427aa42dc", func := "loop.example/g00381/laws.FnExactTreeRead", spec := "fnExactTreeRead", recurses := true, apart := false }
def FnExactTreeReadSaid : Prop := fnExactTreeReadRow.holds Try.pinned (OpenSpec.ofChange fnExactTreeReadSpec)

/-- ITS FALSE NEIGHBOUR: 'it returns false'. Refute it at one input. -/
def fnExactTreeReadWrong : ChangeSpec := { name := "fnExactTreeRead", fn := fun _ => fun
  | [d1, d2, d3] => { results := [.lit (.bool false)], args := [d1, d2, d3] }
  | _ => none }
def FnExactTreeReadWrongFalsely : Prop := fnExactTreeReadRow.holds Try.pinned (OpenSpec.ofChange fnExactTreeReadWrong)

/- THE SECOND FORM. 'bulk': how many values and letters a reading holds, each counted each time it is reached (what is shared counts as often as it is met; a slice's spare places count too). A statement '..UptoSaid' is the law's where the arguments, and the package variables that the reading takes, are together of bulk at most 1048576: NARROWER than '..Said'. Prove '..Said' where nothing that the law and all that it calls make is longer than what came in: it says more and counts as full. Else prove '..UptoSaid'. A law counts once. -/
mutual
def uptoBulk {H : Type} : DataW H → Nat
  | .lit (.string bytes) => bytes.length + 1
  | .lit _ => 1
  | .nil => 1
  | .ptr d => uptoBulk d + 1
  | .slice elems spare => uptoBulkAll elems + uptoBulkAll spare + 1
  | .agg parts => uptoBulkAll parts + 1
  | .iface _ d => uptoBulk d + 1
  | .map entries => uptoBulkEntries entries + 1
  | .held _ => 1
def uptoBulkAll {H : Type} : List (DataW H) → Nat
  | [] => 0
  | d :: r => uptoBulk d + uptoBulkAll r
def uptoBulkEntries {H : Type} : List (Lit × DataW H) → Nat
  | [] => 0
  | x :: r => uptoBulkEntry x + uptoBulkEntries r
def uptoBulkEntry {H : Type} : Lit × DataW H → Nat
  | (.string bytes, d) => bytes.length + uptoBulk d + 1
  | (_, d) => uptoBulk d + 1
 end
def uptoSmall : (H : Type) → List (DataW H) → Bool := fun _ ds => decide (uptoBulkAll ds ≤ 1048576)
def OpenSpec.upto (s : _root_.Go.ChangeSpec) : _root_.Go.OpenSpec := { _root_.Go.OpenSpec.ofChange s with cond := some uptoSmall }

/-- 'laws.FnExactPoolTake', WHERE WHAT IT READS IS OF BULK AT MOST 1048576: true; the input reads as it did. -/
def fnExactPoolTakeUptoRow : OpenClaim := { program := "ytiijnmpenljniad", sum := "649db426fde13c486042292133848c12d740e64d471aef9e2c92f99427aa42dc", func := "loop.example/g00381/laws.FnExactPoolTake", spec := "fnExactPoolTake", unfollowed := true, recurses := true, apart := false, narrowed := true }
def FnExactPoolTakeUptoSaid : Prop := fnExactPoolTakeUptoRow.holds Try.pinned (OpenSpec.upto fnExactPoolTakeSpec)

/-- 'laws.FnExactPoolHold', WHERE WHAT IT READS IS OF BULK AT MOST 1048576: true; the input reads as it did. -/
def fnExactPoolHoldUptoRow : OpenClaim := { program := "ytiijnmpenljniad", sum := "649db426fde13c486042292133848c12d740e64d471aef9e2c92f99427aa42dc", func := "loop.example/g00381/laws.FnExactPoolHold", spec := "fnExactPoolHold", apart := false, narrowed := true }
def FnExactPoolHoldUptoSaid : Prop := fnExactPoolHoldUptoRow.holds Try.pinned (OpenSpec.upto fnExactPoolHoldSpec)

/-- 'laws.FnExactPoolSync', WHERE WHAT IT READS IS OF BULK AT MOST 1048576: true; the input reads as it did. -/
def fnExactPoolSyncUptoRow : OpenClaim := { program := "ytiijnmpenljniad", sum := "649db426fde13c486042292133848c12d740e64d471aef9e2c92f99427aa42dc", func := "loop.example/g00381/laws.FnExactPoolSync", spec := "fnExactPoolSync", apart := false, narrowed := true }
def FnExactPoolSyncUptoSaid : Prop := fnExactPoolSyncUptoRow.holds Try.pinned (OpenSpec.upto fnExactPoolSyncSpec)

/-- 'laws.FnExactPoolRoom', WHERE WHAT IT READS IS OF BULK AT MOST 1048576: true; the input reads as it did. -/
def fnExactPoolRoomUptoRow : OpenClaim := { program := "ytiijnmpenljniad", sum := "649db426fde13c486042292133848c12d740e64d471aef9e2c92f99427aa42dc", func := "loop.example/g00381/laws.FnExactPoolRoom", spec := "fnExactPoolRoom", apart := false, narrowed := true }
def FnExactPoolRoomUptoSaid : Prop := fnExactPoolRoomUptoRow.holds Try.pinned (OpenSpec.upto fnExactPoolRoomSpec)

/-- 'laws.FnExactTreeRight', WHERE WHAT IT READS IS OF BULK AT MOST 1048576: true; the input reads as it did. -/
def fnExactTreeRightUptoRow : OpenClaim := { program := "ytiijnmpenljniad", sum := "649db426fde13c486042292133848c12d740e64d471aef9e2c92f99427aa42dc", func := "loop.example/g00381/laws.FnExactTreeRight", spec := "fnExactTreeRight", recurses := true, apart := false, narrowed := true }
def FnExactTreeRightUptoSaid : Prop := fnExactTreeRightUptoRow.holds Try.pinned (OpenSpec.upto fnExactTreeRightSpec)

/-- 'laws.FnExactTreeRead', WHERE WHAT IT READS IS OF BULK AT MOST 1048576: true; the input reads as it did. -/
def fnExactTreeReadUptoRow : OpenClaim := { program := "ytiijnmpenljniad", sum := "649db426fde13c486042292133848c12d740e64d471aef9e2c92f99427aa42dc", func := "loop.example/g00381/laws.FnExactTreeRead", spec := "fnExactTreeRead", recurses := true, apart := false, narrowed := true }
def FnExactTreeReadUptoSaid : Prop := fnExactTreeReadUptoRow.holds Try.pinned (OpenSpec.upto fnExactTreeReadSpec)

end Rows
end Go.Proofs.Ytiijnmpenljniad
