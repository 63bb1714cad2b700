/-
  No cell of these rows narrows 'for every input' (looked for: loops, veiled, ifaces, maps, wideKeys, modest, calm, conditions, laid).
  DERIVED. THE GIVEN ROWS OF THIS SEAT. 4 by the template 'for every input the law returns true; each argument reads behind the call as it read before'; 0 by the template 'total and deterministic' (their statements: YteffacfdbhdppadTotals.lean).
  GIVEN WITH THE SEED: the statements are not yours to turn. If you find one false, say at which input.
  Laid BY PROGRAM, IN A SANDBOX (cutbox-rows.mjs): the forced cells as the released guide's own fill.sh prints them over the translation 6a6d5f7a3923efe2… (all of the seat's roots in one cut). By AI agents, Wed Nov 11 2026. No macro, syntax, notation, axiom, sorry.
-/
import Derived.Test.YteffacfdbhdppadChecked
import GoSem.Claim
import GoSem.ClaimJoined
import GoSem.ClaimMapViews
import Derived.JoinedTies
import Derived.KernelRfl
namespace Go.Proofs.Yteffacfdbhdppad
/- THE CELL 'sum', in the pinned program and in every row, IS THE sha256 OF THE DUMP (.gsa) THAT YteffacfdbhdppadProg.lean LOADS. Nothing in Lean hashes anything: it is a label: what it is worth is what the hold of that sum in a sandbox is worth. -/
noncomputable def Try.pinned : Pinned := { name := "yteffacfdbhdppad", sum := "6a6d5f7a3923efe2e8d39c9bc628379c1b0e375a0dfbc24a46dba92be11fde11", checked := Try.checked }
namespace Rows
def none {H : Type} : Left H := { results := [], args := [] }

/-- 'laws.FnExactPoolTake': WHATEVER THE INPUT: true; the input reads as it did. -/
def fnExactPoolTakeSpec : ChangeSpec := { name := "fnExactPoolTake", fn := fun _ => fun
  | [d1, d2] => { results := [.lit (.bool true)], args := [d1, d2] }
  | _ => none }
def fnExactPoolTakeRow : OpenClaim := { program := "yteffacfdbhdppad", sum := "6a6d5f7a3923efe2e8d39c9bc628379c1b0e375a0dfbc24a46dba92be11fde11", func := "loop.example/g00381/laws.FnExactPoolTake", spec := "fnExactPoolTake", unfollowed := true, recurses := true, apart := false }
def FnExactPoolTakeSaid : Prop := fnExactPoolTakeRow.holds Try.pinned (OpenSpec.ofChange fnExactPoolTakeSpec)

/-- ITS FALSE NEIGHBOUR: 'it returns false'. Refute it at one input. -/
def fnExactPoolTakeWrong : ChangeSpec := { name := "fnExactPoolTake", fn := fun _ => fun
  | [d1, d2] => { results := [.lit (.bool false)], args := [d1, d2] }
  | _ => none }
def FnExactPoolTakeWrongFalsely : Prop := fnExactPoolTakeRow.holds Try.pinned (OpenSpec.ofChange fnExactPoolTakeWrong)

/-- 'laws.FnExactPoolHold': WHATEVER THE INPUT: true; the input reads as it did. -/
def fnExactPoolHoldSpec : ChangeSpec := { name := "fnExactPoolHold", fn := fun _ => fun
  | [d1, d2] => { results := [.lit (.bool true)], args := [d1, d2] }
  | _ => none }
def fnExactPoolHoldRow : OpenClaim := { program := "yteffacfdbhdppad", sum := "6a6d5f7a3923efe2e8d39c9bc628379c1b0e375a0dfbc24a46dba92be11fde11", func := "loop.example/g00381/laws.FnExactPoolHold", spec := "fnExactPoolHold", apart := false }
def FnExactPoolHoldSaid : Prop := fnExactPoolHoldRow.holds Try.pinned (OpenSpec.ofChange fnExactPoolHoldSpec)

/-- ITS FALSE NEIGHBOUR: 'it returns false'. Refute it at one input. -/
def fnExactPoolHoldWrong : ChangeSpec := { name := "fnExactPoolHold", fn := fun _ => fun
  | [d1, d2] => { results := [.lit (.bool false)], args := [d1, d2] }
  | _ => none }
def FnExactPoolHoldWrongFalsely : Prop := fnExactPoolHoldRow.holds Try.pinned (OpenSpec.ofChange fnExactPoolHoldWrong)

/-- 'laws.FnExactPoolSync': WHATEVER THE INPUT: true; the input reads as it did. -/
def fnExactPoolSyncSpec : ChangeSpec := { name := "fnExactPoolSync", fn := fun _ => fun
  | [d] => { results := [.lit (.bool true)], args := [d] }
  | _ => none }
def fnExactPoolSyncRow : OpenClaim := { program := "yteffacfdbhdppad", sum := "6a6d5f7a3923efe2e8d39c9bc628379c1b0e375a0dfbc24a46dba92be11fde11", func := "loop.example/g00381/laws.FnExactPoolSync", spec := "fnExactPoolSync", apart := false }
def FnExactPoolSyncSaid : Prop := fnExactPoolSyncRow.holds Try.pinned (OpenSpec.ofChange fnExactPoolSyncSpec)

/-- ITS FALSE NEIGHBOUR: 'it returns false'. Refute it at one input. -/
def fnExactPoolSyncWrong : ChangeSpec := { name := "fnExactPoolSync", fn := fun _ => fun
  | [d] => { results := [.lit (.bool false)], args := [d] }
  | _ => none }
def FnExactPoolSyncWrongFalsely : Prop := fnExactPoolSyncRow.holds Try.pinned (OpenSpec.ofChange fnExactPoolSyncWrong)

/-- 'laws.FnExactPoolRoom': WHATEVER THE INPUT: true; the input reads as it did. -/
def fnExactPoolRoomSpec : ChangeSpec := { name := "fnExactPoolRoom", fn := fun _ => fun
  | [d] => { results := [.lit (.bool true)], args := [d] }
  | _ => none }
def fnExactPoolRoomRow : OpenClaim := { program := "yteffacfdbhdppad", sum := "6a6d5f7a3923efe2e8d39c9bc628379c1b0e375a0dfbc24a46dba92be11fde11", func := "loop.example/g00381/laws.FnExactPoolRoom", spec := "fnExactPoolRoom", apart := false }
def FnExactPoolRoomSaid : Prop := fnExactPoolRoomRow.holds Try.pinned (OpenSpec.ofChange fnExactPoolRoomSpec)

/-- ITS FALSE NEIGHBOUR: 'it returns false'. Refute it at one input. -/
def fnExactPoolRoomWrong : ChangeSpec := { name := "fnExactPoolRoom", fn := fun _ => fun
  | [d] => { results := [.lit (.bool false)], args := [d] }
  | _ => none }
def FnExactPoolRoomWrongFalsely : Prop := fnExactPoolRoomRow.holds Try.pinned (OpenSpec.ofChange fnExactPoolRoomWrong)

/- THE SECOND FORM. 'bulk': how many values and letters a reading holds, each counted each time it is reached (what is shared counts as often as it is met; a slice's spare places count too). A statement '..UptoSaid' is the law's where the arguments, and the package variables that the reading takes, are together of bulk at most 1048576: NARROWER than '..Said'. Prove '..Said' where nothing that the law and all that it calls make is longer than what came in: it says more and counts as full. Else prove '..UptoSaid'. A law counts once. -/
mutual
def uptoBulk {H : Type} : DataW H → Nat
  | .lit (.string bytes) => bytes.length + 1
  | .lit _ => 1
  | .nil => 1
  | .ptr d => uptoBulk d + 1
  | .slice elems spare => uptoBulkAll elems + uptoBulkAll spare + 1
  | .agg parts => uptoBulkAll parts + 1
  | .iface _ d => uptoBulk d + 1
  | .map entries => uptoBulkEntries entries + 1
  | .held _ => 1
def uptoBulkAll {H : Type} : List (DataW H) → Nat
  | [] => 0
  | d :: r => uptoBulk d + uptoBulkAll r
def uptoBulkEntries {H : Type} : List (Lit × DataW H) → Nat
  | [] => 0
  | x :: r => uptoBulkEntry x + uptoBulkEntries r
def uptoBulkEntry {H : Type} : Lit × DataW H → Nat
  | (.string bytes, d) => bytes.length + uptoBulk d + 1
  | (_, d) => uptoBulk d + 1
 end
def uptoSmall : (H : Type) → List (DataW H) → Bool := fun _ ds => decide (uptoBulkAll ds ≤ 1048576)
def OpenSpec.upto (s : _root_.Go.ChangeSpec) : _root_.Go.OpenSpec := { _root_.Go.OpenSpec.ofChange s with cond := some uptoSmall }

/-- 'laws.FnExactPoolTake', WHERE WHAT IT READS IS OF BULK AT MOST 1048576: true; the input reads as it did. -/
def fnExactPoolTakeUptoRow : OpenClaim := { program := "yteffacfdbhdppad", sum := "6a6d5f7a3923efe2e8d39c9bc628379c1b0e375a0dfbc24a46dba92be11fde11", func := "loop.example/g00381/laws.FnExactPoolTake", spec := "fnExactPoolTake", unfollowed := true, recurses := true, apart := false, narrowed := true }
def FnExactPoolTakeUptoSaid : Prop := fnExactPoolTakeUptoRow.holds Try.pinned (OpenSpec.upto fnExactPoolTakeSpec)

/-- 'laws.FnExactPoolHold', WHERE WHAT IT READS IS OF BULK AT MOST 1048576: true; the input reads as it did. -/
def fnExactPoolHoldUptoRow : OpenClaim := { program := "yteffacfdbhdppad", sum := "6a6d5f7a3923efe2e8d39c9bc628379c1b0e375a0dfbc24a46dba92be11fde11", func := "loop.example/g00381/laws.FnExactPoolHold", spec := "fnExactPoolHold", apart := false, narrowed := true }
def FnExactPoolHoldUptoSaid : Prop := fnExactPoolHoldUptoRow.holds Try.pinned (OpenSpec.upto fnExactPoolHoldSpec)

/-- 'laws.FnExactPoolSync', WHERE WHAT IT READS IS OF BULK AT MOST 1048576: true; the input reads as it did. -/
def fnExactPoolSyncUptoRow : OpenClaim := { program := "yteffacfdbhdppad", sum := "6a6d5f7a3923efe2e8d39c9bc628379c1b0e375a0dfbc24a46dba92be11fde11", func := "loop.example/g00381/laws.FnExactPoolSync", spec := "fnExactPoolSync", apart := false, narrowed := true }
def FnExactPoolSyncUptoSaid : Prop := fnExactPoolSyncUptoRow.holds Try.pinned (OpenSpec.upto fnExactPoolSyncSpec)

/-- 'laws.FnExactPoolRoom', WHERE WHAT IT READS IS OF BULK AT MOST 1048576: true; the input reads as it did. -/
def fnExactPoolRoomUptoRow : OpenClaim := { program := "yteffacfdbhdppad", sum := "6a6d5f7a3923efe2e8d39c9bc628379c1b0e375a0dfbc24a46dba92be11fde11", func := "loop.example/g00381/laws.FnExactPoolRoom", spec := "fnExactPoolRoom", apart := false, narrowed := true }
def FnExactPoolRoomUptoSaid : Prop := fnExactPoolRoomUptoRow.holds Try.pinned (OpenSpec.upto fnExactPoolRoomSpec)

end Rows
end Go.Proofs.Yteffacfdbhdppad
