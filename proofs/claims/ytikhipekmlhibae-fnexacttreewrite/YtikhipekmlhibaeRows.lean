/-
  No cell of these rows narrows 'for every input' (looked for: loops, veiled, ifaces, maps, wideKeys, modest, calm, conditions, laid).
  DERIVED. THE GIVEN ROWS OF THIS SEAT. 6 by the template 'for every input the law returns true; each argument reads behind the call as it read before'; 0 by the template 'total and deterministic' (their statements: YtikhipekmlhibaeTotals.lean).
  GIVEN WITH THE SEED: the statements are not yours to turn. If you find one false, say at which input.
  Laid BY PROGRAM, IN A SANDBOX (cutbox-rows.mjs): the forced cells as the released guide's own fill.sh prints them over the translation caacc41de7e2df59… (all of the seat's roots in one cut). By AI agents, Wed Nov 11 2026. No macro, syntax, notation, axiom, sorry.
-/
import Derived.Test.YtikhipekmlhibaeChecked
import GoSem.Claim
import GoSem.ClaimJoined
import GoSem.ClaimMapViews
import Derived.JoinedTies
import Derived.KernelRfl
namespace Go.Proofs.Ytikhipekmlhibae
/- THE CELL 'sum', in the pinned program and in every row, IS THE sha256 OF THE DUMP (.gsa) THAT YtikhipekmlhibaeProg.lean LOADS. Nothing in Lean hashes anything: it is a label: what it is worth is what the hold of that sum in a sandbox is worth. -/
noncomputable def Try.pinned : Pinned := { name := "ytikhipekmlhibae", sum := "caacc41de7e2df59ad752ccb70b793084975f91124c6158c942bcb8ea2262f96", checked := Try.checked }
namespace Rows
def none {H : Type} : Left H := { results := [], args := [] }

/-- 'laws.FnExactTreeWrite': WHATEVER THE INPUT: true; the input reads as it did. -/
def fnExactTreeWriteSpec : ChangeSpec := { name := "fnExactTreeWrite", fn := fun _ => fun
  | [d1, d2, d3, d4, d5] => { results := [.lit (.bool true)], args := [d1, d2, d3, d4, d5] }
  | _ => none }
def fnExactTreeWriteRow : OpenClaim := { program := "ytikhipekmlhibae", sum := "caacc41de7e2df59ad752ccb70b793084975f91124c6158c942bcb8ea2262f96", func := "loop.example/g00381/laws.FnExactTreeWrite", spec := "fnExactTreeWrite", unfollowed := true, recurses := true, apart := false }
def FnExactTreeWriteSaid : Prop := fnExactTreeWriteRow.holds Try.pinned (OpenSpec.ofChange fnExactTreeWriteSpec)

/-- ITS FALSE NEIGHBOUR: 'it returns false'. Refute it at one input. -/
def fnExactTreeWriteWrong : ChangeSpec := { name := "fnExactTreeWrite", fn := fun _ => fun
  | [d1, d2, d3, d4, d5] => { results := [.lit (.bool false)], args := [d1, d2, d3, d4, d5] }
  | _ => none }
def FnExactTreeWriteWrongFalsely : Prop := fnExactTreeWriteRow.holds Try.pinned (OpenSpec.ofChange fnExactTreeWriteWrong)

/-- 'laws.FnExactTreeTrim': WHATEVER THE INPUT: true; the input reads as it did. -/
def fnExactTreeTrimSpec : ChangeSpec := { name := "fnExactTreeTrim", fn := fun _ => fun
  | [d1, d2, d3, d4] => { results := [.lit (.bool true)], args := [d1, d2, d3, d4] }
  | _ => none }
def fnExactTreeTrimRow : OpenClaim := { program := "ytikhipekmlhibae", sum := "caacc41de7e2df59ad752ccb70b793084975f91124c6158c942bcb8ea2262f96", func := "loop.example/g00381/laws.FnExactTreeTrim", spec := "fnExactTreeTrim", unfollowed := true, recurses := true, apart := false }
def FnExactTreeTrimSaid : Prop := fnExactTreeTrimRow.holds Try.pinned (OpenSpec.ofChange fnExactTreeTrimSpec)

/-- ITS FALSE NEIGHBOUR: 'it returns false'. Refute it at one input. -/
def fnExactTreeTrimWrong : ChangeSpec := { name := "fnExactTreeTrim", fn := fun _ => fun
  | [d1, d2, d3, d4] => { results := [.lit (.bool false)], args := [d1, d2, d3, d4] }
  | _ => none }
def FnExactTreeTrimWrongFalsely : Prop := fnExactTreeTrimRow.holds Try.pinned (OpenSpec.ofChange fnExactTreeTrimWrong)

/-- 'laws.FnExactTreePtrs': WHATEVER THE INPUT: true; the input reads as it did. -/
def fnExactTreePtrsSpec : ChangeSpec := { name := "fnExactTreePtrs", fn := fun _ => fun
  | [d1, d2] => { results := [.lit (.bool true)], args := [d1, d2] }
  | _ => none }
def fnExactTreePtrsRow : OpenClaim := { program := "ytikhipekmlhibae", sum := "caacc41de7e2df59ad752ccb70b793084975f91124c6158c942bcb8ea2262f96", func := "loop.example/g00381/laws.FnExactTreePtrs", spec := "fnExactTreePtrs", recurses := true, apart := false }
def FnExactTreePtrsSaid : Prop := fnExactTreePtrsRow.holds Try.pinned (OpenSpec.ofChange fnExactTreePtrsSpec)

/-- ITS FALSE NEIGHBOUR: 'it returns false'. Refute it at one input. -/
def fnExactTreePtrsWrong : ChangeSpec := { name := "fnExactTreePtrs", fn := fun _ => fun
  | [d1, d2] => { results := [.lit (.bool false)], args := [d1, d2] }
  | _ => none }
def FnExactTreePtrsWrongFalsely : Prop := fnExactTreePtrsRow.holds Try.pinned (OpenSpec.ofChange fnExactTreePtrsWrong)

/-- 'laws.FnExactPtrsRight': WHATEVER THE INPUT: true; the input reads as it did. -/
def fnExactPtrsRightSpec : ChangeSpec := { name := "fnExactPtrsRight", fn := fun _ => fun
  | [d] => { results := [.lit (.bool true)], args := [d] }
  | _ => none }
def fnExactPtrsRightRow : OpenClaim := { program := "ytikhipekmlhibae", sum := "caacc41de7e2df59ad752ccb70b793084975f91124c6158c942bcb8ea2262f96", func := "loop.example/g00381/laws.FnExactPtrsRight", spec := "fnExactPtrsRight", apart := false }
def FnExactPtrsRightSaid : Prop := fnExactPtrsRightRow.holds Try.pinned (OpenSpec.ofChange fnExactPtrsRightSpec)

/-- ITS FALSE NEIGHBOUR: 'it returns false'. Refute it at one input. -/
def fnExactPtrsRightWrong : ChangeSpec := { name := "fnExactPtrsRight", fn := fun _ => fun
  | [d] => { results := [.lit (.bool false)], args := [d] }
  | _ => none }
def FnExactPtrsRightWrongFalsely : Prop := fnExactPtrsRightRow.holds Try.pinned (OpenSpec.ofChange fnExactPtrsRightWrong)

/-- 'laws.FnExactSplit': WHATEVER THE INPUT: true; the input reads as it did. -/
def fnExactSplitSpec : ChangeSpec := { name := "fnExactSplit", fn := fun _ => fun
  | [d1, d2] => { results := [.lit (.bool true)], args := [d1, d2] }
  | _ => none }
def fnExactSplitRow : OpenClaim := { program := "ytikhipekmlhibae", sum := "caacc41de7e2df59ad752ccb70b793084975f91124c6158c942bcb8ea2262f96", func := "loop.example/g00381/laws.FnExactSplit", spec := "fnExactSplit", unfollowed := true, recurses := true, apart := false }
def FnExactSplitSaid : Prop := fnExactSplitRow.holds Try.pinned (OpenSpec.ofChange fnExactSplitSpec)

/-- ITS FALSE NEIGHBOUR: 'it returns false'. Refute it at one input. -/
def fnExactSplitWrong : ChangeSpec := { name := "fnExactSplit", fn := fun _ => fun
  | [d1, d2] => { results := [.lit (.bool false)], args := [d1, d2] }
  | _ => none }
def FnExactSplitWrongFalsely : Prop := fnExactSplitRow.holds Try.pinned (OpenSpec.ofChange fnExactSplitWrong)

/-- 'laws.FnExactPtrsSame': WHATEVER THE INPUT: true; the input reads as it did. -/
def fnExactPtrsSameSpec : ChangeSpec := { name := "fnExactPtrsSame", fn := fun _ => fun
  | [d1, d2] => { results := [.lit (.bool true)], args := [d1, d2] }
  | _ => none }
def fnExactPtrsSameRow : OpenClaim := { program := "ytikhipekmlhibae", sum := "caacc41de7e2df59ad752ccb70b793084975f91124c6158c942bcb8ea2262f96", func := "loop.example/g00381/laws.FnExactPtrsSame", spec := "fnExactPtrsSame", apart := false }
def FnExactPtrsSameSaid : Prop := fnExactPtrsSameRow.holds Try.pinned (OpenSpec.ofChange fnExactPtrsSameSpec)

/-- ITS FALSE NEIGHBOUR: 'it returns false'. Refute it at one input. -/
def fnExactPtrsSameWrong : ChangeSpec := { name := "fnExactPtrsSame", fn := fun _ => fun
  | [d1, d2] => { results := [.lit (.bool false)], args := [d1, d2] }
  | _ => none }
def FnExactPtrsSameWrongFalsely : Prop := fnExactPtrsSameRow.holds Try.pinned (OpenSpec.ofChange fnExactPtrsSameWrong)

/- THE SECOND FORM. 'bulk': how many values and letters a reading holds, each counted each time it is reached (what is shared counts as often as it is met; a slice's spare places count too). A statement '..UptoSaid' is the law's where the arguments, and the package variables that the reading takes, are together of bulk at most 1048576: NARROWER than '..Said'. Prove '..Said' where nothing that the law and all that it calls make is longer than what came in: it says more and counts as full. Else prove '..UptoSaid'. A law counts once. -/
mutual
def uptoBulk {H : Type} : DataW H → Nat
  | .lit (.string bytes) => bytes.length + 1
  | .lit _ => 1
  | .nil => 1
  | .ptr d => uptoBulk d + 1
  | .slice elems spare => uptoBulkAll elems + uptoBulkAll spare + 1
  | .agg parts => uptoBulkAll parts + 1
  | .iface _ d => uptoBulk d + 1
  | .map entries => uptoBulkEntries entries + 1
  | .held _ => 1
def uptoBulkAll {H : Type} : List (DataW H) → Nat
  | [] => 0
  | d :: r => uptoBulk d + uptoBulkAll r
def uptoBulkEntries {H : Type} : List (Lit × DataW H) → Nat
  | [] => 0
  | x :: r => uptoBulkEntry x + uptoBulkEntries r
def uptoBulkEntry {H : Type} : Lit × DataW H → Nat
  | (.string bytes, d) => bytes.length + uptoBulk d + 1
  | (_, d) => uptoBulk d + 1
 end
def uptoSmall : (H : Type) → List (DataW H) → Bool := fun _ ds => decide (uptoBulkAll ds ≤ 1048576)
def OpenSpec.upto (s : _root_.Go.ChangeSpec) : _root_.Go.OpenSpec := { _root_.Go.OpenSpec.ofChange s with cond := some uptoSmall }

/-- 'laws.FnExactTreeWrite', WHERE WHAT IT READS IS OF BULK AT MOST 1048576: true; the input reads as it did. -/
def fnExactTreeWriteUptoRow : OpenClaim := { program := "ytikhipekmlhibae", sum := "caacc41de7e2df59ad752ccb70b793084975f91124c6158c942bcb8ea2262f96", func := "loop.example/g00381/laws.FnExactTreeWrite", spec := "fnExactTreeWrite", unfollowed := true, recurses := true, apart := false, narrowed := true }
def FnExactTreeWriteUptoSaid : Prop := fnExactTreeWriteUptoRow.holds Try.pinned (OpenSpec.upto fnExactTreeWriteSpec)

/-- 'laws.FnExactTreeTrim', WHERE WHAT IT READS IS OF BULK AT MOST 1048576: true; the input reads as it did. -/
def fnExactTreeTrimUptoRow : OpenClaim := { program := "ytikhipekmlhibae", sum := "caacc41de7e2df59ad752ccb70b793084975f91124c6158c942bcb8ea2262f96", func := "loop.example/g00381/laws.FnExactTreeTrim", spec := "fnExactTreeTrim", unfollowed := true, recurses := true, apart := false, narrowed := true }
def FnExactTreeTrimUptoSaid : Prop := fnExactTreeTrimUptoRow.holds Try.pinned (OpenSpec.upto fnExactTreeTrimSpec)

/-- 'laws.FnExactTreePtrs', WHERE WHAT IT READS IS OF BULK AT MOST 1048576: true; the input reads as it did. -/
def fnExactTreePtrsUptoRow : OpenClaim := { program := "ytikhipekmlhibae", sum := "caacc41de7e2df59ad752ccb70b793084975f91124c6158c942bcb8ea2262f96", func := "loop.example/g00381/laws.FnExactTreePtrs", spec := "fnExactTreePtrs", recurses := true, apart := false, narrowed := true }
def FnExactTreePtrsUptoSaid : Prop := fnExactTreePtrsUptoRow.holds Try.pinned (OpenSpec.upto fnExactTreePtrsSpec)

/-- 'laws.FnExactPtrsRight', WHERE WHAT IT READS IS OF BULK AT MOST 1048576: true; the input reads as it did. -/
def fnExactPtrsRightUptoRow : OpenClaim := { program := "ytikhipekmlhibae", sum := "caacc41de7e2df59ad752ccb70b793084975f91124c6158c942bcb8ea2262f96", func := "loop.example/g00381/laws.FnExactPtrsRight", spec := "fnExactPtrsRight", apart := false, narrowed := true }
def FnExactPtrsRightUptoSaid : Prop := fnExactPtrsRightUptoRow.holds Try.pinned (OpenSpec.upto fnExactPtrsRightSpec)

/-- 'laws.FnExactSplit', WHERE WHAT IT READS IS OF BULK AT MOST 1048576: true; the input reads as it did. -/
def fnExactSplitUptoRow : OpenClaim := { program := "ytikhipekmlhibae", sum := "caacc41de7e2df59ad752ccb70b793084975f91124c6158c942bcb8ea2262f96", func := "loop.example/g00381/laws.FnExactSplit", spec := "fnExactSplit", unfollowed := true, recurses := true, apart := false, narrowed := true }
def FnExactSplitUptoSaid : Prop := fnExactSplitUptoRow.holds Try.pinned (OpenSpec.upto fnExactSplitSpec)

/-- 'laws.FnExactPtrsSame', WHERE WHAT IT READS IS OF BULK AT MOST 1048576: true; the input reads as it did. -/
def fnExactPtrsSameUptoRow : OpenClaim := { program := "ytikhipekmlhibae", sum := "caacc41de7e2df59ad752ccb70b793084975f91124c6158c942bcb8ea2262f96", func := "loop.example/g00381/laws.FnExactPtrsSame", spec := "fnExactPtrsSame", apart := false, narrowed := true }
def FnExactPtrsSameUptoSaid : Prop := fnExactPtrsSameUptoRow.holds Try.pinned (OpenSpec.upto fnExactPtrsSameSpec)

end Rows
end Go.Proofs.Ytikhipekmlhibae
