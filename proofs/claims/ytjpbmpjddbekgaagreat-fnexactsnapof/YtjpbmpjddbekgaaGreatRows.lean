/-
  No cell of these rows narrows 'for every input' (looked for: loops, veiled, ifaces, maps, wideKeys, modest, calm, conditions, laid).
  DERIVED. THE GIVEN ROWS OF THIS SEAT. 10 by the template 'for every input the law returns true; each argument reads behind the call as it read before'; 0 by the template 'total and deterministic' (their statements: YtjpbmpjddbekgaaGreatTotals.lean).
  GIVEN WITH THE SEED: the statements are not yours to turn. If you find one false, say at which input.
  Laid BY PROGRAM, IN A SANDBOX (cutbox-rows.mjs): the forced cells as the released guide's own fill.sh prints them over the translation 840e895f0e4dc2ec… (all of the seat's roots in one cut). By AI agents, Wed Nov 11 2026. No macro, syntax, notation, axiom, sorry.
-/
import Derived.Test.YtjpbmpjddbekgaaGreatChecked
import GoSem.Claim
import GoSem.ClaimJoined
import GoSem.ClaimMapViews
import Derived.JoinedTies
import Derived.KernelRfl
namespace Go.Proofs.YtjpbmpjddbekgaaGreat
/- THE CELL 'sum', in the pinned program and in every row, IS THE sha256 OF THE DUMP (.gsa) THAT YtjpbmpjddbekgaaGreatProg.lean LOADS. Nothing in Lean hashes anything: it is a label: what it is worth is what the hold of that sum in a sandbox is worth. -/
noncomputable def Tryz.pinned : Pinned := { name := "ytjpbmpjddbekgaagreat", sum := "840e895f0e4dc2eca7db814f5af05d0784e2e0766382b92dffba39bf68a2080b", checked := Tryz.checked }
namespace Rows
def none {H : Type} : Left H := { results := [], args := [] }

/-- 'laws.FnExactWorldRight': WHATEVER THE INPUT: true; the input reads as it did. -/
def fnExactWorldRightSpec : ChangeSpec := { name := "fnExactWorldRight", fn := fun _ => fun
  | [d] => { results := [.lit (.bool true)], args := [d] }
  | _ => none }
def fnExactWorldRightRow : OpenClaim := { program := "ytjpbmpjddbekgaagreat", sum := "840e895f0e4dc2eca7db814f5af05d0784e2e0766382b92dffba39bf68a2080b", func := "loop.example/g00381/laws.FnExactWorldRight", spec := "fnExactWorldRight", unfollowed := true, recurses := true, plainKeys := false, apart := false }
def FnExactWorldRightSaid : Prop := fnExactWorldRightRow.holds Tryz.pinned (OpenSpec.ofChange fnExactWorldRightSpec)

/-- ITS FALSE NEIGHBOUR: 'it returns false'. Refute it at one input. -/
def fnExactWorldRightWrong : ChangeSpec := { name := "fnExactWorldRight", fn := fun _ => fun
  | [d] => { results := [.lit (.bool false)], args := [d] }
  | _ => none }
def FnExactWorldRightWrongFalsely : Prop := fnExactWorldRightRow.holds Tryz.pinned (OpenSpec.ofChange fnExactWorldRightWrong)

/-- 'laws.FnExactSnapOf': WHATEVER THE INPUT: true; the input reads as it did. -/
def fnExactSnapOfSpec : ChangeSpec := { name := "fnExactSnapOf", fn := fun _ => fun
  | [d1, d2] => { results := [.lit (.bool true)], args := [d1, d2] }
  | _ => none }
def fnExactSnapOfRow : OpenClaim := { program := "ytjpbmpjddbekgaagreat", sum := "840e895f0e4dc2eca7db814f5af05d0784e2e0766382b92dffba39bf68a2080b", func := "loop.example/g00381/laws.FnExactSnapOf", spec := "fnExactSnapOf", unfollowed := true, recurses := true, plainKeys := false, apart := false }
def FnExactSnapOfSaid : Prop := fnExactSnapOfRow.holds Tryz.pinned (OpenSpec.ofChange fnExactSnapOfSpec)

/-- ITS FALSE NEIGHBOUR: 'it returns false'. Refute it at one input. -/
def fnExactSnapOfWrong : ChangeSpec := { name := "fnExactSnapOf", fn := fun _ => fun
  | [d1, d2] => { results := [.lit (.bool false)], args := [d1, d2] }
  | _ => none }
def FnExactSnapOfWrongFalsely : Prop := fnExactSnapOfRow.holds Tryz.pinned (OpenSpec.ofChange fnExactSnapOfWrong)

/-- 'laws.FnExactSetOf': WHATEVER THE INPUT: true; the input reads as it did. -/
def fnExactSetOfSpec : ChangeSpec := { name := "fnExactSetOf", fn := fun _ => fun
  | [d1, d2] => { results := [.lit (.bool true)], args := [d1, d2] }
  | _ => none }
def fnExactSetOfRow : OpenClaim := { program := "ytjpbmpjddbekgaagreat", sum := "840e895f0e4dc2eca7db814f5af05d0784e2e0766382b92dffba39bf68a2080b", func := "loop.example/g00381/laws.FnExactSetOf", spec := "fnExactSetOf", unfollowed := true, recurses := true, plainKeys := false, apart := false }
def FnExactSetOfSaid : Prop := fnExactSetOfRow.holds Tryz.pinned (OpenSpec.ofChange fnExactSetOfSpec)

/-- ITS FALSE NEIGHBOUR: 'it returns false'. Refute it at one input. -/
def fnExactSetOfWrong : ChangeSpec := { name := "fnExactSetOf", fn := fun _ => fun
  | [d1, d2] => { results := [.lit (.bool false)], args := [d1, d2] }
  | _ => none }
def FnExactSetOfWrongFalsely : Prop := fnExactSetOfRow.holds Tryz.pinned (OpenSpec.ofChange fnExactSetOfWrong)

/-- 'laws.FnExactNextsOf': WHATEVER THE INPUT: true; the input reads as it did. -/
def fnExactNextsOfSpec : ChangeSpec := { name := "fnExactNextsOf", fn := fun _ => fun
  | [d1, d2] => { results := [.lit (.bool true)], args := [d1, d2] }
  | _ => none }
def fnExactNextsOfRow : OpenClaim := { program := "ytjpbmpjddbekgaagreat", sum := "840e895f0e4dc2eca7db814f5af05d0784e2e0766382b92dffba39bf68a2080b", func := "loop.example/g00381/laws.FnExactNextsOf", spec := "fnExactNextsOf", unfollowed := true, recurses := true, plainKeys := false, apart := false }
def FnExactNextsOfSaid : Prop := fnExactNextsOfRow.holds Tryz.pinned (OpenSpec.ofChange fnExactNextsOfSpec)

/-- ITS FALSE NEIGHBOUR: 'it returns false'. Refute it at one input. -/
def fnExactNextsOfWrong : ChangeSpec := { name := "fnExactNextsOf", fn := fun _ => fun
  | [d1, d2] => { results := [.lit (.bool false)], args := [d1, d2] }
  | _ => none }
def FnExactNextsOfWrongFalsely : Prop := fnExactNextsOfRow.holds Tryz.pinned (OpenSpec.ofChange fnExactNextsOfWrong)

/-- 'laws.FnExactUsed': WHATEVER THE INPUT: true; the input reads as it did. -/
def fnExactUsedSpec : ChangeSpec := { name := "fnExactUsed", fn := fun _ => fun
  | [d1, d2] => { results := [.lit (.bool true)], args := [d1, d2] }
  | _ => none }
def fnExactUsedRow : OpenClaim := { program := "ytjpbmpjddbekgaagreat", sum := "840e895f0e4dc2eca7db814f5af05d0784e2e0766382b92dffba39bf68a2080b", func := "loop.example/g00381/laws.FnExactUsed", spec := "fnExactUsed", unfollowed := true, recurses := true, plainKeys := false, apart := false }
def FnExactUsedSaid : Prop := fnExactUsedRow.holds Tryz.pinned (OpenSpec.ofChange fnExactUsedSpec)

/-- ITS FALSE NEIGHBOUR: 'it returns false'. Refute it at one input. -/
def fnExactUsedWrong : ChangeSpec := { name := "fnExactUsed", fn := fun _ => fun
  | [d1, d2] => { results := [.lit (.bool false)], args := [d1, d2] }
  | _ => none }
def FnExactUsedWrongFalsely : Prop := fnExactUsedRow.holds Tryz.pinned (OpenSpec.ofChange fnExactUsedWrong)

/-- 'laws.FnExactAlone': WHATEVER THE INPUT: true; the input reads as it did. -/
def fnExactAloneSpec : ChangeSpec := { name := "fnExactAlone", fn := fun _ => fun
  | [d1, d2] => { results := [.lit (.bool true)], args := [d1, d2] }
  | _ => none }
def fnExactAloneRow : OpenClaim := { program := "ytjpbmpjddbekgaagreat", sum := "840e895f0e4dc2eca7db814f5af05d0784e2e0766382b92dffba39bf68a2080b", func := "loop.example/g00381/laws.FnExactAlone", spec := "fnExactAlone", unfollowed := true, recurses := true, plainKeys := false, apart := false }
def FnExactAloneSaid : Prop := fnExactAloneRow.holds Tryz.pinned (OpenSpec.ofChange fnExactAloneSpec)

/-- ITS FALSE NEIGHBOUR: 'it returns false'. Refute it at one input. -/
def fnExactAloneWrong : ChangeSpec := { name := "fnExactAlone", fn := fun _ => fun
  | [d1, d2] => { results := [.lit (.bool false)], args := [d1, d2] }
  | _ => none }
def FnExactAloneWrongFalsely : Prop := fnExactAloneRow.holds Tryz.pinned (OpenSpec.ofChange fnExactAloneWrong)

/-- 'laws.FnExactWritten': WHATEVER THE INPUT: true; the input reads as it did. -/
def fnExactWrittenSpec : ChangeSpec := { name := "fnExactWritten", fn := fun _ => fun
  | [d1, d2] => { results := [.lit (.bool true)], args := [d1, d2] }
  | _ => none }
def fnExactWrittenRow : OpenClaim := { program := "ytjpbmpjddbekgaagreat", sum := "840e895f0e4dc2eca7db814f5af05d0784e2e0766382b92dffba39bf68a2080b", func := "loop.example/g00381/laws.FnExactWritten", spec := "fnExactWritten", unfollowed := true, recurses := true, plainKeys := false, apart := false }
def FnExactWrittenSaid : Prop := fnExactWrittenRow.holds Tryz.pinned (OpenSpec.ofChange fnExactWrittenSpec)

/-- ITS FALSE NEIGHBOUR: 'it returns false'. Refute it at one input. -/
def fnExactWrittenWrong : ChangeSpec := { name := "fnExactWritten", fn := fun _ => fun
  | [d1, d2] => { results := [.lit (.bool false)], args := [d1, d2] }
  | _ => none }
def FnExactWrittenWrongFalsely : Prop := fnExactWrittenRow.holds Tryz.pinned (OpenSpec.ofChange fnExactWrittenWrong)

/-- 'laws.FnExactPages': WHATEVER THE INPUT: true; the input reads as it did. -/
def fnExactPagesSpec : ChangeSpec := { name := "fnExactPages", fn := fun _ => fun
  | [d1, d2] => { results := [.lit (.bool true)], args := [d1, d2] }
  | _ => none }
def fnExactPagesRow : OpenClaim := { program := "ytjpbmpjddbekgaagreat", sum := "840e895f0e4dc2eca7db814f5af05d0784e2e0766382b92dffba39bf68a2080b", func := "loop.example/g00381/laws.FnExactPages", spec := "fnExactPages", unfollowed := true, recurses := true, plainKeys := false, apart := false }
def FnExactPagesSaid : Prop := fnExactPagesRow.holds Tryz.pinned (OpenSpec.ofChange fnExactPagesSpec)

/-- ITS FALSE NEIGHBOUR: 'it returns false'. Refute it at one input. -/
def fnExactPagesWrong : ChangeSpec := { name := "fnExactPages", fn := fun _ => fun
  | [d1, d2] => { results := [.lit (.bool false)], args := [d1, d2] }
  | _ => none }
def FnExactPagesWrongFalsely : Prop := fnExactPagesRow.holds Tryz.pinned (OpenSpec.ofChange fnExactPagesWrong)

/-- 'laws.FnExactChanged': WHATEVER THE INPUT: true; the input reads as it did. -/
def fnExactChangedSpec : ChangeSpec := { name := "fnExactChanged", fn := fun _ => fun
  | [d1, d2, d3] => { results := [.lit (.bool true)], args := [d1, d2, d3] }
  | _ => none }
def fnExactChangedRow : OpenClaim := { program := "ytjpbmpjddbekgaagreat", sum := "840e895f0e4dc2eca7db814f5af05d0784e2e0766382b92dffba39bf68a2080b", func := "loop.example/g00381/laws.FnExactChanged", spec := "fnExactChanged", unfollowed := true, recurses := true, plainKeys := false, apart := false }
def FnExactChangedSaid : Prop := fnExactChangedRow.holds Tryz.pinned (OpenSpec.ofChange fnExactChangedSpec)

/-- ITS FALSE NEIGHBOUR: 'it returns false'. Refute it at one input. -/
def fnExactChangedWrong : ChangeSpec := { name := "fnExactChanged", fn := fun _ => fun
  | [d1, d2, d3] => { results := [.lit (.bool false)], args := [d1, d2, d3] }
  | _ => none }
def FnExactChangedWrongFalsely : Prop := fnExactChangedRow.holds Tryz.pinned (OpenSpec.ofChange fnExactChangedWrong)

/-- 'laws.FnExactStoreRight': WHATEVER THE INPUT: true; the input reads as it did. -/
def fnExactStoreRightSpec : ChangeSpec := { name := "fnExactStoreRight", fn := fun _ => fun
  | [d] => { results := [.lit (.bool true)], args := [d] }
  | _ => none }
def fnExactStoreRightRow : OpenClaim := { program := "ytjpbmpjddbekgaagreat", sum := "840e895f0e4dc2eca7db814f5af05d0784e2e0766382b92dffba39bf68a2080b", func := "loop.example/g00381/laws.FnExactStoreRight", spec := "fnExactStoreRight", unfollowed := true, recurses := true, plainKeys := false, apart := false }
def FnExactStoreRightSaid : Prop := fnExactStoreRightRow.holds Tryz.pinned (OpenSpec.ofChange fnExactStoreRightSpec)

/-- ITS FALSE NEIGHBOUR: 'it returns false'. Refute it at one input. -/
def fnExactStoreRightWrong : ChangeSpec := { name := "fnExactStoreRight", fn := fun _ => fun
  | [d] => { results := [.lit (.bool false)], args := [d] }
  | _ => none }
def FnExactStoreRightWrongFalsely : Prop := fnExactStoreRightRow.holds Tryz.pinned (OpenSpec.ofChange fnExactStoreRightWrong)

/- THE SECOND FORM. 'bulk': how many values and letters a reading holds, each counted each time it is reached (what is shared counts as often as it is met; a slice's spare places count too). A statement '..UptoSaid' is the law's where the arguments, and the package variables that the reading takes, are together of bulk at most 1048576: NARROWER than '..Said'. Prove '..Said' where nothing that the law and all that it calls make is longer than what came in: it says more and counts as full. Else prove '..UptoSaid'. A law counts once. -/
mutual
def uptoBulk {H : Type} : DataW H → Nat
  | .lit (.string bytes) => bytes.length + 1
  | .lit _ => 1
  | .nil => 1
  | .ptr d => uptoBulk d + 1
  | .slice elems spare => uptoBulkAll elems + uptoBulkAll spare + 1
  | .agg parts => uptoBulkAll parts + 1
  | .iface _ d => uptoBulk d + 1
  | .map entries => uptoBulkEntries entries + 1
  | .held _ => 1
def uptoBulkAll {H : Type} : List (DataW H) → Nat
  | [] => 0
  | d :: r => uptoBulk d + uptoBulkAll r
def uptoBulkEntries {H : Type} : List (Lit × DataW H) → Nat
  | [] => 0
  | x :: r => uptoBulkEntry x + uptoBulkEntries r
def uptoBulkEntry {H : Type} : Lit × DataW H → Nat
  | (.string bytes, d) => bytes.length + uptoBulk d + 1
  | (_, d) => uptoBulk d + 1
 end
def uptoSmall : (H : Type) → List (DataW H) → Bool := fun _ ds => decide (uptoBulkAll ds ≤ 1048576)
def OpenSpec.upto (s : _root_.Go.ChangeSpec) : _root_.Go.OpenSpec := { _root_.Go.OpenSpec.ofChange s with cond := some uptoSmall }

/-- 'laws.FnExactWorldRight', WHERE WHAT IT READS IS OF BULK AT MOST 1048576: true; the input reads as it did. -/
def fnExactWorldRightUptoRow : OpenClaim := { program := "ytjpbmpjddbekgaagreat", sum := "840e895f0e4dc2eca7db814f5af05d0784e2e0766382b92dffba39bf68a2080b", func := "loop.example/g00381/laws.FnExactWorldRight", spec := "fnExactWorldRight", unfollowed := true, recurses := true, plainKeys := false, apart := false, narrowed := true }
def FnExactWorldRightUptoSaid : Prop := fnExactWorldRightUptoRow.holds Tryz.pinned (OpenSpec.upto fnExactWorldRightSpec)

/-- 'laws.FnExactSnapOf', WHERE WHAT IT READS IS OF BULK AT MOST 1048576: true; the input reads as it did. -/
def fnExactSnapOfUptoRow : OpenClaim := { program := "ytjpbmpjddbekgaagreat", sum := "840e895f0e4dc2eca7db814f5af05d0784e2e0766382b92dffba39bf68a2080b", func := "loop.example/g00381/laws.FnExactSnapOf", spec := "fnExactSnapOf", unfollowed := true, recurses := true, plainKeys := false, apart := false, narrowed := true }
def FnExactSnapOfUptoSaid : Prop := fnExactSnapOfUptoRow.holds Tryz.pinned (OpenSpec.upto fnExactSnapOfSpec)

/-- 'laws.FnExactSetOf', WHERE WHAT IT READS IS OF BULK AT MOST 1048576: true; the input reads as it did. -/
def fnExactSetOfUptoRow : OpenClaim := { program := "ytjpbmpjddbekgaagreat", sum := "840e895f0e4dc2eca7db814f5af05d0784e2e0766382b92dffba39bf68a2080b", func := "loop.example/g00381/laws.FnExactSetOf", spec := "fnExactSetOf", unfollowed := true, recurses := true, plainKeys := false, apart := false, narrowed := true }
def FnExactSetOfUptoSaid : Prop := fnExactSetOfUptoRow.holds Tryz.pinned (OpenSpec.upto fnExactSetOfSpec)

/-- 'laws.FnExactNextsOf', WHERE WHAT IT READS IS OF BULK AT MOST 1048576: true; the input reads as it did. -/
def fnExactNextsOfUptoRow : OpenClaim := { program := "ytjpbmpjddbekgaagreat", sum := "840e895f0e4dc2eca7db814f5af05d0784e2e0766382b92dffba39bf68a2080b", func := "loop.example/g00381/laws.FnExactNextsOf", spec := "fnExactNextsOf", unfollowed := true, recurses := true, plainKeys := false, apart := false, narrowed := true }
def FnExactNextsOfUptoSaid : Prop := fnExactNextsOfUptoRow.holds Tryz.pinned (OpenSpec.upto fnExactNextsOfSpec)

/-- 'laws.FnExactUsed', WHERE WHAT IT READS IS OF BULK AT MOST 1048576: true; the input reads as it did. -/
def fnExactUsedUptoRow : OpenClaim := { program := "ytjpbmpjddbekgaagreat", sum := "840e895f0e4dc2eca7db814f5af05d0784e2e0766382b92dffba39bf68a2080b", func := "loop.example/g00381/laws.FnExactUsed", spec := "fnExactUsed", unfollowed := true, recurses := true, plainKeys := false, apart := false, narrowed := true }
def FnExactUsedUptoSaid : Prop := fnExactUsedUptoRow.holds Tryz.pinned (OpenSpec.upto fnExactUsedSpec)

/-- 'laws.FnExactAlone', WHERE WHAT IT READS IS OF BULK AT MOST 1048576: true; the input reads as it did. -/
def fnExactAloneUptoRow : OpenClaim := { program := "ytjpbmpjddbekgaagreat", sum := "840e895f0e4dc2eca7db814f5af05d0784e2e0766382b92dffba39bf68a2080b", func := "loop.example/g00381/laws.FnExactAlone", spec := "fnExactAlone", unfollowed := true, recurses := true, plainKeys := false, apart := false, narrowed := true }
def FnExactAloneUptoSaid : Prop := fnExactAloneUptoRow.holds Tryz.pinned (OpenSpec.upto fnExactAloneSpec)

/-- 'laws.FnExactWritten', WHERE WHAT IT READS IS OF BULK AT MOST 1048576: true; the input reads as it did. -/
def fnExactWrittenUptoRow : OpenClaim := { program := "ytjpbmpjddbekgaagreat", sum := "840e895f0e4dc2eca7db814f5af05d0784e2e0766382b92dffba39bf68a2080b", func := "loop.example/g00381/laws.FnExactWritten", spec := "fnExactWritten", unfollowed := true, recurses := true, plainKeys := false, apart := false, narrowed := true }
def FnExactWrittenUptoSaid : Prop := fnExactWrittenUptoRow.holds Tryz.pinned (OpenSpec.upto fnExactWrittenSpec)

/-- 'laws.FnExactPages', WHERE WHAT IT READS IS OF BULK AT MOST 1048576: true; the input reads as it did. -/
def fnExactPagesUptoRow : OpenClaim := { program := "ytjpbmpjddbekgaagreat", sum := "840e895f0e4dc2eca7db814f5af05d0784e2e0766382b92dffba39bf68a2080b", func := "loop.example/g00381/laws.FnExactPages", spec := "fnExactPages", unfollowed := true, recurses := true, plainKeys := false, apart := false, narrowed := true }
def FnExactPagesUptoSaid : Prop := fnExactPagesUptoRow.holds Tryz.pinned (OpenSpec.upto fnExactPagesSpec)

/-- 'laws.FnExactChanged', WHERE WHAT IT READS IS OF BULK AT MOST 1048576: true; the input reads as it did. -/
def fnExactChangedUptoRow : OpenClaim := { program := "ytjpbmpjddbekgaagreat", sum := "840e895f0e4dc2eca7db814f5af05d0784e2e0766382b92dffba39bf68a2080b", func := "loop.example/g00381/laws.FnExactChanged", spec := "fnExactChanged", unfollowed := true, recurses := true, plainKeys := false, apart := false, narrowed := true }
def FnExactChangedUptoSaid : Prop := fnExactChangedUptoRow.holds Tryz.pinned (OpenSpec.upto fnExactChangedSpec)

/-- 'laws.FnExactStoreRight', WHERE WHAT IT READS IS OF BULK AT MOST 1048576: true; the input reads as it did. -/
def fnExactStoreRightUptoRow : OpenClaim := { program := "ytjpbmpjddbekgaagreat", sum := "840e895f0e4dc2eca7db814f5af05d0784e2e0766382b92dffba39bf68a2080b", func := "loop.example/g00381/laws.FnExactStoreRight", spec := "fnExactStoreRight", unfollowed := true, recurses := true, plainKeys := false, apart := false, narrowed := true }
def FnExactStoreRightUptoSaid : Prop := fnExactStoreRightUptoRow.holds Tryz.pinned (OpenSpec.upto fnExactStoreRightSpec)

end Rows
end Go.Proofs.YtjpbmpjddbekgaaGreat
