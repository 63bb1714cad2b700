/- Variables that hold own pools; how many marks there are. For the walks of laws. -/
import Derived.Test.YtckamdnichangaeOutBase
import Derived.Test.YtckamdnichangaeTo
namespace Go.Proofs.Ytckamdnichangae
open Go.RowKit
set_option linter.unusedVariables false

theorem cnt_size (f : Nat → SlotD) : ∀ n, cnt f 1 n ≤ 1 + 2 * (n : Int) + 2 * (slotsN f n : Int)
  | 0 => by show (1 : Int) ≤ _; omega
  | n + 1 => by
    have := cnt_size f n
    show cnt f 1 n + 2 + 2 * ((f n).kn : Int) ≤ 1 + 2 * ((n + 1 : Nat) : Int) + 2 * ((slotsN f n + ((f n).kn + (f n).data.size) : Nat) : Int)
    omega
theorem end_small {p : PoolD} (h : poolN p ≤ 1048576) : endP p 1 ≤ 1000000000000 ∧ 0 ≤ endP p 1 := by
  have h1 := cnt_size p.s p.n
  have h2 := cnt_le p.s 1 (Nat.zero_le p.n)
  have h3 : cnt p.s 1 0 = 1 := rfl
  unfold poolN at h
  unfold endP
  omega

end Go.Proofs.Ytckamdnichangae
