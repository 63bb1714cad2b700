/- The marks of a slot's Kids, laid and looked for. -/
import Derived.Test.YteffacfdbhdppadHeld
namespace Go.Proofs.Yteffacfdbhdppad
open Go.RowKit
set_option linter.unusedVariables false

set_option maxHeartbeats 400000 in
theorem markSlot_any (v0 kv v2 : Value) (kb : Nat) (s : SlotD) (k0 : Int) (w : World) (h0 : v0 = .int .i64 s.birth) (h1 : PtrsOwn w kb kv s.kn s.ks s.kb) (h2 : v2 = .string s.data) (hk0 : 0 ≤ k0) (hk1 : k0 + 2 * s.kn ≤ 1000000000000) :
    Calls Try.prog 17 #[.agg #[v0, kv, v2], .int .i64 k0] w fun e w' => e = .returned (.int .i64 (k0 + 2 * s.kn)) ∧ PtrsOwn w' kb kv s.kn (fun i => k0 + 2 * i) (fun i => k0 + 2 * i + 1) ∧ Turned (fun k => 0 < s.kn ∧ k = kb) w w' := by
  subst h0 h2
  have q1 := h1
  obtain ⟨_, a, c, rfl, _⟩ := h1
  go_enter Try.func17, Try.ntmps17
  go_wp2_with fail
  have ha := below_alloc w (.cells #[.int .i64 s.birth, .slice a s.kn c, .string s.data] 42)
  refine (markPtrS_any kb _ s.kn s.ks s.kb _ _ (q1.below ha) hk0 hk1).mono ?_
  rintro e w1 ⟨rfl, hp, ht⟩
  have Hp : Hid (PtrsOwn w1 kb (.slice a s.kn c) s.kn (fun i => k0 + 2 * i) (fun i => k0 + 2 * i + 1)) := hp
  have htt : Turned (fun k => 0 < s.kn ∧ k = kb) w w1 := (Turned.of_below ha).trans ht
  clear hp ht ha
  go_wp2
  go_ret
  exact ⟨rfl, Hp.out, htt⟩

end Go.Proofs.Yteffacfdbhdppad
