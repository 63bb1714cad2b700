/- What spec.TreeRight answers. -/
import Derived.Test.YtiijnmpenljniadTreeI
namespace Go.Proofs.Ytiijnmpenljniad
open Go.RowKit
set_option linter.unusedVariables false

set_option maxRecDepth 20000 in
set_option maxHeartbeats 1000000 in
theorem specTreeRight_any (v0 v1 : Value) (lo hi : Nat) (p : PoolD) (xs xb : Int) (w : World) (h1 : PoolAt w lo hi v0 v1 p) :
    Calls Try.prog 30 #[.agg #[v0, v1], .agg #[.int .i64 xs, .int .i64 xb]] w fun e w' => BoolIs (TreeR p xs xb) e ∧ Below w.heap.size w w' := by
  have Hp := hideT h1
  obtain ⟨a, c, a', c', rfl, rfl⟩ : ∃ a c a' c', v0 = .slice a p.n c ∧ v1 = .slice a' p.hn c' := by
    obtain ⟨⟨_, a, c, h1, _⟩, ⟨_, a', c', h3, _⟩⟩ := h1
    exact ⟨a, c, a', c', h1, h3⟩
  clear h1
  have hst := start22 w (.slice a p.n c) (.slice a' p.hn c') (.int .i64 xs) (.int .i64 xb) 33 35
  go_enter Try.func30, Try.ntmps30
  go_wp2_with fail
  generalize (w.alloc (.cells #[.slice a p.n c, .slice a' p.hn c'] 33)).alloc (.cells #[.int .i64 xs, .int .i64 xb] 35) = W at hst ⊢
  obtain ⟨hB, hX, hba, hz⟩ := hst
  refine (specPoolRight_any _ _ lo hi p W (Hp.out.below hba)).mono ?_
  rintro e w1 ⟨⟨t, rfl, ht⟩, hb1⟩
  have HB1 := hideT (hB.below hb1)
  have HX1 := hideT (hX.below hb1)
  have hB1 := below_next hba hb1
  clear hB hX hba hb1 hz
  by_cases hR : Right p
  · have HR := hideT hR
    obtain rfl : t = true := ht.2 hR
    clear ht hR
    obtain ⟨⟨x0, x1⟩, ⟨x2, x3⟩⟩ := HB1.out
    obtain ⟨⟨y0, y1⟩, ⟨y2, y3⟩⟩ := HX1.out
    go_wp2_with fail
    refine (l02Right_any _ _ lo hi p xs xb _ (Hp.out.below hB1) HR.out).mono ?_
    rintro e w2 ⟨⟨t, rfl, ht⟩, hb2⟩
    have hB2 := below_next hB1 hb2
    have Ht := hideT ht
    clear hb2 ht
    go_wp2
    go_ret
    exact ⟨⟨_, rfl, Ht.out.trans ⟨fun h => ⟨HR.out, h⟩, fun h => h.2⟩⟩, hB2⟩
  · have HR := hideT hR
    obtain rfl : t = false := bool_no ht hR
    clear ht hR
    go_wp2
    go_ret
    exact ⟨BoolIs.no fun h => HR.out h.1, hB1⟩

end Go.Proofs.Ytiijnmpenljniad
