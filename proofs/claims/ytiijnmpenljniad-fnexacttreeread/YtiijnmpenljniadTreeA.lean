/- What spec.l02Node and spec.l02Page answer. -/
import Derived.Test.YtiijnmpenljniadTreeMath
import Derived.Test.YtiijnmpenljniadSpecRight3
namespace Go.Proofs.Ytiijnmpenljniad
open Go.RowKit
set_option linter.unusedVariables false

theorem hideT {P : Prop} (h : P) : Hid P := h

/-- The two variables with which the calls begin. -/
theorem start22 (w : World) (a0 a1 x0 x1 : Value) (t1 t2 : TypeId) :
    Box2 ((w.alloc (.cells #[a0, a1] t1)).alloc (.cells #[x0, x1] t2)) w.heap.size a0 a1 ∧ Box2 ((w.alloc (.cells #[a0, a1] t1)).alloc (.cells #[x0, x1] t2)) (w.heap.size + 1) x0 x1 ∧
    Below w.heap.size w ((w.alloc (.cells #[a0, a1] t1)).alloc (.cells #[x0, x1] t2)) ∧ ((w.alloc (.cells #[a0, a1] t1)).alloc (.cells #[x0, x1] t2)).heap.size = w.heap.size + 2 := by
  refine ⟨(Box2.new w a0 a1 t1).below (below_alloc _ _), ?_, below_next (below_alloc _ _) (below_alloc _ _), by simp⟩
  have := Box2.new (w.alloc (.cells #[a0, a1] t1)) x0 x1 t2
  rw [World.size_alloc] at this
  exact this

set_option maxRecDepth 20000 in
set_option maxHeartbeats 1000000 in
theorem l02Node_any (v0 v1 : Value) (lo hi : Nat) (p : PoolD) (xs xb : Int) (w : World) (h1 : PoolAt w lo hi v0 v1 p) :
    Calls Try.prog 89 #[.agg #[v0, v1], .agg #[.int .i64 xs, .int .i64 xb]] w fun e w' => BoolIs (NodeAt p xs xb) e ∧ Below w.heap.size w w' := by
  have Hp := hideT h1
  obtain ⟨a, c, a', c', rfl, rfl⟩ : ∃ a c a' c', v0 = .slice a p.n c ∧ v1 = .slice a' p.hn c' := by
    obtain ⟨⟨_, a, c, h1, _⟩, ⟨_, a', c', h3, _⟩⟩ := h1
    exact ⟨a, c, a', c', h1, h3⟩
  clear h1
  have hst := start22 w (.slice a p.n c) (.slice a' p.hn c') (.int .i64 xs) (.int .i64 xb) 33 35
  go_enter Try.func89, Try.ntmps89
  go_wp2_with fail
  generalize (w.alloc (.cells #[.slice a p.n c, .slice a' p.hn c'] 33)).alloc (.cells #[.int .i64 xs, .int .i64 xb] 35) = W at hst ⊢
  obtain ⟨hB, hX, hba, hz⟩ := hst
  refine (l01Points_any _ _ lo hi p xs xb _ (Hp.out.below hba)).mono ?_
  rintro e w1 ⟨⟨t, rfl, ht⟩, hb1⟩
  have HB1 := hideT (hB.below hb1)
  have HX1 := hideT (hX.below hb1)
  have hB1 := below_next hba hb1
  clear hB hX hba hb1
  by_cases hPt : Points p xs xb
  · obtain rfl : t = true := ht.2 hPt
    have HPt := hideT hPt
    obtain ⟨k, rfl⟩ := Int.eq_ofNat_of_zero_le hPt.2.1
    have hk : k < p.n := by have := hPt.2.2.1; omega
    have hk' : (k : Int) < (p.n : Int) := by omega
    clear ht hPt
    obtain ⟨b, off, ka, kc, rfl, hs⟩ := (Hp.out.1.below hB1).cells hk
    obtain ⟨q0, q1, q2, _⟩ := hs
    obtain ⟨⟨x0, x1⟩, ⟨x2, x3⟩⟩ := HB1.out
    obtain ⟨⟨y0, y1⟩, ⟨y2, y3⟩⟩ := HX1.out
    by_cases hkn : 0 < (p.s k).kn
    · have HK := hideT hkn
      have f1 : (0 : Int) < ((p.s k).kn : Int) := by first | omega | simp [hkn]
      clear hkn
      go_wp2_with fail
      refine (l01Has_any _ p.hn lo hi p.h _ _ (Hp.out.2.below hB1)).mono ?_
      rintro e w2 ⟨⟨t2, rfl, ht2⟩, rfl⟩
      have HT := hideT ht2
      clear ht2 x0 x1 x2 x3 y0 y1 y2 y3 q0 q1 q2
      go_wp2
      go_ret
      refine ⟨?_, hB1⟩
      by_cases hh : Has p.hn p.h (k : Int)
      · obtain rfl : t2 = true := HT.out.2 hh
        exact BoolIs.no fun h => h.2.2 hh
      · obtain rfl : t2 = false := bool_no HT.out hh
        refine BoolIs.yes ⟨HPt.out, ?_, hh⟩
        rw [Int.toNat_natCast]
        exact HK.out
    · have HK := hideT hkn
      have f1 : ¬ (0 : Int) < ((p.s k).kn : Int) := by first | omega | (simp; omega)
      clear hkn
      go_wp2
      go_ret
      refine ⟨BoolIs.no fun h => ?_, hB1⟩
      have := h.2.1
      rw [Int.toNat_natCast] at this
      exact HK.out this
  · obtain rfl : t = false := bool_no ht hPt
    have HPt := hideT hPt
    clear ht hPt
    go_wp2
    go_ret
    exact ⟨BoolIs.no fun h => HPt.out h.1, hB1⟩

set_option maxRecDepth 20000 in
set_option maxHeartbeats 1000000 in
theorem l02Page_any (v0 v1 : Value) (lo hi : Nat) (p : PoolD) (xs xb : Int) (w : World) (h1 : PoolAt w lo hi v0 v1 p) :
    Calls Try.prog 90 #[.agg #[v0, v1], .agg #[.int .i64 xs, .int .i64 xb]] w fun e w' => BoolIs (PageAt p xs xb) e ∧ Below w.heap.size w w' := by
  have Hp := hideT h1
  obtain ⟨a, c, a', c', rfl, rfl⟩ : ∃ a c a' c', v0 = .slice a p.n c ∧ v1 = .slice a' p.hn c' := by
    obtain ⟨⟨_, a, c, h1, _⟩, ⟨_, a', c', h3, _⟩⟩ := h1
    exact ⟨a, c, a', c', h1, h3⟩
  clear h1
  have hst := start22 w (.slice a p.n c) (.slice a' p.hn c') (.int .i64 xs) (.int .i64 xb) 33 35
  go_enter Try.func90, Try.ntmps90
  go_wp2_with fail
  generalize (w.alloc (.cells #[.slice a p.n c, .slice a' p.hn c'] 33)).alloc (.cells #[.int .i64 xs, .int .i64 xb] 35) = W at hst ⊢
  obtain ⟨hB, hX, hba, hz⟩ := hst
  refine (l01Points_any _ _ lo hi p xs xb _ (Hp.out.below hba)).mono ?_
  rintro e w1 ⟨⟨t, rfl, ht⟩, hb1⟩
  have HB1 := hideT (hB.below hb1)
  have HX1 := hideT (hX.below hb1)
  have hB1 := below_next hba hb1
  clear hB hX hba hb1
  by_cases hPt : Points p xs xb
  · obtain rfl : t = true := ht.2 hPt
    have HPt := hideT hPt
    obtain ⟨k, rfl⟩ := Int.eq_ofNat_of_zero_le hPt.2.1
    have hk : k < p.n := by have := hPt.2.2.1; omega
    have hk' : (k : Int) < (p.n : Int) := by omega
    clear ht hPt
    obtain ⟨b, off, ka, kc, rfl, hs⟩ := (Hp.out.1.below hB1).cells hk
    obtain ⟨q0, q1, q2, _⟩ := hs
    obtain ⟨⟨x0, x1⟩, ⟨x2, x3⟩⟩ := HB1.out
    obtain ⟨⟨y0, y1⟩, ⟨y2, y3⟩⟩ := HX1.out
    by_cases hkn : (p.s k).kn = 0
    · have HK := hideT hkn
      have f1 : (((p.s k).kn : Int) == 0) = true := by first | omega | simp [hkn]
      clear hkn
      go_wp2_with fail
      refine (l01Has_any _ p.hn lo hi p.h _ _ (Hp.out.2.below hB1)).mono ?_
      rintro e w2 ⟨⟨t2, rfl, ht2⟩, rfl⟩
      have HT := hideT ht2
      clear ht2 x0 x1 x2 x3 y0 y1 y2 y3 q0 q1 q2
      go_wp2
      go_ret
      refine ⟨?_, hB1⟩
      by_cases hh : Has p.hn p.h (k : Int)
      · obtain rfl : t2 = true := HT.out.2 hh
        exact BoolIs.no fun h => h.2.2 hh
      · obtain rfl : t2 = false := bool_no HT.out hh
        refine BoolIs.yes ⟨HPt.out, ?_, hh⟩
        rw [Int.toNat_natCast]
        exact HK.out
    · have HK := hideT hkn
      have f1 : (((p.s k).kn : Int) == 0) = false := by first | omega | (simp; omega)
      clear hkn
      go_wp2
      go_ret
      refine ⟨BoolIs.no fun h => ?_, hB1⟩
      have := h.2.1
      rw [Int.toNat_natCast] at this
      exact HK.out this
  · obtain rfl : t = false := bool_no ht hPt
    have HPt := hideT hPt
    clear ht hPt
    go_wp2
    go_ret
    exact ⟨BoolIs.no fun h => HPt.out h.1, hB1⟩

end Go.Proofs.Ytiijnmpenljniad
