/- What impl.TreeRead answers. -/
import Derived.Test.YtiijnmpenljniadTreeU
import Derived.Test.YtiijnmpenljniadTreeO
import Derived.Test.YtiijnmpenljniadTreeF
namespace Go.Proofs.Ytiijnmpenljniad
open Go.RowKit
set_option linter.unusedVariables false

theorem fieldMet (f : Nat → Value) (w : World) : (Instr.field 96 (.agg (wayF f)) 2).run Try.prog w = .ok (.agg #[f 34, f 35, f 36, f 37, f 38, f 39]) w := by kernel_rfl
theorem indexMet (a b c d e g : Value) (w : World) : (Instr.index 94 (.agg #[a, b, c, d, e, g]) (.int .i64 2)).run Try.prog w = .ok (.agg #[e, g]) w := by kernel_rfl

set_option maxRecDepth 20000 in
set_option maxHeartbeats 1000000 in
theorem implTreeRead_any (v0 v1 : Value) (lo hi : Nat) (p : PoolD) (xs xb page : Int) (w : World) (h1 : PoolAt w lo hi v0 v1 p) :
    Calls Try.prog 33 #[.agg #[v0, v1], .agg #[.int .i64 xs, .int .i64 xb], .int .i64 page] w fun e w' => (∃ d, e = .returned (.string d) ∧ ReadIs p xs xb page d) ∧ Below w.heap.size w w' := by
  have Hp := hideT h1
  obtain ⟨a, c, a', c', rfl, rfl⟩ : ∃ a c a' c', v0 = .slice a p.n c ∧ v1 = .slice a' p.hn c' := by
    obtain ⟨⟨_, a, c, h1, _⟩, ⟨_, a', c', h3, _⟩⟩ := h1
    exact ⟨a, c, a', c', h1, h3⟩
  clear h1
  have hst := start22 w (.slice a p.n c) (.slice a' p.hn c') (.int .i64 xs) (.int .i64 xb) 33 35
  go_enter Try.func33, Try.ntmps33
  go_wp2_with fail
  generalize (w.alloc (.cells #[.slice a p.n c, .slice a' p.hn c'] 33)).alloc (.cells #[.int .i64 xs, .int .i64 xb] 35) = W at hst ⊢
  obtain ⟨hB, hX, hba, hz⟩ := hst
  refine (implTreeRight_any _ _ lo hi p xs xb W (Hp.out.below hba)).mono ?_
  rintro e w1 ⟨⟨t, rfl, ht⟩, hb1⟩
  have HB1 := hideT (hB.below hb1)
  have HX1 := hideT (hX.below hb1)
  have hB1 := below_next hba hb1
  have hz1 : w.heap.size + 2 ≤ w1.heap.size := by have := hb1.size; omega
  clear hB hX hba hb1 hz
  by_cases hR : TreeR p xs xb
  · have HR := hideT hR
    obtain rfl : t = true := ht.2 hR
    clear ht hR
    obtain ⟨⟨x0, x1⟩, ⟨x2, x3⟩⟩ := HB1.out
    obtain ⟨⟨y0, y1⟩, ⟨y2, y3⟩⟩ := HX1.out
    by_cases hN : PageNo page
    · have HNo := hideT hN
      obtain ⟨n, rfl⟩ := Int.eq_ofNat_of_zero_le hN.1
      have hn64 : n < 64 := by have := hN.2; omega
      clear hN
      go_wp2_with (first | (go_at_call 73; refine (pageNumber_any _ _).mono ?_; rintro e w2 ⟨⟨t2, rfl, ht2⟩, rfl⟩; obtain rfl : t2 = true := ht2.2 HNo.out; clear ht2) | fail)
      go_wp2_with fail
      refine (wayTo_any _ lo hi p xs xb n _ (Hp.out.below hB1).1 HR.out hn64).mono ?_
      rintro e w3 ⟨o, rfl, _, hb3⟩
      have HB3 := hideT (HB1.out.below hb3)
      have hB3 := below_next hB1 hb3
      have hz3 := hb3.size
      clear hb3 x0 x1 x2 x3 y0 y1 y2 y3 HB1 HX1
      have hfd := fun w => fieldMet (wayV p xs xb n 2 3 o) w
      have hix : ∀ w, (Instr.index 94 (.agg #[wayV p xs xb n 2 3 o 34, wayV p xs xb n 2 3 o 35, wayV p xs xb n 2 3 o 36, wayV p xs xb n 2 3 o 37, wayV p xs xb n 2 3 o 38, wayV p xs xb n 2 3 o 39]) (.int .i64 2)).run Try.prog w = .ok (.agg #[.int .i64 (pageS p xs xb n), .int .i64 (pageB p xs xb n)]) w := fun w => indexMet _ _ _ _ _ _ w
      have ha3 := below_alloc w3 (.cells #[.int .i64 (pageS p xs xb n), .int .i64 (pageB p xs xb n)] 35)
      have HX4 := hideT (Box2.new w3 (.int .i64 (pageS p xs xb n)) (.int .i64 (pageB p xs xb n)) 35)
      have HB4 := hideT (HB3.out.below ha3)
      have hB4 := below_next hB3 ha3
      clear ha3 HB3
      have Hpg := hideT (page_ok HR.out hn64)
      go_upto_region 4 with fail
      clear hfd hix
      generalize w3.alloc (.cells #[.int .i64 (pageS p xs xb n), .int .i64 (pageB p xs xb n)] 35) = w4 at HX4 HB4 hB4 ⊢
      generalize w3.heap.size = X at HX4 hz3 ⊢
      obtain ⟨⟨x0, x1⟩, ⟨x2, x3⟩⟩ := HB4.out
      obtain ⟨⟨y0, y1⟩, ⟨y2, y3⟩⟩ := HX4.out
      by_cases hnl : Nil (pageS p xs xb n) (pageB p xs xb n)
      · have HNl := hideT hnl
        rw [hnl.1] at y0
        rw [hnl.2] at y2
        clear hnl
        have hmk := make_zeros 90 5 (.int .u8 0) 1 1 (by kernel_rfl) infoU8T rfl 16 (by omega) (by omega)
        have hmk' : ∀ w, (Instr.makeSlice 90 (.int .i64 16) (.int .i64 16)).run Try.prog w = .ok (.slice (some ⟨w.heap.size, 0, none⟩) 16 16) (w.alloc (.cells (zeros #[.int .u8 0] 16) 5)) := hmk
        clear hmk
        have hcv := zconv w4
        have hB6 := below_next hB4 (below_alloc w4 (.cells (zeros #[.int .u8 0] 16) 5))
        go_wp2
        go_ret
        exact ⟨⟨_, rfl, ⟨fun _ => ⟨fun _ => rfl, fun h => absurd HNl.out h⟩, fun h => absurd ⟨HR.out, HNo.out⟩ h⟩⟩, hB6⟩
      · have HNl := hideT hnl
        have hPg : PageAt p (pageS p xs xb n) (pageB p xs xb n) := Hpg.out.resolve_left HNl.out
        obtain ⟨m, hm⟩ := Int.eq_ofNat_of_zero_le hPg.1.2.1
        have hmp : m < p.n := by have := hPg.1.2.2.1; omega
        have hmp' : (m : Int) < (p.n : Int) := by omega
        obtain ⟨b, off, ka, kc, rfl, hsm⟩ := (Hp.out.1.below hB4).cells hmp
        obtain ⟨q0, q1, q2, _⟩ := hsm
        have hnb := not_nil_bool hnl
        rw [hm] at y0 hnb
        have Hm := hideT hm
        clear hm hPg hnl
        rcases hnb with e0 | ⟨e0, e1⟩
        all_goals
          go_wp2
          go_ret
          refine ⟨⟨_, rfl, ⟨fun _ => ⟨fun h => absurd h HNl.out, fun _ => ?_⟩, fun h => absurd ⟨HR.out, HNo.out⟩ h⟩⟩, hB4⟩
          show (p.s m).data = (p.s (pageS p xs xb n).toNat).data
          rw [Hm.out]
          rfl
    · have HNo := hideT hN
      clear hN
      go_wp2_with (first | (go_at_call 73; refine (pageNumber_any _ _).mono ?_; rintro e w2 ⟨⟨t2, rfl, ht2⟩, rfl⟩; obtain rfl : t2 = false := bool_no ht2 HNo.out; clear ht2) | fail)
      go_wp2
      go_ret
      exact ⟨⟨_, rfl, ⟨fun h => absurd h.2 HNo.out, fun _ => rfl⟩⟩, hB1⟩
  · have HR := hideT hR
    obtain rfl : t = false := bool_no ht hR
    clear ht hR
    go_wp2
    go_ret
    exact ⟨⟨_, rfl, ⟨fun h => absurd h.1 HR.out, fun _ => rfl⟩⟩, hB1⟩

end Go.Proofs.Ytiijnmpenljniad
