/- What spec.TreeRead answers. -/
import Derived.Test.YtiijnmpenljniadTreeN
import Derived.Test.YtiijnmpenljniadTreeJ
import Derived.Laws.BytesArg
namespace Go.Proofs.Ytiijnmpenljniad
open Go.RowKit
set_option linter.unusedVariables false

theorem infoU8T : (Try.prog.info? 5).map (fun i => (i.zero, i.size, i.bytes)) = some (some (.int .u8 0), 1, 1) := by kernel_rfl
/-- Sixteen bytes that are 0. -/
def zero16 : ByteArray := strOfNums [0, 0, 0, 0, 0, 0, 0, 0, 0, 0, 0, 0, 0, 0, 0, 0]
theorem zconv (w1 : World) : (convert 90 9 (.slice (some ⟨w1.heap.size, 0, none⟩) 16 16)).run Try.prog (w1.alloc (.cells (zeros #[.int .u8 0] 16) 5)) = .ok (.string zero16) (w1.alloc (.cells (zeros #[.int .u8 0] 16) 5)) :=
  run_convert_bytes_arg (P := Try.prog) _ 90 5 (by kernel_rfl) (by kernel_rfl) w1.heap.size 0 16 16 [0, 0, 0, 0, 0, 0, 0, 0, 0, 0, 0, 0, 0, 0, 0, 0] rfl (fun i hi => by
    have := (new_cell w1 #[.int .u8 0] 16 i 0 5 hi (by simp)).1
    rw [Nat.zero_add]
    have e : ([0, 0, 0, 0, 0, 0, 0, 0, 0, 0, 0, 0, 0, 0, 0, 0] : List Int).getD i 0 = 0 := by
      rcases i with _ | _ | _ | _ | _ | _ | _ | _ | _ | _ | _ | _ | _ | _ | _ | _ | k
      all_goals first | rfl | omega
    rw [e]
    simpa using this) 9 (by kernel_rfl)

/-- What TreeRead answers. -/
def ReadIs (p : PoolD) (xs xb page : Int) (d : ByteArray) : Prop :=
  (TreeR p xs xb ∧ PageNo page → (Nil (pageS p xs xb page.toNat) (pageB p xs xb page.toNat) → d = zero16) ∧ (¬ Nil (pageS p xs xb page.toNat) (pageB p xs xb page.toNat) → d = (p.s (pageS p xs xb page.toNat).toNat).data)) ∧ (¬ (TreeR p xs xb ∧ PageNo page) → d = ⟨#[]⟩)
theorem readIs_one {p : PoolD} {xs xb page : Int} {d e : ByteArray} (h : ReadIs p xs xb page d) (h' : ReadIs p xs xb page e) : d = e := by
  by_cases hx : TreeR p xs xb ∧ PageNo page
  · by_cases hn : Nil (pageS p xs xb page.toNat) (pageB p xs xb page.toNat)
    · rw [(h.1 hx).1 hn, (h'.1 hx).1 hn]
    · rw [(h.1 hx).2 hn, (h'.1 hx).2 hn]
  · rw [h.2 hx, h'.2 hx]

set_option maxRecDepth 20000 in
set_option maxHeartbeats 1000000 in
theorem specTreeRead_any (v0 v1 : Value) (lo hi : Nat) (p : PoolD) (xs xb page : Int) (w : World) (h1 : PoolAt w lo hi v0 v1 p) :
    Calls Try.prog 32 #[.agg #[v0, v1], .agg #[.int .i64 xs, .int .i64 xb], .int .i64 page] w fun e w' => (∃ d, e = .returned (.string d) ∧ ReadIs p xs xb page d) ∧ Below w.heap.size w w' := by
  have Hp := hideT h1
  obtain ⟨a, c, a', c', rfl, rfl⟩ : ∃ a c a' c', v0 = .slice a p.n c ∧ v1 = .slice a' p.hn c' := by
    obtain ⟨⟨_, a, c, h1, _⟩, ⟨_, a', c', h3, _⟩⟩ := h1
    exact ⟨a, c, a', c', h1, h3⟩
  clear h1
  have hst := start22 w (.slice a p.n c) (.slice a' p.hn c') (.int .i64 xs) (.int .i64 xb) 33 35
  go_enter Try.func32, Try.ntmps32
  go_wp2_with fail
  generalize (w.alloc (.cells #[.slice a p.n c, .slice a' p.hn c'] 33)).alloc (.cells #[.int .i64 xs, .int .i64 xb] 35) = W at hst ⊢
  obtain ⟨hB, hX, hba, hz⟩ := hst
  refine (specTreeRight_any _ _ lo hi p xs xb W (Hp.out.below hba)).mono ?_
  rintro e w1 ⟨⟨t, rfl, ht⟩, hb1⟩
  have HB1 := hideT (hB.below hb1)
  have HX1 := hideT (hX.below hb1)
  have hB1 := below_next hba hb1
  have hz1 : w.heap.size + 2 ≤ w1.heap.size := by have := hb1.size; omega
  clear hB hX hba hb1 hz
  by_cases hR : TreeR p xs xb
  · have HR := hideT hR
    obtain rfl : t = true := ht.2 hR
    clear ht hR
    obtain ⟨⟨x0, x1⟩, ⟨x2, x3⟩⟩ := HB1.out
    obtain ⟨⟨y0, y1⟩, ⟨y2, y3⟩⟩ := HX1.out
    by_cases hN : PageNo page
    · have HNo := hideT hN
      obtain ⟨n, rfl⟩ := Int.eq_ofNat_of_zero_le hN.1
      have hn64 : n < 64 := by have := hN.2; omega
      clear hN
      go_wp2_with (first | (go_at_call 70; refine (l02Number_any _ _).mono ?_; rintro e w2 ⟨⟨t2, rfl, ht2⟩, rfl⟩; obtain rfl : t2 = true := ht2.2 HNo.out; clear ht2) | fail)
      go_wp2_with fail
      refine (l02Path_any _ _ lo hi p xs xb n _ (Hp.out.below hB1) HR.out hn64).mono ?_
      rintro e w3 ⟨rfl, hb3⟩
      have HB3 := hideT (HB1.out.below hb3)
      have hB3 := below_next hB1 hb3
      have hz3 := hb3.size
      clear hb3 x0 x1 x2 x3 y0 y1 y2 y3 HB1 HX1
      have ha3 := below_alloc w3 (.cells #[.int .i64 (pageS p xs xb n), .int .i64 (pageB p xs xb n)] 35)
      have ha4 := below_alloc (w3.alloc (.cells #[.int .i64 (pageS p xs xb n), .int .i64 (pageB p xs xb n)] 35)) (.cells #[.int .i64 (nodeS p xs xb n), .int .i64 (nodeB p xs xb n)] 35)
      have HX4 := hideT ((Box2.new w3 (.int .i64 (pageS p xs xb n)) (.int .i64 (pageB p xs xb n)) 35).below ha4)
      have HB4 := hideT ((HB3.out.below ha3).below ha4)
      have hB4 := below_next (below_next hB3 ha3) ha4
      clear ha3 ha4 HB3
      have Hpg := hideT (page_ok HR.out hn64)
      go_wp2_with fail
      generalize (w3.alloc (.cells #[.int .i64 (pageS p xs xb n), .int .i64 (pageB p xs xb n)] 35)).alloc (.cells #[.int .i64 (nodeS p xs xb n), .int .i64 (nodeB p xs xb n)] 35) = w4 at HX4 HB4 hB4 ⊢
      generalize w3.heap.size = X at HX4 hz3 ⊢
      refine (l01None_any (pageS p xs xb n) (pageB p xs xb n) w4).mono ?_
      rintro e w5 ⟨⟨t5, rfl, ht5⟩, hb5⟩
      have HB5 := hideT (HB4.out.below hb5)
      have HX5 := hideT (HX4.out.below hb5)
      have hB5 := below_next hB4 hb5
      clear hb5 hB4 hB3 HB4 HX4
      by_cases hnl : Nil (pageS p xs xb n) (pageB p xs xb n)
      · have HNl := hideT hnl
        obtain rfl : t5 = true := ht5.2 hnl
        clear ht5 hnl
        have hmk := make_zeros 90 5 (.int .u8 0) 1 1 (by kernel_rfl) infoU8T rfl 16 (by omega) (by omega)
        have hmk' : ∀ w, (Instr.makeSlice 90 (.int .i64 16) (.int .i64 16)).run Try.prog w = .ok (.slice (some ⟨w.heap.size, 0, none⟩) 16 16) (w.alloc (.cells (zeros #[.int .u8 0] 16) 5)) := hmk
        clear hmk
        have hcv := zconv w5
        have hB6 := below_next hB5 (below_alloc w5 (.cells (zeros #[.int .u8 0] 16) 5))
        go_wp2
        go_ret
        exact ⟨⟨_, rfl, ⟨fun _ => ⟨fun _ => rfl, fun h => absurd HNl.out h⟩, fun h => absurd ⟨HR.out, HNo.out⟩ h⟩⟩, hB6⟩
      · have HNl := hideT hnl
        obtain rfl : t5 = false := bool_no ht5 hnl
        clear ht5 hnl
        have hPg : PageAt p (pageS p xs xb n) (pageB p xs xb n) := Hpg.out.resolve_left HNl.out
        obtain ⟨m, hm⟩ := Int.eq_ofNat_of_zero_le hPg.1.2.1
        have hmp : m < p.n := by have := hPg.1.2.2.1; omega
        have hmp' : (m : Int) < (p.n : Int) := by omega
        obtain ⟨b, off, ka, kc, rfl, hsm⟩ := (Hp.out.1.below hB5).cells hmp
        obtain ⟨q0, q1, q2, _⟩ := hsm
        obtain ⟨⟨x0, x1⟩, ⟨x2, x3⟩⟩ := HB5.out
        obtain ⟨⟨y0, y1⟩, ⟨y2, y3⟩⟩ := HX5.out
        rw [hm] at y0
        have Hm := hideT hm
        clear hm hPg
        go_wp2
        go_ret
        refine ⟨⟨_, rfl, ⟨fun _ => ⟨fun h => absurd h HNl.out, fun _ => ?_⟩, fun h => absurd ⟨HR.out, HNo.out⟩ h⟩⟩, hB5⟩
        show (p.s m).data = (p.s (pageS p xs xb n).toNat).data
        rw [Hm.out]
        rfl
    · have HNo := hideT hN
      clear hN
      go_wp2_with (first | (go_at_call 70; refine (l02Number_any _ _).mono ?_; rintro e w2 ⟨⟨t2, rfl, ht2⟩, rfl⟩; obtain rfl : t2 = false := bool_no ht2 HNo.out; clear ht2) | fail)
      go_wp2
      go_ret
      exact ⟨⟨_, rfl, ⟨fun h => absurd h.2 HNo.out, fun _ => rfl⟩⟩, hB1⟩
  · have HR := hideT hR
    obtain rfl : t = false := bool_no ht hR
    clear ht hR
    go_wp2
    go_ret
    exact ⟨⟨_, rfl, ⟨fun h => absurd h.1 HR.out, fun _ => rfl⟩⟩, hB1⟩

end Go.Proofs.Ytiijnmpenljniad
