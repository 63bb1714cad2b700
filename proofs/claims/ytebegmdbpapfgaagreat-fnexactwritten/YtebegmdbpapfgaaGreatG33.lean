/- What impl.Written answers. -/
import Derived.Test.YtebegmdbpapfgaaGreatG32
namespace Go.Proofs.YtebegmdbpapfgaaGreat
open Go.RowKit Go.Maps
set_option linter.unusedVariables false

theorem fieldRootS (v : Value) (s : SnapD) (w : World) : (Instr.field 74 (snapV v s) 5).run Tryz.prog w = .ok (.agg #[.int .i64 s.rs, .int .i64 s.rb]) w := by kernel_rfl
theorem fieldPrevS (v : Value) (s : SnapD) (w : World) : (Instr.field 74 (snapV v s) 3).run Tryz.prog w = .ok (.int .i64 s.prev) w := by kernel_rfl
theorem buildOne (a b : Int) (w : World) : (Instr.buildSlice 55 1 #[(0, .agg #[.int .i64 a, .int .i64 b])]).run Tryz.prog w = .ok (.slice (some ⟨w.heap.size, 0, none⟩) 1 1) (w.alloc (.cells #[.int .i64 a, .int .i64 b] 58)) := by kernel_rfl
theorem one_at (a b : Int) (w : World) : PtrsAt (w.alloc (.cells #[.int .i64 a, .int .i64 b] 58)) 0 (w.heap.size + 1) (.slice (some ⟨w.heap.size, 0, none⟩) 1 1) 1 (fun _ => a) (fun _ => b) := by
  have h := Box2.new w (.int .i64 a) (.int .i64 b) 58
  refine ⟨by unfold maxLen; omega, _, _, rfl, Nat.le_refl _, fun _ => ⟨_, _, rfl, Nat.zero_le _, by omega, fun i hi => ?_⟩⟩
  obtain rfl : i = 0 := by omega
  exact ⟨h.1.1, h.2.1⟩

theorem aheadOf_prev_wf {W : WorldD} (h : PrevsWf W) (x : Int) : (Lit.int .i64 (aheadOf W x).prev).wf = true := by
  by_cases hx : ∃ k, SnapNo W x k
  · obtain ⟨k, hk⟩ := hx
    rw [aheadOf_at hk]
    have := h k (by unfold memN; have := hk.1; omega)
    rw [memOf_snap hk.1] at this
    exact this
  · have e : aheadOf W x = zeroSnap := by unfold aheadOf; rw [dif_neg hx]
    rw [e]
    rfl

set_option maxRecDepth 20000 in
set_option maxHeartbeats 1000000 in
theorem implWritten_any (v0 v1 v2 v3 : Value) (lo hi : Nat) (W : WorldD) (x : Int) (w : World) (h : WorldAt w lo hi v0 v1 v2 v3 W) (hh : hi ≤ w.heap.size) (hwf : PrevsWf W) (hx : (Lit.int .i64 x).wf = true) : Calls Tryz.prog 16 #[worldV v0 v1 v2 v3 W, .int .i64 x] w fun e w' => e = .returned (.int .i64 (writtenAns W x)) ∧ Below w.heap.size w w' := by
  have Hp := hideW h
  have Hwf := hideW hwf
  have Hx := hideW hx
  clear h hwf hx
  have hbw := below_alloc w (.cells #[v0, v1, .int .i64 W.time, .int .i64 W.next, v2, v3] 38)
  have HX := hideW (Box6.new w v0 v1 (.int .i64 W.time) (.int .i64 W.next) v2 v3 38)
  obtain ⟨⟨x0, -⟩, ⟨x1, -⟩, ⟨x2, -⟩, ⟨x3, -⟩, ⟨x4, -⟩, ⟨x5, -⟩⟩ := HX.out
  go_enter Tryz.func16, Tryz.ntmps16
  go_wp2_with fail
  generalize w.alloc (.cells #[v0, v1, .int .i64 W.time, .int .i64 W.next, v2, v3] 38) = W0 at HX hbw x0 x1 x2 x3 x4 x5 ⊢
  refine (implWorldRight_any v0 v1 v2 v3 lo hi W W0 (Hp.out.below hbw) Hwf.out).mono ?_
  rintro e w1 ⟨⟨t, rfl, ht⟩, hb1⟩
  have Ht := hideW (ht.trans (world_iff W))
  have hB1 := below_next hbw hb1
  have HX1 := hideW (HX.out.below hb1)
  clear x0 x1 x2 x3 x4 x5 hb1 hbw HX ht
  cases t
  · have HA := hideW (show writtenAns W x = 0 from writtenAns_no (fun h => absurd (Ht.out.2 h) (by simp)))
    go_wp2
    go_ret
    exact ⟨by rw [HA.out]; rfl, hB1⟩
  · have HW := hideW (Ht.out.1 rfl)
    have HI := hideW ((world_iff W).2 HW.out).names
    have HT := hideW (show ∀ y, TreeOk W.pool (aheadOf W y).rs (aheadOf W y).rb from old_ok HW.out.snaps)
    obtain ⟨⟨x0, -⟩, ⟨x1, -⟩, ⟨x2, -⟩, ⟨x3, -⟩, ⟨x4, -⟩, ⟨x5, -⟩⟩ := HX1.out
    go_wp2_with fail
    refine (aheadIn_any v0 v1 v2 v3 lo hi W w1 (Hp.out.below hB1) HW.out.names.2.2.2.1 HI.out.idsWf).mono ?_
    rintro e w2 ⟨A, rfl, hA, hb2⟩
    have HA := hideW hA
    have hB2 := below_next hB1 hb2
    have HX2 := hideW (HX1.out.below hb2)
    have HQ := hideW (show (Lit.int .i64 (aheadOf W x).prev).wf = true from aheadOf_prev_wf Hwf.out x)
    clear x0 x1 x2 x3 x4 x5 hA hb2 hB1 HX1
    have hf1 := fieldRootS
    have hf2 := fieldPrevS
    have hbo := buildOne
    obtain ⟨⟨x0, -⟩, ⟨x1, -⟩, ⟨x2, -⟩, ⟨x3, -⟩, ⟨x4, -⟩, ⟨x5, -⟩⟩ := HX2.out
    go_wp2_with fail
    go_region_held3 (fun w' => w'.cell? ⟨w.heap.size, 0, none⟩ = some v0 ∧ w'.cell? ⟨w.heap.size, 1, none⟩ = some v1 ∧ w'.cell? ⟨w.heap.size, 2, none⟩ = some (.int .i64 W.time) ∧ w'.cell? ⟨w.heap.size, 3, none⟩ = some (.int .i64 W.next) ∧ w'.cell? ⟨w.heap.size, 4, none⟩ = some v2 ∧ w'.cell? ⟨w.heap.size, 5, none⟩ = some v3) (go_keep)
      (first
        | (go_at_call 84; refine (ahead_any lo hi W A x _ (HA.out.below (Below.refl _ _).drew) HI.out.dist Hx.out HW.out.names.2.2.2.1).mono ?_; rintro e w3 ⟨a3, c3, rfl, -, hb3⟩; have hb3' := below_undrew hb3; obtain ⟨⟨z0, -⟩, ⟨z1, -⟩, ⟨z2, -⟩, ⟨z3, -⟩, ⟨z4, -⟩, ⟨z5, -⟩⟩ := HX2.out.below hb3')
        | (go_at_call 84; refine (ahead_any lo hi W A x _ (HA.out.below hb3') HI.out.dist Hx.out HW.out.names.2.2.2.1).mono ?_; rintro e w4 ⟨a4, c4, rfl, -, hb4⟩; have hb4' := below_next hb3' hb4; obtain ⟨⟨k0, -⟩, ⟨k1, -⟩, ⟨k2, -⟩, ⟨k3, -⟩, ⟨k4, -⟩, ⟨k5, -⟩⟩ := HX2.out.below hb4')
        | (go_at_call 84; refine (ahead_any lo hi W A (aheadOf W x).prev _ (HA.out.below hb4') HI.out.dist HQ.out HW.out.names.2.2.2.1).mono ?_; rintro e w5 ⟨a5, c5, rfl, -, hb5⟩; have hb5' := below_next hb4' hb5; obtain ⟨⟨l0, -⟩, ⟨l1, -⟩, ⟨l2, -⟩, ⟨l3, -⟩, ⟨l4, -⟩, ⟨l5, -⟩⟩ := HX2.out.below hb5')
        | (go_at_call 35
           have ha5 := below_alloc w5 (.cells #[.int .i64 (aheadOf W (aheadOf W x).prev).rs, .int .i64 (aheadOf W (aheadOf W x).prev).rb] 58)
           have hb5a := below_next hb5' ha5
           have HW5 := (Hp.out.below hB2).below hb5a
           have hz5 : hi ≤ (w5.alloc (.cells #[.int .i64 (aheadOf W (aheadOf W x).prev).rs, .int .i64 (aheadOf W (aheadOf W x).prev).rb] 58)).heap.size := (by have := hb5a.size; have := hB2.size; omega)
           refine (countOwn_any v0 v1 v2 v3 lo hi W _ _ _ (SomeHas W (fun _ => (aheadOf W (aheadOf W x).prev).rs) (fun _ => (aheadOf W (aheadOf W x).prev).rb) 1) _ HW5 hz5 HW.out.right (HT.out x) (fun w' hb => whoHas_any v0 v1 v2 v3 lo hi W _ 1 1 (fun _ => (aheadOf W (aheadOf W x).prev).rs) (fun _ => (aheadOf W (aheadOf W x).prev).rb) 0 (w5.heap.size + 1) w' (HW5.below hb) (Nat.le_trans hz5 hb.size) HW.out.right ((one_at _ _ w5).below hb) (by omega) (fun _ _ => HT.out _))).mono ?_
           rintro e w6 ⟨rfl, hb6⟩
           have hb6' := below_next hb5a hb6
           obtain ⟨⟨m0, -⟩, ⟨m1, -⟩, ⟨m2, -⟩, ⟨m3, -⟩, ⟨m4, -⟩, ⟨m5, -⟩⟩ := HX2.out.below hb6'))
    go_wp2
    go_ret
    refine ⟨?_, below_next hB2 hb6'⟩
    rw [writtenAns_yes HW.out, cntNot_iff (P := OldHas W x) (Q := SomeHas W (fun _ => (aheadOf W (aheadOf W x).prev).rs) (fun _ => (aheadOf W (aheadOf W x).prev).rb) 1) (fun y => ⟨fun h => ⟨0, by omega, h⟩, fun ⟨_, _, h⟩ => h⟩)]
    rfl

end Go.Proofs.YtebegmdbpapfgaaGreat
