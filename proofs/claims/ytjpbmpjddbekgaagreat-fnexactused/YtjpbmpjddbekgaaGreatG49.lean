/- For every argument that comes in the law FnExactUsed returns true: impl.Used answers as spec.Used, and writes nothing of its argument. No condition. -/
import Derived.Test.YtjpbmpjddbekgaaGreatG48
import Derived.Test.YtjpbmpjddbekgaaGreatG27
import Derived.Test.YtjpbmpjddbekgaaGreatG28
import Derived.OpenShut
import Derived.ChangeOld
import Derived.ChangeMaps5
namespace Go.Proofs.YtjpbmpjddbekgaaGreat
open Go.ChangeShapes Go.WideShapes Go.ChangeAt Go.RowKit
open Go.ChangeMaps (open_string)
set_option linter.unusedVariables false

set_option maxRecDepth 20000 in
set_option maxHeartbeats 1000000 in
theorem fnExactUsed_walk (v0 v1 v2 v3 : Value) (W : WorldD) (x : ByteArray) (w : World) (h : WorldAt w 0 w.heap.size v0 v1 v2 v3 W) (hwf : WorldWf W) (hx : x.size ≤ maxLen) : Calls Tryz.prog 7 #[worldV v0 v1 v2 v3 W, .string x] w fun e w' => e = .returned (.bool true) ∧ Below w.heap.size w w' := by
  have Hp := hideW h
  have Hwf := hideW hwf
  obtain ⟨a0, c0, a1, c1, a2, c2, a3, c3, rfl, rfl, rfl, rfl⟩ := h.form
  clear h hwf
  unfold maxLen at hx
  by_cases bigx : 1048576 < x.size
  · have bigx' : (1048576 : Int) < (x.size : Int) := by omega
    have ha := below_alloc w (.cells #[.slice a0 W.pool.n c0, .slice a1 W.pool.hn c1, .int .i64 W.time, .int .i64 W.next, .slice a2 W.sn c2, .slice a3 W.pn c3] 29)
    go_enter Tryz.func7, Tryz.ntmps7
    go_wp2
    go_ret
    exact ⟨rfl, ha⟩
  have bigx' : ¬ (1048576 : Int) < (x.size : Int) := by omega
  go_enter Tryz.func7, Tryz.ntmps7
  go_wp2_with fail
  have ha := below_alloc w (.cells #[.slice a0 W.pool.n c0, .slice a1 W.pool.hn c1, .int .i64 W.time, .int .i64 W.next, .slice a2 W.sn c2, .slice a3 W.pn c3] 29)
  have HX0 := hideW (Box6.new w (.slice a0 W.pool.n c0) (.slice a1 W.pool.hn c1) (.int .i64 W.time) (.int .i64 W.next) (.slice a2 W.sn c2) (.slice a3 W.pn c3) 29)
  refine (szWorld_any _ _ _ _ _ _ W _ _ (Hp.out.below ha) (by omega) (by omega)).mono ?_
  rintro e w1 ⟨⟨r, rfl, hr1, hr2, hr3⟩, hb1⟩
  have Hx1 := hideW (HX0.out.below hb1)
  have hB1 := below_next ha hb1
  have Hr := hideW hr1
  clear ha hb1 hr1 HX0
  by_cases hr : r < 0
  · go_wp2
    go_ret
    exact ⟨rfl, hB1⟩
  · have HN := hideW (show worldN W ≤ 1048576 by have := Hr.out (by omega); omega)
    -- the specification of a copy
    obtain ⟨⟨x0, x0'⟩, ⟨x1, x1'⟩, ⟨x2, x2'⟩, ⟨x3, x3'⟩, ⟨x4, x4'⟩, ⟨x5, x5'⟩⟩ := Hx1.out
    go_wp2_with fail
    refine (toWorld_any _ _ _ _ _ _ W _ (Hp.out.below hB1) HN.out).mono ?_
    rintro e w2 ⟨u0, u1, u2, u3, rfl, ho2, hb2⟩
    obtain ⟨b0, d0, b1, d1, b2, d2, b3, d3, rfl, rfl, rfl, rfl⟩ := ho2.form
    have Ho2 := hideW ho2
    have hB2 := below_next hB1 hb2
    have Hx2 := hideW (Hx1.out.below hb2)
    clear ho2 hb2 x0 x1 x2 x3 x4 x5 x0' x1' x2' x3' x4' x5' hB1 Hx1
    go_wp2_with fail
    refine (specUsed_any _ _ _ _ _ _ W x _ Ho2.out.at hx).mono ?_
    rintro e w3 ⟨rfl, hb3⟩
    have hB3 := below_next hB2 hb3
    have Hx3 := hideW (Hx2.out.below hb3)
    clear hb3 hB2 Hx2 Ho2
    -- the program of another one
    obtain ⟨⟨x0, x0'⟩, ⟨x1, x1'⟩, ⟨x2, x2'⟩, ⟨x3, x3'⟩, ⟨x4, x4'⟩, ⟨x5, x5'⟩⟩ := Hx3.out
    go_wp2_with fail
    refine (toWorld_any _ _ _ _ _ _ W _ (Hp.out.below hB3) HN.out).mono ?_
    rintro e w4 ⟨u0, u1, u2, u3, rfl, ho4, hb4⟩
    obtain ⟨e0, g0, e1, g1, e2, g2, e3, g3, rfl, rfl, rfl, rfl⟩ := ho4.form
    have Ho4 := hideW ho4
    have hB4 := below_next hB3 hb4
    have Hx4 := hideW (Hx3.out.below hb4)
    clear ho4 hb4 x0 x1 x2 x3 x4 x5 x0' x1' x2' x3' x4' x5' hB3 Hx3
    go_wp2_with fail
    have ha4 := below_alloc w4 (.cells #[.slice e0 W.pool.n g0, .slice e1 W.pool.hn g1, .int .i64 W.time, .int .i64 W.next, .slice e2 W.sn g2, .slice e3 W.pn g3] 38)
    have HY4 := hideW (Box6.new w4 (.slice e0 W.pool.n g0) (.slice e1 W.pool.hn g1) (.int .i64 W.time) (.int .i64 W.next) (.slice e2 W.sn g2) (.slice e3 W.pn g3) 38)
    refine (implUsed_any _ _ _ _ _ _ W x _ (Ho4.out.at.below ha4) (by rw [World.size_alloc]; omega) Hwf.out.prevs hx).mono ?_
    rintro e w5 ⟨rfl, hb5⟩
    have hba := below_next ha4 hb5
    have hB5 := below_next hB4 hba
    have Hx5 := hideW (Hx4.out.below hba)
    have Hy5 := hideW (HY4.out.below hb5)
    have Ho5 := hideW (Ho4.out.at.below hba)
    have hne : (((usedAns W x : Nat) : Int) != ((usedAns W x : Nat) : Int)) = false := by simp
    clear hb5 ha4 hba hB4 Hx4 Ho4 HY4
    -- the argument is as it was
    obtain ⟨⟨x0, x0'⟩, ⟨x1, x1'⟩, ⟨x2, x2'⟩, ⟨x3, x3'⟩, ⟨x4, x4'⟩, ⟨x5, x5'⟩⟩ := Hx5.out
    obtain ⟨⟨y0, y0'⟩, ⟨y1, y1'⟩, ⟨y2, y2'⟩, ⟨y3, y3'⟩, ⟨y4, y4'⟩, ⟨y5, y5'⟩⟩ := Hy5.out
    go_wp2_with fail
    go_region_held3 (fun w' => w'.cell? ⟨w.heap.size, 0, none⟩ = some (.slice a0 W.pool.n c0) ∧ w'.cell? ⟨w.heap.size, 1, none⟩ = some (.slice a1 W.pool.hn c1) ∧ w'.cell? ⟨w.heap.size, 2, none⟩ = some (.int .i64 W.time) ∧ w'.cell? ⟨w.heap.size, 3, none⟩ = some (.int .i64 W.next) ∧ w'.cell? ⟨w.heap.size, 4, none⟩ = some (.slice a2 W.sn c2) ∧ w'.cell? ⟨w.heap.size, 5, none⟩ = some (.slice a3 W.pn c3) ∧ w'.cell? ⟨w4.heap.size, 0, none⟩ = some (.slice e0 W.pool.n g0) ∧ w'.cell? ⟨w4.heap.size, 1, none⟩ = some (.slice e1 W.pool.hn g1) ∧ w'.cell? ⟨w4.heap.size, 2, none⟩ = some (.int .i64 W.time) ∧ w'.cell? ⟨w4.heap.size, 3, none⟩ = some (.int .i64 W.next) ∧ w'.cell? ⟨w4.heap.size, 4, none⟩ = some (.slice e2 W.sn g2) ∧ w'.cell? ⟨w4.heap.size, 5, none⟩ = some (.slice e3 W.pn g3)) (go_keep)
      (first
        | (go_at_call 15; refine (toWorld_any _ _ _ _ 0 w.heap.size W _ ?_ HN.out).mono ?_; (exact Hp.out.below hB5.drew); rintro e w6 ⟨u0, u1, u2, u3, rfl, ho6, hb6⟩; obtain ⟨i0, j0, i1, j1, i2, j2, i3, j3, rfl, rfl, rfl, rfl⟩ := ho6.form; have hb6' := below_undrew hb6; obtain ⟨⟨q0, -⟩, ⟨q1, -⟩, ⟨q2, -⟩, ⟨q3, -⟩, ⟨q4, -⟩, ⟨q5, -⟩⟩ := Hx5.out.below hb6'; obtain ⟨⟨r0, -⟩, ⟨r1, -⟩, ⟨r2, -⟩, ⟨r3, -⟩, ⟨r4, -⟩, ⟨r5, -⟩⟩ := Hy5.out.below hb6')
        | (go_at_call 17; refine (eqWorld_same _ _ _ _ _ _ _ _ _ _ _ _ W _ (Ho5.out.below hb6') ho6.at).mono ?_; rintro e w7 ⟨rfl, hb7⟩; have hb7' := below_next hb6' hb7; obtain ⟨⟨s0, -⟩, ⟨s1, -⟩, ⟨s2, -⟩, ⟨s3, -⟩, ⟨s4, -⟩, ⟨s5, -⟩⟩ := Hx5.out.below hb7'; obtain ⟨⟨t0, -⟩, ⟨t1, -⟩, ⟨t2, -⟩, ⟨t3, -⟩, ⟨t4, -⟩, ⟨t5, -⟩⟩ := Hy5.out.below hb7'))
    have hB7 := below_next hB5 hb7'
    go_wp2
    go_ret
    exact ⟨rfl, hB7⟩

theorem own : ownKnob Tryz.prog.godebug = none := by kernel_rfl
theorem laidOut : laidOutB Tryz.prog = true := by kernel_rfl

set_option maxRecDepth 100000 in
theorem fnExactUsed_lifted (os : Os) (started : os.Started) (H : Type) (enc : TypeId × Value → H) :
    ReturnsInHanded {} Tryz.checked os 7 .any (Rows.fnExactUsedSpec.pre6 enc Tryz.prog Tryz.f7 Rows.fnExactUsedRow.domain false) (Rows.fnExactUsedSpec.post enc Tryz.prog Tryz.f7 false true false false) := by
  refine returnsInHanded_of_change (C := Tryz.checked) own started (by kernel_rfl) Tryz.func7
    (ChangeSpec.witness6 (enc := enc) (C := Tryz.checked) false ⟨#[], #[.agg #[.slice none 0 0, .slice none 0 0, .int .i64 0, .int .i64 0, .slice none 0 0, .slice none 0 0], .string ⟨#[]⟩], []⟩ 8 (by kernel_rfl) (by kernel_rfl) (by kernel_rfl) (by kernel_rfl)) ?_
  intro W base args ds gs before hval0 hW hcnd _
  have hval : ∀ (j : Nat) t v, Tryz.f7.params[j]? = some t → args[j]? = some v → Value.okWide Tryz.prog W .any base t v := hval0
  have hW' := hW
  obtain ⟨p, q, hA0, hV, rfl, hfz, hnd⟩ := hW
  have hA : DataW.TrodAll enc Tryz.prog W 0 (fun _ => true) true Tryz.f7.params.toList args.toList ds p := hA0
  rw [Tryz.params7] at hA hval
  obtain ⟨v0, vs0, d0, ds0, p0, q0, hargs0, rfl, rfl, h0, r0⟩ := trodAll_cons hA
  obtain ⟨v1, vs1, d1, ds1, p1, q1, hargs1, rfl, rfl, h1, r1⟩ := trodAll_cons r0
  obtain ⟨rfl, rfl, rfl⟩ := trodAll_nil r1
  obtain rfl : args = #[v0, v1] := by cases args; simp_all
  obtain ⟨rfl, rfl⟩ := trodVars_none hV
  have k0 := h0
  have k1 := h1
  have lt0 : ∀ x ∈ p0, x.block < W.heap.size := by obtain ⟨m, hm⟩ := k0; exact DataW.trod_lt m _ _ _ hm
  have lt1 : ∀ x ∈ p1, x.block < W.heap.size := by obtain ⟨m, hm⟩ := k1; exact DataW.trod_lt m _ _ _ hm
  obtain ⟨s0a, s0b, s0c, s0d, wd0, rfl, hp0, hwf0⟩ := open_world (hval 0 29 v0 rfl rfl) h0
  obtain ⟨st1, rfl, _, _, hz1⟩ := open_string Tryz.underlying9 (hval 1 9 v1 rfl rfl) h1
  clear hA0 hval0
  refine (fnExactUsed_walk s0a s0b s0c s0d wd0 st1 W hp0 hwf0 hz1).mono fun e W' ⟨he, bel⟩ => ?_
  subst he
  exact ⟨_, rfl, _, _, _, [], _, [], hW', trodAll_mk1 (shut_bool Tryz.underlying4 _), (trodAll_cons_mk (Below.trod laidOut (by kernel_rfl) (of_decide_eq_true (by kernel_rfl)) k0 bel lt0) (trodAll_cons_mk (Below.trod laidOut (by kernel_rfl) (of_decide_eq_true (by kernel_rfl)) k1 bel lt1) trodAll_mk0)), rfl, bel.frame _, fun h => by cases h⟩

theorem fnExactUsed_holds : Rows.FnExactUsedSaid :=
  OpenClaim.holds_of_wide 7 Tryz.f7 rfl rfl rfl rfl rfl rfl rfl ⟨rfl, rfl, rfl, rfl, rfl⟩ rfl rfl rfl rfl rfl (by kernel_rfl) Tryz.func7 (by kernel_rfl)
    (of_decide_eq_true (by kernel_rfl)) (by unfold Func.isWrapper; first | (rw [if_pos (by decide +kernel)]; kernel_rfl) | (rw [if_neg (by decide +kernel)]; exact ⟨rfl, rfl⟩))
    (fun os started H enc _ => fnExactUsed_lifted os started H enc)

end Go.Proofs.YtjpbmpjddbekgaaGreat
