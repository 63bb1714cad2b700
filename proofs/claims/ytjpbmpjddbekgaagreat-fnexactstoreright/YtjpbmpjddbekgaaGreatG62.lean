/- For every argument that comes in the law FnExactStoreRight returns true: impl.StoreRight answers as spec.StoreRight, and writes nothing of its argument. No condition. -/
import Derived.Test.YtjpbmpjddbekgaaGreatG60
import Derived.Test.YtjpbmpjddbekgaaGreatG61
import Derived.OpenShut
import Derived.ChangeOld
namespace Go.Proofs.YtjpbmpjddbekgaaGreat
open Go.ChangeShapes Go.WideShapes Go.ChangeAt Go.RowKit
set_option linter.unusedVariables false

set_option maxRecDepth 20000 in
set_option maxHeartbeats 4000000 in
theorem fnExactStoreRight_walk (v0 v1 v2 v3 u0 u1 u2 u3 : Value) (S : StoreD) (w : World) (h : StoreAt w 0 w.heap.size v0 v1 v2 v3 u0 u1 u2 u3 S) (hwf : WorldWf S.live) (hwf' : WorldWf S.safe) : Calls Tryz.prog 12 #[storeV v0 v1 v2 v3 u0 u1 u2 u3 S] w fun e w' => e = .returned (.bool true) ∧ Below w.heap.size w w' := by
  have Hp := hideW h
  have Hwf := hideW hwf
  have Hwf' := hideW hwf'
  obtain ⟨s0a, t0a, s0b, t0b, s0c, t0c, s0d, t0d, rfl, rfl, rfl, rfl⟩ := h.live.form
  obtain ⟨s1a, t1a, s1b, t1b, s1c, t1c, s1d, t1d, rfl, rfl, rfl, rfl⟩ := h.safe.form
  clear h hwf hwf'
  have ha := below_alloc w (.cells #[.slice s0a S.live.pool.n t0a, .slice s0b S.live.pool.hn t0b, .int .i64 S.live.time, .int .i64 S.live.next, .slice s0c S.live.sn t0c, .slice s0d S.live.pn t0d, .slice s1a S.safe.pool.n t1a, .slice s1b S.safe.pool.hn t1b, .int .i64 S.safe.time, .int .i64 S.safe.next, .slice s1c S.safe.sn t1c, .slice s1d S.safe.pn t1d] 66)
  have HX0 := hideW (Box12.new w (.slice s0a S.live.pool.n t0a) (.slice s0b S.live.pool.hn t0b) (.int .i64 S.live.time) (.int .i64 S.live.next) (.slice s0c S.live.sn t0c) (.slice s0d S.live.pn t0d) (.slice s1a S.safe.pool.n t1a) (.slice s1b S.safe.pool.hn t1b) (.int .i64 S.safe.time) (.int .i64 S.safe.next) (.slice s1c S.safe.sn t1c) (.slice s1d S.safe.pn t1d) 66)
  obtain ⟨⟨x0, -⟩, ⟨x1, -⟩, ⟨x2, -⟩, ⟨x3, -⟩, ⟨x4, -⟩, ⟨x5, -⟩, ⟨x6, -⟩, ⟨x7, -⟩, ⟨x8, -⟩, ⟨x9, -⟩, ⟨x10, -⟩, ⟨x11, -⟩⟩ := HX0.out
  go_enter Tryz.func12, Tryz.ntmps12
  go_wp2_with fail
  clear x0 x1 x2 x3 x4 x5 x6 x7 x8 x9 x10 x11
  refine (szStore_any _ _ _ _ _ _ _ _ _ _ S _ _ (Hp.out.below ha) (by omega) (by omega)).mono ?_
  rintro e w1 ⟨⟨r, rfl, hr1, hr2, hr3⟩, hb1⟩
  have Hx1 := hideW (HX0.out.below hb1)
  have hB1 := below_next ha hb1
  have Hr := hideW hr1
  clear ha hb1 hr1 HX0
  by_cases hr : r < 0
  · go_wp2
    go_ret
    exact ⟨rfl, hB1⟩
  have HN := hideW (show storeN S ≤ 1048576 by have := Hr.out (by omega); omega)
  obtain ⟨⟨x0, -⟩, ⟨x1, -⟩, ⟨x2, -⟩, ⟨x3, -⟩, ⟨x4, -⟩, ⟨x5, -⟩, ⟨x6, -⟩, ⟨x7, -⟩, ⟨x8, -⟩, ⟨x9, -⟩, ⟨x10, -⟩, ⟨x11, -⟩⟩ := Hx1.out
  go_wp2_with fail
  clear x0 x1 x2 x3 x4 x5 x6 x7 x8 x9 x10 x11
  refine (toStore_any _ _ _ _ _ _ _ _ _ _ S _ (Hp.out.below hB1) HN.out).mono ?_
  rintro e w2 ⟨p0, p1, p2, p3, q0, q1, q2, q3, rfl, ho2, hb2⟩
  have Ho2 := hideW ho2
  obtain ⟨s2a, t2a, s2b, t2b, s2c, t2c, s2d, t2d, rfl, rfl, rfl, rfl⟩ := ho2.at.live.form
  obtain ⟨s3a, t3a, s3b, t3b, s3c, t3c, s3d, t3d, rfl, rfl, rfl, rfl⟩ := ho2.at.safe.form
  have hB2 := below_next hB1 hb2
  have Hx2 := hideW (Hx1.out.below hb2)
  clear ho2 hb2 hB1 Hx1
  go_wp2_with fail
  refine (specStoreRight_any _ _ _ _ _ _ _ _ _ _ S _ Ho2.out.at).mono ?_
  rintro e w3 ⟨⟨t, rfl, ht⟩, hb3⟩
  have Ht := hideW ht
  have hB3 := below_next hB2 hb3
  have Hx3 := hideW (Hx2.out.below hb3)
  clear ht hb3 hB2 Hx2 Ho2
  obtain ⟨⟨x0, -⟩, ⟨x1, -⟩, ⟨x2, -⟩, ⟨x3, -⟩, ⟨x4, -⟩, ⟨x5, -⟩, ⟨x6, -⟩, ⟨x7, -⟩, ⟨x8, -⟩, ⟨x9, -⟩, ⟨x10, -⟩, ⟨x11, -⟩⟩ := Hx3.out
  go_wp2_with fail
  clear x0 x1 x2 x3 x4 x5 x6 x7 x8 x9 x10 x11
  refine (toStore_any _ _ _ _ _ _ _ _ _ _ S _ (Hp.out.below hB3) HN.out).mono ?_
  rintro e w4 ⟨p0, p1, p2, p3, q0, q1, q2, q3, rfl, ho4, hb4⟩
  have Ho4 := hideW ho4
  obtain ⟨s4a, t4a, s4b, t4b, s4c, t4c, s4d, t4d, rfl, rfl, rfl, rfl⟩ := ho4.at.live.form
  obtain ⟨s5a, t5a, s5b, t5b, s5c, t5c, s5d, t5d, rfl, rfl, rfl, rfl⟩ := ho4.at.safe.form
  have hB4 := below_next hB3 hb4
  have Hx4 := hideW (Hx3.out.below hb4)
  clear ho4 hb4 hB3 Hx3
  have ha4 := below_alloc w4 (.cells #[.slice s4a S.live.pool.n t4a, .slice s4b S.live.pool.hn t4b, .int .i64 S.live.time, .int .i64 S.live.next, .slice s4c S.live.sn t4c, .slice s4d S.live.pn t4d, .slice s5a S.safe.pool.n t5a, .slice s5b S.safe.pool.hn t5b, .int .i64 S.safe.time, .int .i64 S.safe.next, .slice s5c S.safe.sn t5c, .slice s5d S.safe.pn t5d] 70)
  have HY4 := hideW (Box12.new w4 (.slice s4a S.live.pool.n t4a) (.slice s4b S.live.pool.hn t4b) (.int .i64 S.live.time) (.int .i64 S.live.next) (.slice s4c S.live.sn t4c) (.slice s4d S.live.pn t4d) (.slice s5a S.safe.pool.n t5a) (.slice s5b S.safe.pool.hn t5b) (.int .i64 S.safe.time) (.int .i64 S.safe.next) (.slice s5c S.safe.sn t5c) (.slice s5d S.safe.pn t5d) 70)
  obtain ⟨⟨y0, -⟩, ⟨y1, -⟩, ⟨y2, -⟩, ⟨y3, -⟩, ⟨y4, -⟩, ⟨y5, -⟩, ⟨y6, -⟩, ⟨y7, -⟩, ⟨y8, -⟩, ⟨y9, -⟩, ⟨y10, -⟩, ⟨y11, -⟩⟩ := HY4.out
  go_wp2_with fail
  clear y0 y1 y2 y3 y4 y5 y6 y7 y8 y9 y10 y11
  refine (implStoreRight_any _ _ _ _ _ _ _ _ _ _ S _ (Ho4.out.at.below ha4) Hwf.out.prevs Hwf'.out.prevs).mono ?_
  rintro e w5 ⟨⟨t', rfl, ht'⟩, hb5⟩
  obtain rfl := BoolIs.same Ht.out ht'
  have hba := below_next ha4 hb5
  have hB5 := below_next hB4 hba
  have Hx5 := hideW (Hx4.out.below hba)
  have Hy5 := hideW (HY4.out.below hb5)
  have Ho5 := hideW (Ho4.out.at.below hba)
  have hne : (t' != t') = false := by simp
  clear ht' hb5 ha4 hba hB4 Hx4 Ho4 Ht HY4
  obtain ⟨⟨x0, -⟩, ⟨x1, -⟩, ⟨x2, -⟩, ⟨x3, -⟩, ⟨x4, -⟩, ⟨x5, -⟩, ⟨x6, -⟩, ⟨x7, -⟩, ⟨x8, -⟩, ⟨x9, -⟩, ⟨x10, -⟩, ⟨x11, -⟩⟩ := Hx5.out
  obtain ⟨⟨y0, -⟩, ⟨y1, -⟩, ⟨y2, -⟩, ⟨y3, -⟩, ⟨y4, -⟩, ⟨y5, -⟩, ⟨y6, -⟩, ⟨y7, -⟩, ⟨y8, -⟩, ⟨y9, -⟩, ⟨y10, -⟩, ⟨y11, -⟩⟩ := Hy5.out
  go_wp2_with fail
  go_region_held3 (fun w' => w'.cell? ⟨w.heap.size, 0, none⟩ = some (.slice s0a S.live.pool.n t0a) ∧ w'.cell? ⟨w.heap.size, 1, none⟩ = some (.slice s0b S.live.pool.hn t0b) ∧ w'.cell? ⟨w.heap.size, 2, none⟩ = some (.int .i64 S.live.time) ∧ w'.cell? ⟨w.heap.size, 3, none⟩ = some (.int .i64 S.live.next) ∧ w'.cell? ⟨w.heap.size, 4, none⟩ = some (.slice s0c S.live.sn t0c) ∧ w'.cell? ⟨w.heap.size, 5, none⟩ = some (.slice s0d S.live.pn t0d) ∧ w'.cell? ⟨w.heap.size, 6, none⟩ = some (.slice s1a S.safe.pool.n t1a) ∧ w'.cell? ⟨w.heap.size, 7, none⟩ = some (.slice s1b S.safe.pool.hn t1b) ∧ w'.cell? ⟨w.heap.size, 8, none⟩ = some (.int .i64 S.safe.time) ∧ w'.cell? ⟨w.heap.size, 9, none⟩ = some (.int .i64 S.safe.next) ∧ w'.cell? ⟨w.heap.size, 10, none⟩ = some (.slice s1c S.safe.sn t1c) ∧ w'.cell? ⟨w.heap.size, 11, none⟩ = some (.slice s1d S.safe.pn t1d) ∧ w'.cell? ⟨w4.heap.size, 0, none⟩ = some (.slice s4a S.live.pool.n t4a) ∧ w'.cell? ⟨w4.heap.size, 1, none⟩ = some (.slice s4b S.live.pool.hn t4b) ∧ w'.cell? ⟨w4.heap.size, 2, none⟩ = some (.int .i64 S.live.time) ∧ w'.cell? ⟨w4.heap.size, 3, none⟩ = some (.int .i64 S.live.next) ∧ w'.cell? ⟨w4.heap.size, 4, none⟩ = some (.slice s4c S.live.sn t4c) ∧ w'.cell? ⟨w4.heap.size, 5, none⟩ = some (.slice s4d S.live.pn t4d) ∧ w'.cell? ⟨w4.heap.size, 6, none⟩ = some (.slice s5a S.safe.pool.n t5a) ∧ w'.cell? ⟨w4.heap.size, 7, none⟩ = some (.slice s5b S.safe.pool.hn t5b) ∧ w'.cell? ⟨w4.heap.size, 8, none⟩ = some (.int .i64 S.safe.time) ∧ w'.cell? ⟨w4.heap.size, 9, none⟩ = some (.int .i64 S.safe.next) ∧ w'.cell? ⟨w4.heap.size, 10, none⟩ = some (.slice s5c S.safe.sn t5c) ∧ w'.cell? ⟨w4.heap.size, 11, none⟩ = some (.slice s5d S.safe.pn t5d)) (go_keep)
    (first
      | (go_at_call 46; refine (toStore_any _ _ _ _ _ _ _ _ 0 w.heap.size S _ ?_ HN.out).mono ?_; (exact Hp.out.below hB5.drew); rintro e w6 ⟨p0, p1, p2, p3, q0, q1, q2, q3, rfl, ho6, hb6⟩; obtain ⟨s6a, t6a, s6b, t6b, s6c, t6c, s6d, t6d, rfl, rfl, rfl, rfl⟩ := ho6.at.live.form; obtain ⟨s7a, t7a, s7b, t7b, s7c, t7c, s7d, t7d, rfl, rfl, rfl, rfl⟩ := ho6.at.safe.form; have hb6' := below_undrew hb6; obtain ⟨⟨m0, -⟩, ⟨m1, -⟩, ⟨m2, -⟩, ⟨m3, -⟩, ⟨m4, -⟩, ⟨m5, -⟩, ⟨m6, -⟩, ⟨m7, -⟩, ⟨m8, -⟩, ⟨m9, -⟩, ⟨m10, -⟩, ⟨m11, -⟩⟩ := Hx5.out.below hb6'; obtain ⟨⟨n0, -⟩, ⟨n1, -⟩, ⟨n2, -⟩, ⟨n3, -⟩, ⟨n4, -⟩, ⟨n5, -⟩, ⟨n6, -⟩, ⟨n7, -⟩, ⟨n8, -⟩, ⟨n9, -⟩, ⟨n10, -⟩, ⟨n11, -⟩⟩ := Hy5.out.below hb6')
      | (go_at_call 48; refine (eqStore_same _ _ _ _ _ _ _ _ _ _ _ _ _ _ _ _ _ _ _ _ S _ (Ho5.out.below hb6') ho6.at).mono ?_; rintro e w7 ⟨rfl, hb7⟩; have hb7' := below_next hb6' hb7; obtain ⟨⟨g0, -⟩, ⟨g1, -⟩, ⟨g2, -⟩, ⟨g3, -⟩, ⟨g4, -⟩, ⟨g5, -⟩, ⟨g6, -⟩, ⟨g7, -⟩, ⟨g8, -⟩, ⟨g9, -⟩, ⟨g10, -⟩, ⟨g11, -⟩⟩ := Hx5.out.below hb7'; obtain ⟨⟨h0, -⟩, ⟨h1, -⟩, ⟨h2, -⟩, ⟨h3, -⟩, ⟨h4, -⟩, ⟨h5, -⟩, ⟨h6, -⟩, ⟨h7, -⟩, ⟨h8, -⟩, ⟨h9, -⟩, ⟨h10, -⟩, ⟨h11, -⟩⟩ := Hy5.out.below hb7'))
  have hB7 := below_next hB5 hb7'
  go_wp2
  go_ret
  exact ⟨rfl, hB7⟩

theorem own : ownKnob Tryz.prog.godebug = none := by kernel_rfl
theorem laidOut : laidOutB Tryz.prog = true := by kernel_rfl

set_option maxRecDepth 100000 in
theorem fnExactStoreRight_lifted (os : Os) (started : os.Started) (H : Type) (enc : TypeId × Value → H) :
    ReturnsInHanded {} Tryz.checked os 12 .any (Rows.fnExactStoreRightSpec.pre6 enc Tryz.prog Tryz.f12 Rows.fnExactStoreRightRow.domain false) (Rows.fnExactStoreRightSpec.post enc Tryz.prog Tryz.f12 false true false false) := by
  refine returnsInHanded_of_change (C := Tryz.checked) own started (by kernel_rfl) Tryz.func12
    (ChangeSpec.witness6 (enc := enc) (C := Tryz.checked) false ⟨#[], #[.agg #[.slice none 0 0, .slice none 0 0, .int .i64 0, .int .i64 0, .slice none 0 0, .slice none 0 0, .slice none 0 0, .slice none 0 0, .int .i64 0, .int .i64 0, .slice none 0 0, .slice none 0 0]], []⟩ 8 (by kernel_rfl) (by kernel_rfl) (by kernel_rfl) (by kernel_rfl)) ?_
  intro W base args ds gs before hval0 hW hcnd _
  have hval : ∀ (j : Nat) t v, Tryz.f12.params[j]? = some t → args[j]? = some v → Value.okWide Tryz.prog W .any base t v := hval0
  have hW' := hW
  obtain ⟨p, q, hA0, hV, rfl, hfz, hnd⟩ := hW
  have hA : DataW.TrodAll enc Tryz.prog W 0 (fun _ => true) true Tryz.f12.params.toList args.toList ds p := hA0
  rw [Tryz.params12] at hA hval
  obtain ⟨v0, vs0, d0, ds0, p0, q0, hargs0, rfl, rfl, h0, r0⟩ := trodAll_cons hA
  obtain ⟨rfl, rfl, rfl⟩ := trodAll_nil r0
  obtain rfl : args = #[v0] := by cases args; simp_all
  obtain ⟨rfl, rfl⟩ := trodVars_none hV
  have k0 := h0
  have lt0 : ∀ x ∈ p0, x.block < W.heap.size := by obtain ⟨m, hm⟩ := k0; exact DataW.trod_lt m _ _ _ hm
  obtain ⟨s0a, s0b, s0c, s0d, s0e, s0f, s0g, s0h, wd0, rfl, hp0, hwf0, hwg0⟩ := open_store (hval 0 66 v0 rfl rfl) h0
  clear hA0 hval0
  refine (fnExactStoreRight_walk s0a s0b s0c s0d s0e s0f s0g s0h wd0 W hp0 hwf0 hwg0).mono fun e W' ⟨he, bel⟩ => ?_
  subst he
  exact ⟨_, rfl, _, _, _, [], _, [], hW', trodAll_mk1 (shut_bool Tryz.underlying4 _), (trodAll_cons_mk (Below.trod laidOut (by kernel_rfl) (of_decide_eq_true (by kernel_rfl)) k0 bel lt0) trodAll_mk0), rfl, bel.frame _, fun h => by cases h⟩

theorem fnExactStoreRight_holds : Rows.FnExactStoreRightSaid :=
  OpenClaim.holds_of_wide 12 Tryz.f12 rfl rfl rfl rfl rfl rfl rfl ⟨rfl, rfl, rfl, rfl, rfl⟩ rfl rfl rfl rfl rfl (by kernel_rfl) Tryz.func12 (by kernel_rfl)
    (of_decide_eq_true (by kernel_rfl)) (by unfold Func.isWrapper; first | (rw [if_pos (by decide +kernel)]; kernel_rfl) | (rw [if_neg (by decide +kernel)]; exact ⟨rfl, rfl⟩))
    (fun os started H enc _ => fnExactStoreRight_lifted os started H enc)

end Go.Proofs.YtjpbmpjddbekgaaGreat
