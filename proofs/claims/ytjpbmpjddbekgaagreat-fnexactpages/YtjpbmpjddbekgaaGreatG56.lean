/- For every argument that comes in the law FnExactPages returns true: impl.Pages answers as spec.Pages, in every number; it writes into no argument, and its answer owns its memory. No condition. -/
import Derived.Test.YtjpbmpjddbekgaaGreatG55
import Derived.Test.YtjpbmpjddbekgaaGreatG42
import Derived.Test.YtjpbmpjddbekgaaGreatG27
import Derived.Test.YtjpbmpjddbekgaaGreatG28
import Derived.Test.YtjpbmpjddbekgaaGreatG32
import Derived.OpenShut
import Derived.ChangeOld
import Derived.ChangeMaps5
namespace Go.Proofs.YtjpbmpjddbekgaaGreat
open Go.ChangeShapes Go.WideShapes Go.ChangeAt Go.RowKit
open Go.ChangeMaps (open_string)
set_option linter.unusedVariables false

set_option maxRecDepth 20000 in
set_option maxHeartbeats 4000000 in
theorem fnExactPages_walk (v0 v1 v2 v3 : Value) (W : WorldD) (x : ByteArray) (w : World) (h : WorldAt w 0 w.heap.size v0 v1 v2 v3 W) (hwf : WorldWf W) (hx : x.size ≤ maxLen) : Calls Tryz.prog 10 #[worldV v0 v1 v2 v3 W, .string x] w fun e w' => e = .returned (.bool true) ∧ Below w.heap.size w w' := by
  have Hp := hideW h
  have SP := hideW (show ∀ u0 u1 u2 u3 lo hi w', hi ≤ w'.heap.size → WorldAt w' lo hi u0 u1 u2 u3 W → Calls Tryz.prog 37 #[worldV u0 u1 u2 u3 W, .string x] w' (NewInts (pagesAns W x) w') from fun u0 u1 u2 u3 lo hi w' hh hA => specPages_any u0 u1 u2 u3 lo hi W x w' hA hx)
  have IM := hideW (show ∀ u0 u1 u2 u3 lo hi w', hi ≤ w'.heap.size → WorldAt w' lo hi u0 u1 u2 u3 W → Calls Tryz.prog 38 #[worldV u0 u1 u2 u3 W, .string x] w' (NewInts (pagesAns W x) w') from fun u0 u1 u2 u3 lo hi w' hh hA => implPages_any u0 u1 u2 u3 lo hi W x w' hA hh hwf.prevs hx)
  have hSM : (pagesAns W x).length ≤ 100 := Nat.le_trans (pagesAns_len W x) (by omega)
  have HSM := hideW hSM
  generalize pagesAns W x = l at SP IM HSM
  clear hSM
  obtain ⟨s0a, t0a, s0b, t0b, s0c, t0c, s0d, t0d, rfl, rfl, rfl, rfl⟩ := h.form
  clear h hwf
  unfold maxLen at hx
  by_cases bigx : 1048576 < x.size
  · have bigx' : (1048576 : Int) < (x.size : Int) := by omega
    have ha := below_alloc w (.cells #[.slice s0a W.pool.n t0a, .slice s0b W.pool.hn t0b, .int .i64 W.time, .int .i64 W.next, .slice s0c W.sn t0c, .slice s0d W.pn t0d] 29)
    go_enter Tryz.func10, Tryz.ntmps10
    go_wp2
    go_ret
    exact ⟨rfl, ha⟩
  have bigx' : ¬ (1048576 : Int) < (x.size : Int) := by omega
  go_enter Tryz.func10, Tryz.ntmps10
  go_wp2_with fail
  have ha := below_alloc w (.cells #[.slice s0a W.pool.n t0a, .slice s0b W.pool.hn t0b, .int .i64 W.time, .int .i64 W.next, .slice s0c W.sn t0c, .slice s0d W.pn t0d] 29)
  have HX0 := hideW (Box6.new w (.slice s0a W.pool.n t0a) (.slice s0b W.pool.hn t0b) (.int .i64 W.time) (.int .i64 W.next) (.slice s0c W.sn t0c) (.slice s0d W.pn t0d) 29)
  refine (szWorld_any _ _ _ _ _ _ W _ _ (Hp.out.below ha) (by omega) (by omega)).mono ?_
  rintro e w1 ⟨⟨r, rfl, hr1, hr2, hr3⟩, hb1⟩
  have Hx1 := hideW (HX0.out.below hb1)
  have hB1 := below_next ha hb1
  have Hr := hideW hr1
  have Z1 := hideW (show w.heap.size + 1 ≤ w1.heap.size by have := hb1.size; rw [World.size_alloc] at this; exact this)
  clear ha hb1 hr1 HX0
  by_cases hr : r < 0
  · go_wp2
    go_ret
    exact ⟨rfl, hB1⟩
  have HN := hideW (show worldN W ≤ 1048576 by have := Hr.out (by omega); omega)
  have hend := endW_small (W := W) (by have := HN.out; omega)
  generalize hqe : endW W 1 = qe at hend
  have Hqe := hideW hqe
  obtain ⟨hqe1, hqe2⟩ := hend
  have hqe0 : ¬ qe < 0 := by omega
  have hln := HSM.out
  have hge0 : ¬ (1 + (l.length : Int)) < 0 := by omega
  have hgg : ((1 + (l.length : Int)) != (1 + (l.length : Int))) = false := by simp
  clear hqe
  -- the specification's answer
  obtain ⟨⟨x0, -⟩, ⟨x1, -⟩, ⟨x2, -⟩, ⟨x3, -⟩, ⟨x4, -⟩, ⟨x5, -⟩⟩ := Hx1.out
  go_wp2_with fail
  refine (toWorld_any _ _ _ _ _ _ W _ (Hp.out.below hB1) HN.out).mono ?_
  rintro e w2 ⟨u0, u1, u2, u3, rfl, ho2, hb2⟩
  obtain ⟨s2a, t2a, s2b, t2b, s2c, t2c, s2d, t2d, rfl, rfl, rfl, rfl⟩ := ho2.form
  have Ho2 := hideW ho2
  have hB2 := below_next hB1 hb2
  have Hx2 := hideW (Hx1.out.below hb2)
  have Z2 := hideW (show w.heap.size + 1 ≤ w2.heap.size by have := Z1.out; have := hb2.size; omega)
  clear ho2 hb2 x0 x1 x2 x3 x4 x5 hB1 Hx1
  go_wp2_with fail
  refine (SP.out _ _ _ _ _ _ _ (Nat.le_refl _) Ho2.out.at).mono ?_
  rintro e w3 hnew
  obtain ⟨vA, rfl, hA3, hb3⟩ := hnew.ans HSM.out
  obtain ⟨a3, c3, rfl⟩ := hA3.form
  have hB3 := below_next hB2 hb3
  have Hx3 := hideW (Hx2.out.below hb3)
  have HA3 := hideW hA3
  have Z3 := hideW (show w.heap.size + 1 ≤ w2.heap.size ∧ w2.heap.size ≤ w3.heap.size by have := Z2.out; have := hb3.size; omega)
  clear hnew hA3 hb3 hB2 Hx2 Ho2
  -- the program's answer
  obtain ⟨⟨x0, -⟩, ⟨x1, -⟩, ⟨x2, -⟩, ⟨x3, -⟩, ⟨x4, -⟩, ⟨x5, -⟩⟩ := Hx3.out
  go_wp2_with fail
  refine (toWorld_any _ _ _ _ _ _ W _ (Hp.out.below hB3) HN.out).mono ?_
  rintro e w4 ⟨u0, u1, u2, u3, rfl, ho4, hb4⟩
  obtain ⟨s4a, t4a, s4b, t4b, s4c, t4c, s4d, t4d, rfl, rfl, rfl, rfl⟩ := ho4.form
  have ha4 := below_alloc w4 (.cells #[.slice s4a W.pool.n t4a, .slice s4b W.pool.hn t4b, .int .i64 W.time, .int .i64 W.next, .slice s4c W.sn t4c, .slice s4d W.pn t4d] 38)
  have hba := below_next hb4 ha4
  have hB4 := below_next hB3 hba
  have Hx4 := hideW (Hx3.out.below hba)
  have HA4 := hideW (HA3.out.below hba)
  have Hy4 := hideW (Box6.new w4 (.slice s4a W.pool.n t4a) (.slice s4b W.pool.hn t4b) (.int .i64 W.time) (.int .i64 W.next) (.slice s4c W.sn t4c) (.slice s4d W.pn t4d) 38)
  have Ho4 := hideW (ho4.below ha4)
  have hz4 : (w4.alloc (.cells #[.slice s4a W.pool.n t4a, .slice s4b W.pool.hn t4b, .int .i64 W.time, .int .i64 W.next, .slice s4c W.sn t4c, .slice s4d W.pn t4d] 38)).heap.size = w4.heap.size + 1 := World.size_alloc _ _
  have Z4 := hideW (show w3.heap.size ≤ w4.heap.size ∧ (w4.alloc (.cells #[.slice s4a W.pool.n t4a, .slice s4b W.pool.hn t4b, .int .i64 W.time, .int .i64 W.next, .slice s4c W.sn t4c, .slice s4d W.pn t4d] 38)).heap.size = w4.heap.size + 1 by have := hb4.size; omega)
  clear ho4 hb4 ha4 hba x0 x1 x2 x3 x4 x5 hB3 Hx3 HA3 hz4
  obtain ⟨⟨y0, -⟩, ⟨y1, -⟩, ⟨y2, -⟩, ⟨y3, -⟩, ⟨y4, -⟩, ⟨y5, -⟩⟩ := Hy4.out
  go_wp2_with fail
  clear y0 y1 y2 y3 y4 y5
  generalize w4.alloc (.cells #[.slice s4a W.pool.n t4a, .slice s4b W.pool.hn t4b, .int .i64 W.time, .int .i64 W.next, .slice s4c W.sn t4c, .slice s4d W.pn t4d] 38) = W4 at hB4 Hx4 HA4 Hy4 Ho4 Z4 ⊢
  generalize w4.heap.size = V7 at Hy4 Ho4 Z4 ⊢
  refine (IM.out _ _ _ _ _ _ W4 (by have := Z4.out; omega) Ho4.out.at).mono ?_
  rintro e w5 hnew
  obtain ⟨vA, rfl, hA5, hb5⟩ := hnew.ans HSM.out
  obtain ⟨a5, c5, rfl⟩ := hA5.form
  have hB5 := below_next hB4 hb5
  have Hx5 := hideW (Hx4.out.below hb5)
  have HA5 := hideW (HA4.out.below hb5)
  have Hy5 := hideW (Hy4.out.below hb5)
  have Ho5 := hideW (Ho4.out.below hb5)
  have HG5 := hideW hA5
  have Z5 := hideW (show W4.heap.size ≤ w5.heap.size from hb5.size)
  clear hnew hA5 hb5 hB4 Hx4 HA4 Hy4 Ho4
  go_wp2_with fail
  refine (eqInts_ans _ _ _ _ _ _ _ _ w5 HG5.out.at HA5.out.at).mono ?_
  rintro e w6 ⟨rfl, hb6⟩
  have hB6 := below_next hB5 hb6
  have Hx6 := hideW (Hx5.out.below hb6)
  have HA6 := hideW (HA5.out.below hb6)
  have Hy6 := hideW (Hy5.out.below hb6)
  have Ho6 := hideW (Ho5.out.below hb6)
  have HG6 := hideW (HG5.out.below hb6)
  have Z6 := hideW (show w5.heap.size ≤ w6.heap.size from hb6.size)
  clear hb6 hB5 Hx5 HA5 Hy5 Ho5 HG5
  -- the argument is as it was
  obtain ⟨⟨x0, -⟩, ⟨x1, -⟩, ⟨x2, -⟩, ⟨x3, -⟩, ⟨x4, -⟩, ⟨x5, -⟩⟩ := Hx6.out
  obtain ⟨⟨y0, -⟩, ⟨y1, -⟩, ⟨y2, -⟩, ⟨y3, -⟩, ⟨y4, -⟩, ⟨y5, -⟩⟩ := Hy6.out
  go_wp2_with fail
  go_region_held3 (fun w' => w'.cell? ⟨w.heap.size, 0, none⟩ = some (.slice s0a W.pool.n t0a) ∧ w'.cell? ⟨w.heap.size, 1, none⟩ = some (.slice s0b W.pool.hn t0b) ∧ w'.cell? ⟨w.heap.size, 2, none⟩ = some (.int .i64 W.time) ∧ w'.cell? ⟨w.heap.size, 3, none⟩ = some (.int .i64 W.next) ∧ w'.cell? ⟨w.heap.size, 4, none⟩ = some (.slice s0c W.sn t0c) ∧ w'.cell? ⟨w.heap.size, 5, none⟩ = some (.slice s0d W.pn t0d) ∧ w'.cell? ⟨V7, 0, none⟩ = some (.slice s4a W.pool.n t4a) ∧ w'.cell? ⟨V7, 1, none⟩ = some (.slice s4b W.pool.hn t4b) ∧ w'.cell? ⟨V7, 2, none⟩ = some (.int .i64 W.time) ∧ w'.cell? ⟨V7, 3, none⟩ = some (.int .i64 W.next) ∧ w'.cell? ⟨V7, 4, none⟩ = some (.slice s4c W.sn t4c) ∧ w'.cell? ⟨V7, 5, none⟩ = some (.slice s4d W.pn t4d)) (go_keep)
    (first
      | (go_at_call 15; refine (toWorld_any _ _ _ _ 0 w.heap.size W _ ?_ HN.out).mono ?_; (exact Hp.out.below hB6.drew); rintro e w7 ⟨u0, u1, u2, u3, rfl, ho7, hb7⟩; obtain ⟨s7a, t7a, s7b, t7b, s7c, t7c, s7d, t7d, rfl, rfl, rfl, rfl⟩ := ho7.form; have hb7' := below_undrew hb7; obtain ⟨⟨q0, -⟩, ⟨q1, -⟩, ⟨q2, -⟩, ⟨q3, -⟩, ⟨q4, -⟩, ⟨q5, -⟩⟩ := Hx6.out.below hb7'; obtain ⟨⟨r0, -⟩, ⟨r1, -⟩, ⟨r2, -⟩, ⟨r3, -⟩, ⟨r4, -⟩, ⟨r5, -⟩⟩ := Hy6.out.below hb7')
      | (go_at_call 17; refine (eqWorld_same _ _ _ _ _ _ _ _ _ _ _ _ W _ (Ho6.out.at.below hb7') ho7.at).mono ?_; rintro e w8 ⟨rfl, hb8⟩; have hb8' := below_next hb7' hb8; obtain ⟨⟨s0, -⟩, ⟨s1, -⟩, ⟨s2, -⟩, ⟨s3, -⟩, ⟨s4, -⟩, ⟨s5, -⟩⟩ := Hx6.out.below hb8'; obtain ⟨⟨t0, -⟩, ⟨t1, -⟩, ⟨t2, -⟩, ⟨t3, -⟩, ⟨t4, -⟩, ⟨t5, -⟩⟩ := Hy6.out.below hb8'))
  have hB8 := below_next hB6 hb8'
  have Hx8 := hideW (Hx6.out.below hb8')
  have HA8 := hideW (HA6.out.below hb8')
  have Hy8 := hideW (Hy6.out.below hb8')
  have Ho8 := hideW (Ho6.out.below hb8')
  have HG8 := hideW (HG6.out.below hb8')
  have Z8 := hideW (show w6.heap.size ≤ w8.heap.size from hb8'.size)
  clear x0 x1 x2 x3 x4 x5 y0 y1 y2 y3 y4 y5 q0 q1 q2 q3 q4 q5 r0 r1 r2 r3 r4 r5 s0 s1 s2 s3 s4 s5 t0 t1 t2 t3 t4 t5 hb7 hb7' hb8 hb8' ho7 hB6 Hx6 HA6 Hy6 Ho6 HG6
  -- the argument is marked
  obtain ⟨⟨y0, -⟩, ⟨y1, -⟩, ⟨y2, -⟩, ⟨y3, -⟩, ⟨y4, -⟩, ⟨y5, -⟩⟩ := Hy8.out
  go_wp2_with fail
  refine (markWorld_any _ _ _ _ _ _ W 1 _ Ho8.out (by omega) (by rw [Hqe.out]; exact hqe1)).mono ?_
  rintro e w9 ⟨rfl, -, ht9⟩
  rw [Hqe.out]
  have zz2 := Z2.out
  have zz3 := Z3.out
  have zz4 := Z4.out
  have zz5 := Z5.out
  have zz6 := Z6.out
  have zz8 := Z8.out
  have hB9 : Below w.heap.size w w9 := hB8.trans (ht9.below (B := w.heap.size) (by omega) (fun k hk => by omega))
  have Hx9 := hideW (Hx8.out.turned ht9 (fun hk => by omega))
  have HA9 := hideW (HA8.out.turned ht9 (fun k hk => by omega))
  have HG9 := hideW (HG8.out.turned ht9 (fun k hk => by omega))
  have Z9 := hideW (show w8.heap.size ≤ w9.heap.size from ht9.size)
  clear zz2 zz3 zz4 zz5 zz6 zz8 ht9 y0 y1 y2 y3 y4 y5 hB8 Hx8 HA8 Hy8 Ho8 HG8
  go_wp2_with fail
  refine (eqInts_ans _ _ _ _ _ _ _ _ w9 HG9.out.at HA9.out.at).mono ?_
  rintro e w10 ⟨rfl, hb10⟩
  have hB10 := below_next hB9 hb10
  have Hx10 := hideW (Hx9.out.below hb10)
  have HA10 := hideW (HA9.out.below hb10)
  have HG10 := hideW (HG9.out.below hb10)
  have Z10 := hideW (show w9.heap.size ≤ w10.heap.size from hb10.size)
  clear hb10 hB9 Hx9 HA9 HG9
  -- the answer is marked
  go_wp2_with fail
  refine (markInts_ans _ _ _ _ _ w10 HG10.out hln).mono ?_
  rintro e w11 ⟨rfl, hG11, ht11⟩
  have zz2 := Z2.out
  have zz3 := Z3.out
  have zz4 := Z4.out
  have zz5 := Z5.out
  have zz6 := Z6.out
  have zz8 := Z8.out
  have zz9 := Z9.out
  have zz10 := Z10.out
  have hB11 : Below w.heap.size w w11 := hB10.trans (ht11.below (B := w.heap.size) (by omega) (fun k hk => by omega))
  have Hx11 := hideW (Hx10.out.turned ht11 (fun hk => by omega))
  have HA11 := hideW (HA10.out.turned ht11 (fun k hk => by omega))
  have HG11 := hideW hG11.at
  clear zz2 zz3 zz4 zz5 zz6 zz8 zz9 zz10 ht11 hG11 hB10 Hx10 HA10 HG10
  go_wp2_with fail
  refine (heldInts_ans _ _ _ _ w11 HG11.out hln).mono ?_
  rintro e w12 ⟨rfl, hb12⟩
  have hB12 := below_next hB11 hb12
  have Hx12 := hideW (Hx11.out.below hb12)
  have HA12 := hideW (HA11.out.below hb12)
  have HG12 := hideW (HG11.out.below hb12)
  clear hb12 hB11 Hx11 HA11 HG11
  -- another call
  obtain ⟨⟨x0, -⟩, ⟨x1, -⟩, ⟨x2, -⟩, ⟨x3, -⟩, ⟨x4, -⟩, ⟨x5, -⟩⟩ := Hx12.out
  go_wp2_with fail
  refine (toWorld_any _ _ _ _ _ _ W _ (Hp.out.below hB12) HN.out).mono ?_
  rintro e w13 ⟨u0, u1, u2, u3, rfl, ho13, hb13⟩
  obtain ⟨s13a, t13a, s13b, t13b, s13c, t13c, s13d, t13d, rfl, rfl, rfl, rfl⟩ := ho13.form
  have Ho13 := hideW ho13
  have hB13 := below_next hB12 hb13
  have HA13 := hideW (HA12.out.below hb13)
  have HG13 := hideW (HG12.out.below hb13)
  clear ho13 hb13 x0 x1 x2 x3 x4 x5 hB12 Hx12 HA12 HG12
  go_wp2_with fail
  refine (IM.out _ _ _ _ _ _ _ (Nat.le_refl _) Ho13.out.at).mono ?_
  rintro e w14 hnew
  obtain ⟨vA, rfl, hA14, hb14⟩ := hnew.ans HSM.out
  obtain ⟨a14, c14, rfl⟩ := hA14.form
  have hB14 := below_next hB13 hb14
  have HA14 := hideW (HA13.out.below hb14)
  have HG14 := hideW (HG13.out.below hb14)
  have HH14 := hideW hA14.at
  clear hnew hA14 hb14 hB13 HA13 HG13 Ho13
  go_wp2_with fail
  refine (eqInts_ans _ _ _ _ _ _ _ _ w14 HH14.out HA14.out.at).mono ?_
  rintro e w15 ⟨rfl, hb15⟩
  have hB15 := below_next hB14 hb15
  have HG15 := hideW (HG14.out.below hb15)
  clear hb15 hB14 HA14 HG14 HH14
  go_wp2_with fail
  refine (heldInts_ans _ _ _ _ w15 HG15.out hln).mono ?_
  rintro e w16 ⟨rfl, hb16⟩
  have hB16 := below_next hB15 hb16
  clear hb16 hB15 HG15
  go_wp2
  go_ret
  exact ⟨rfl, hB16⟩

theorem own : ownKnob Tryz.prog.godebug = none := by kernel_rfl
theorem laidOut : laidOutB Tryz.prog = true := by kernel_rfl

set_option maxRecDepth 100000 in
theorem fnExactPages_lifted (os : Os) (started : os.Started) (H : Type) (enc : TypeId × Value → H) :
    ReturnsInHanded {} Tryz.checked os 10 .any (Rows.fnExactPagesSpec.pre6 enc Tryz.prog Tryz.f10 Rows.fnExactPagesRow.domain false) (Rows.fnExactPagesSpec.post enc Tryz.prog Tryz.f10 false true false false) := by
  refine returnsInHanded_of_change (C := Tryz.checked) own started (by kernel_rfl) Tryz.func10
    (ChangeSpec.witness6 (enc := enc) (C := Tryz.checked) false ⟨#[], #[.agg #[.slice none 0 0, .slice none 0 0, .int .i64 0, .int .i64 0, .slice none 0 0, .slice none 0 0], .string ⟨#[]⟩], []⟩ 8 (by kernel_rfl) (by kernel_rfl) (by kernel_rfl) (by kernel_rfl)) ?_
  intro W base args ds gs before hval0 hW hcnd _
  have hval : ∀ (j : Nat) t v, Tryz.f10.params[j]? = some t → args[j]? = some v → Value.okWide Tryz.prog W .any base t v := hval0
  have hW' := hW
  obtain ⟨p, q, hA0, hV, rfl, hfz, hnd⟩ := hW
  have hA : DataW.TrodAll enc Tryz.prog W 0 (fun _ => true) true Tryz.f10.params.toList args.toList ds p := hA0
  rw [Tryz.params10] at hA hval
  obtain ⟨v0, vs0, d0, ds0, p0, q0, hargs0, rfl, rfl, h0, r0⟩ := trodAll_cons hA
  obtain ⟨v1, vs1, d1, ds1, p1, q1, hargs1, rfl, rfl, h1, r1⟩ := trodAll_cons r0
  obtain ⟨rfl, rfl, rfl⟩ := trodAll_nil r1
  obtain rfl : args = #[v0, v1] := by cases args; simp_all
  obtain ⟨rfl, rfl⟩ := trodVars_none hV
  have k0 := h0
  have k1 := h1
  have lt0 : ∀ x ∈ p0, x.block < W.heap.size := by obtain ⟨m, hm⟩ := k0; exact DataW.trod_lt m _ _ _ hm
  have lt1 : ∀ x ∈ p1, x.block < W.heap.size := by obtain ⟨m, hm⟩ := k1; exact DataW.trod_lt m _ _ _ hm
  obtain ⟨s0a, s0b, s0c, s0d, wd0, rfl, hp0, hwf0⟩ := open_world (hval 0 29 v0 rfl rfl) h0
  obtain ⟨st1, rfl, _, _, hz1⟩ := open_string Tryz.underlying9 (hval 1 9 v1 rfl rfl) h1
  clear hA0 hval0
  refine (fnExactPages_walk s0a s0b s0c s0d wd0 st1 W hp0 hwf0 hz1).mono fun e W' ⟨he, bel⟩ => ?_
  subst he
  exact ⟨_, rfl, _, _, _, [], _, [], hW', trodAll_mk1 (shut_bool Tryz.underlying4 _), (trodAll_cons_mk (Below.trod laidOut (by kernel_rfl) (of_decide_eq_true (by kernel_rfl)) k0 bel lt0) (trodAll_cons_mk (Below.trod laidOut (by kernel_rfl) (of_decide_eq_true (by kernel_rfl)) k1 bel lt1) trodAll_mk0)), rfl, bel.frame _, fun h => by cases h⟩

theorem fnExactPages_holds : Rows.FnExactPagesSaid :=
  OpenClaim.holds_of_wide 10 Tryz.f10 rfl rfl rfl rfl rfl rfl rfl ⟨rfl, rfl, rfl, rfl, rfl⟩ rfl rfl rfl rfl rfl (by kernel_rfl) Tryz.func10 (by kernel_rfl)
    (of_decide_eq_true (by kernel_rfl)) (by unfold Func.isWrapper; first | (rw [if_pos (by decide +kernel)]; kernel_rfl) | (rw [if_neg (by decide +kernel)]; exact ⟨rfl, rfl⟩))
    (fun os started H enc _ => fnExactPages_lifted os started H enc)

end Go.Proofs.YtjpbmpjddbekgaaGreat
