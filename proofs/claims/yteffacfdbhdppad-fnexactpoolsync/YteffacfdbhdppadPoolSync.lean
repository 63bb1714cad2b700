/- For every pool that comes in the law FnExactPoolSync returns true: impl.PoolSync answers as spec.PoolSync, writes nothing of its argument, and its answer is memory of its own. No condition. -/
import Derived.Test.YteffacfdbhdppadSync
import Derived.Test.YteffacfdbhdppadLawKit
import Derived.Test.YteffacfdbhdppadOpen
import Derived.OpenShut
import Derived.ChangeOld
namespace Go.Proofs.Yteffacfdbhdppad
open Go.ChangeShapes Go.WideShapes Go.ChangeAt Go.RowKit
set_option linter.unusedVariables false

theorem sync_small (p : PoolD) : poolN (syncP p) ≤ poolN p := by
  by_cases h : Right p ∧ Right (swept p)
  · rw [sync_yes h.1 h.2]
    have hs := slotsN_le (f := (swept p).s) (g := p.s) (fun i => by
      by_cases hi : Has p.hn p.h (i : Int)
      · rw [show (swept p).s i = zeroS from freed_yes hi]; exact Nat.zero_le _
      · rw [show (swept p).s i = p.s i from freed_not hi]; exact Nat.le_refl _) p.n
    show p.n + slotsN (swept p).s p.n + 0 ≤ p.n + slotsN p.s p.n + p.hn
    omega
  · rw [sync_no h]; exact Nat.le_refl _

set_option maxHeartbeats 4000000 in
theorem poolSync_walk (v0 v1 : Value) (p : PoolD) (w : World) (h : PoolAt w 0 w.heap.size v0 v1 p) : Calls Try.prog 5 #[.agg #[v0, v1]] w fun e w' => e = .returned (.bool true) ∧ Below w.heap.size w w' := by
  have Hp : Hid (PoolAt w 0 w.heap.size v0 v1 p) := h
  obtain ⟨a, c, a', c', rfl, rfl⟩ := h.form
  clear h
  go_enter Try.func5, Try.ntmps5
  go_wp2_with fail
  have ha := below_alloc w (.cells #[.slice a p.n c, .slice a' p.hn c'] 25)
  refine (szPool_any _ _ _ _ p _ _ (Hp.out.below ha) (by omega) (by omega)).mono ?_
  rintro e w1 ⟨⟨r, rfl, hr1, hr2, hr3⟩, hb1⟩
  have Hx1 := hide ((Box2.new w (.slice a p.n c) (.slice a' p.hn c') 25).below hb1)
  have hB1 := below_next ha hb1
  have Hr : Hid (0 ≤ r → r + poolN p = 1048576) := hr1
  clear ha hb1 hr1
  by_cases hr : r < 0
  · go_wp2
    go_ret
    exact ⟨rfl, hB1⟩
  · have HN : Hid (poolN p ≤ 1048576) := by have := Hr.out (by omega); show _ ≤ _; omega
    have hz1 : w.heap.size < w1.heap.size := Hx1.out.1.lt
    have hend := end_small HN.out
    have hend2 := end_small (Nat.le_trans (sync_small p) HN.out)
    generalize hqe : endP p 1 = qe at hend
    have Hqe := hide hqe
    generalize hq : syncP p = q at hend2
    have Hq := hide hq
    generalize hge : endP q 1 = ge at hend2
    have Hge := hide hge
    obtain ⟨hqe1, hqe2⟩ := hend
    obtain ⟨hge1, hge2⟩ := hend2
    have hqe0 : ¬ qe < 0 := by omega
    have hge0 : ¬ ge < 0 := by omega
    have hgg : (ge != ge) = false := by simp
    clear hqe hq hge
    -- the specification's answer
    obtain ⟨⟨x0, x1⟩, ⟨x2, x3⟩⟩ := Hx1.out
    go_wp2_with fail
    refine (toPool_any _ _ 0 w.heap.size p _ (Hp.out.below hB1) HN.out).mono ?_
    rintro e w2 ⟨u0, u1, rfl, ho2, hb2⟩
    obtain ⟨b0, d0, b1, d1, rfl, rfl⟩ := ho2.form
    go_wp2_with fail
    refine (specPoolSync_any _ _ _ _ p _ ho2.at HN.out).mono ?_
    rintro e w3 ⟨u0, u1, rfl, ho3, hb3⟩
    rw [Hq.out] at ho3
    obtain ⟨a3, c3, a4, c4, rfl, rfl⟩ := ho3.form
    have hnv := poolVar_new (t := 33) ho3 hb3
    have hz2 := hb2.size
    have HxA := hide ((Hx1.out.below hb2).below hnv.2.2.2)
    have hBA := below_next (below_next hB1 hb2) hnv.2.2.2
    clear x0 x1 x2 x3 ho2 hb2 ho3 hb3 hB1 Hx1
    obtain ⟨⟨x0, x1⟩, ⟨x2, x3⟩⟩ := HxA.out
    go_wp2_with fail
    clear x0 x1 x2 x3
    generalize w3.alloc (.cells #[.slice a3 q.n c3, .slice a4 q.hn c4] 33) = wA at hnv HxA hBA ⊢
    generalize w3.heap.size = L at hnv ⊢
    obtain ⟨hL, hL1, hL2, _⟩ := hnv
    have HL := hide hL
    clear hL
    -- the copy that the call is given
    refine (toPool_any _ _ 0 w.heap.size p _ (Hp.out.below hBA) HN.out).mono ?_
    rintro e w4 ⟨u0, u1, rfl, ho4, hb4⟩
    obtain ⟨a5, c5, a6, c6, rfl, rfl⟩ := ho4.form
    have hnv := poolVar_new (t := 33) ho4 hb4
    have HxB := hide (HxA.out.below hnv.2.2.2)
    have HLB := hide (HL.out.below hnv.2.2.2)
    have hBB := below_next hBA hnv.2.2.2
    clear ho4 hb4 hBA HxA HL
    obtain ⟨⟨x0, x1⟩, ⟨x2, x3⟩⟩ := hnv.1.box
    go_wp2_with fail
    clear x0 x1 x2 x3
    generalize w4.alloc (.cells #[.slice a5 p.n c5, .slice a6 p.hn c6] 33) = wB at hnv HxB HLB hBB ⊢
    generalize w4.heap.size = X at hnv ⊢
    obtain ⟨hX, hX1, hX2, _⟩ := hnv
    have HX := hide hX
    clear hX
    -- its answer
    refine (implPoolSync_any _ _ _ _ p _ HX.out.own.at HN.out).mono ?_
    rintro e w5 ⟨u0, u1, rfl, ho5, hb5⟩
    rw [Hq.out] at ho5
    obtain ⟨a7, c7, a8, c8, rfl, rfl⟩ := ho5.form
    have hnv := poolVar_new (t := 33) ho5 hb5
    have HxC := hide (HxB.out.below hnv.2.2.2)
    have HLC := hide (HLB.out.below hnv.2.2.2)
    have HXC := hide (HX.out.below hnv.2.2.2)
    have hBC := below_next hBB hnv.2.2.2
    clear ho5 hb5 hBB HxB HLB HX
    obtain ⟨⟨x0, x1⟩, ⟨x2, x3⟩⟩ := hnv.1.box
    obtain ⟨⟨y0, y1⟩, ⟨y2, y3⟩⟩ := HLC.out.box
    go_wp2_with fail
    clear x0 x1 x2 x3 y0 y1 y2 y3
    generalize w5.alloc (.cells #[.slice a7 q.n c7, .slice a8 q.hn c8] 33) = wC at hnv HxC HLC HXC hBC ⊢
    generalize w5.heap.size = G at hnv ⊢
    obtain ⟨hG, hG1, hG2, _⟩ := hnv
    have HGC := hide hG
    clear hG
    -- the answers are the same
    refine (eqPool_any _ _ _ _ _ _ _ _ q q _ HGC.out.own.at HLC.out.own.at).mono ?_
    rintro e w6 ⟨⟨t, rfl, ht⟩, hb6⟩
    obtain rfl : t = true := ht.2 (PoolEq.refl q)
    have Hx6 := hide (HxC.out.below hb6)
    have HL6 := hide (HLC.out.below hb6)
    have HX6 := hide (HXC.out.below hb6)
    have HG6 := hide (HGC.out.below hb6)
    have hB6 := below_next hBC hb6
    have hz6 := hb6.size
    clear ht hb6 hBC HxC HLC HXC HGC
    -- the argument is as it was
    obtain ⟨⟨x0, x1⟩, ⟨x2, x3⟩⟩ := Hx6.out
    obtain ⟨⟨y0, y1⟩, ⟨y2, y3⟩⟩ := HX6.out.box
    go_wp2_with fail
    go_region_held3 (fun w' => w'.cell? ⟨w.heap.size, 0, none⟩ = some (.slice a p.n c) ∧ w'.cell? ⟨w.heap.size, 1, none⟩ = some (.slice a' p.hn c') ∧ w'.cell? ⟨X, 0, none⟩ = some (.slice a5 p.n c5) ∧ w'.cell? ⟨X, 1, none⟩ = some (.slice a6 p.hn c6)) (go_keep)
      (first
        | (go_at_call 10; refine (toPool_any _ _ 0 w.heap.size p _ ?_ HN.out).mono ?_; (exact Hp.out.below hB6.drew); rintro e w7 ⟨u0, u1, rfl, ho7, hb7⟩; obtain ⟨k0, l0, k1, l1, rfl, rfl⟩ := ho7.form; have hb7' := below_undrew hb7; have z0 := (Hx6.out.below hb7').1.1; have z1 := (Hx6.out.below hb7').2.1; have z2 := (HX6.out.box.below hb7').1.1; have z3 := (HX6.out.box.below hb7').2.1)
        | (go_at_call 14; refine (eqPool_any _ _ _ _ _ _ _ _ p p _ (HX6.out.own.at.below hb7') ho7.at).mono ?_; rintro e w8 ⟨⟨t8, rfl, ht8⟩, hb8⟩; obtain rfl : t8 = true := ht8.2 (PoolEq.refl p); clear ht8; have hb8' := below_next hb7' hb8; have zz0 := (Hx6.out.below hb8').1.1; have zz1 := (Hx6.out.below hb8').2.1; have zz2 := (HX6.out.box.below hb8').1.1; have zz3 := (HX6.out.box.below hb8').2.1))
    have Hx8 := hide (Hx6.out.below hb8')
    have HL8 := hide (HL6.out.below hb8')
    have HX8 := hide (HX6.out.below hb8')
    have HG8 := hide (HG6.out.below hb8')
    have hB8 := below_next hB6 hb8'
    have hz8 := hb8'.size
    clear hb8' hb8 hb7 hb7' ho7 z0 z1 z2 z3 zz0 zz1 zz2 zz3 x0 x1 x2 x3 y0 y1 y2 y3 hB6 Hx6 HL6 HX6 HG6
    -- the marks are laid into the argument
    obtain ⟨⟨x0, x1⟩, ⟨x2, x3⟩⟩ := HX8.out.box
    go_wp2_with fail
    refine (markPool_own _ _ _ _ p 1 _ HX8.out.own (by omega) (by rw [Hqe.out]; omega)).mono ?_
    rintro e w9 ⟨rfl, ho9, ht9⟩
    rw [Hqe.out]
    have Hx9 := hide (Hx8.out.turned ht9 (by omega))
    have HL9 := hide (HL8.out.turned ht9 (by omega) (by omega))
    have HG9 := hide (HG8.out.turned ht9 (by omega) (by omega))
    have hB9 : Below w.heap.size w w9 := hB8.trans (ht9.below (by omega) (by omega))
    have hz9 := ht9.size
    clear ho9 ht9 x0 x1 x2 x3 hB8 Hx8 HL8 HX8 HG8
    -- the answer stays
    obtain ⟨⟨x0, x1⟩, ⟨x2, x3⟩⟩ := HG9.out.box
    obtain ⟨⟨y0, y1⟩, ⟨y2, y3⟩⟩ := HL9.out.box
    go_wp2_with fail
    refine (eqPool_any _ _ _ _ _ _ _ _ q q _ HG9.out.own.at HL9.out.own.at).mono ?_
    rintro e w10 ⟨⟨t, rfl, ht⟩, hb10⟩
    obtain rfl : t = true := ht.2 (PoolEq.refl q)
    have Hx10 := hide (Hx9.out.below hb10)
    have HL10 := hide (HL9.out.below hb10)
    have HG10 := hide (HG9.out.below hb10)
    have hB10 := below_next hB9 hb10
    have hz10 := hb10.size
    clear ht hb10 hB9 Hx9 HL9 HG9 x0 x1 x2 x3 y0 y1 y2 y3
    -- marks are laid into the answer
    obtain ⟨⟨x0, x1⟩, ⟨x2, x3⟩⟩ := HG10.out.box
    go_wp2_with fail
    refine (markPool_own _ _ _ _ q 1 _ HG10.out.own (by omega) (by rw [Hge.out]; omega)).mono ?_
    rintro e w11 ⟨rfl, ho11, ht11⟩
    rw [Hge.out]
    have Hx11 := hide (Hx10.out.turned ht11 (by omega))
    have HL11 := hide (HL10.out.turned ht11 (by omega) (by omega))
    have HG11 := hide (PoolVar.mk (HG10.out.box.turned ht11 (by omega)) ho11)
    have hB11 : Below w.heap.size w w11 := hB10.trans (ht11.below (by omega) (by omega))
    have hz11 := ht11.size
    clear ho11 ht11 x0 x1 x2 x3 hB10 Hx10 HL10 HG10
    -- and looked for
    obtain ⟨⟨x0, x1⟩, ⟨x2, x3⟩⟩ := HG11.out.box
    go_wp2_with fail
    refine (heldPool_own _ _ _ _ q 1 _ HG11.out.own.at (by omega) (by rw [Hge.out]; omega)).mono ?_
    rintro e w12 ⟨rfl, hb12⟩
    rw [Hge.out]
    have Hx12 := hide (Hx11.out.below hb12)
    have HL12 := hide (HL11.out.below hb12)
    have HG12 := hide (HG11.out.below hb12)
    have hB12 := below_next hB11 hb12
    have hz12 := hb12.size
    clear hb12 hB11 Hx11 HL11 HG11 x0 x1 x2 x3
    -- a second answer
    obtain ⟨⟨x0, x1⟩, ⟨x2, x3⟩⟩ := Hx12.out
    go_wp2_with fail
    refine (toPool_any _ _ 0 w.heap.size p _ (Hp.out.below hB12) HN.out).mono ?_
    rintro e w13 ⟨u0, u1, rfl, ho13, hb13⟩
    obtain ⟨b0, d0, b1, d1, rfl, rfl⟩ := ho13.form
    go_wp2_with fail
    refine (implPoolSync_any _ _ _ _ p _ ho13.at HN.out).mono ?_
    rintro e w14 ⟨u0, u1, rfl, ho14, hb14⟩
    rw [Hq.out] at ho14
    obtain ⟨a9, c9, a10, c10, rfl, rfl⟩ := ho14.form
    have hnv := poolVar_new (t := 33) ho14 hb14
    have hbx := below_next hb13 hnv.2.2.2
    have HLD := hide (HL12.out.below hbx)
    have HGD := hide (HG12.out.below hbx)
    have hBD := below_next hB12 hbx
    clear ho13 hb13 ho14 hb14 hbx hB12 Hx12 HL12 HG12 x0 x1 x2 x3
    obtain ⟨⟨x0, x1⟩, ⟨x2, x3⟩⟩ := hnv.1.box
    obtain ⟨⟨y0, y1⟩, ⟨y2, y3⟩⟩ := HLD.out.box
    go_wp2_with fail
    clear x0 x1 x2 x3 y0 y1 y2 y3
    refine (eqPool_any _ _ _ _ _ _ _ _ q q _ hnv.1.own.at HLD.out.own.at).mono ?_
    rintro e w15 ⟨⟨t, rfl, ht⟩, hb15⟩
    obtain rfl : t = true := ht.2 (PoolEq.refl q)
    have HG15 := hide (HGD.out.below hb15)
    have hB15 := below_next hBD hb15
    clear ht hb15 hBD HLD HGD hnv
    -- the marks are there still
    obtain ⟨⟨x0, x1⟩, ⟨x2, x3⟩⟩ := HG15.out.box
    go_wp2_with fail
    refine (heldPool_own _ _ _ _ q 1 _ HG15.out.own.at (by omega) (by rw [Hge.out]; omega)).mono ?_
    rintro e w16 ⟨rfl, hb16⟩
    rw [Hge.out]
    have hB16 := below_next hB15 hb16
    go_wp2
    go_ret
    exact ⟨rfl, hB16⟩

theorem own : ownKnob Try.prog.godebug = none := by kernel_rfl
theorem laidOut : laidOutB Try.prog = true := by kernel_rfl

set_option maxRecDepth 100000 in
theorem poolSync_lifted (os : Os) (started : os.Started) (H : Type) (enc : TypeId × Value → H) :
    ReturnsInHanded {} Try.checked os 5 .any (Rows.fnExactPoolSyncSpec.pre6 enc Try.prog Try.f5 Rows.fnExactPoolSyncRow.domain false) (Rows.fnExactPoolSyncSpec.post enc Try.prog Try.f5 false true false false) := by
  refine returnsInHanded_of_change (C := Try.checked) own started (by kernel_rfl) Try.func5
    (ChangeSpec.witness6 (enc := enc) (C := Try.checked) false ⟨#[], #[.agg #[.slice none 0 0, .slice none 0 0]], []⟩ 8 (by kernel_rfl) (by kernel_rfl) (by kernel_rfl) (by kernel_rfl)) ?_
  intro W base args ds gs before hval0 hW hcnd _
  have hval : ∀ (j : Nat) t v, Try.f5.params[j]? = some t → args[j]? = some v → Value.okWide Try.prog W .any base t v := hval0
  have hW' := hW
  obtain ⟨p, q, hA0, hV, rfl, hfz, hnd⟩ := hW
  have hA : DataW.TrodAll enc Try.prog W 0 (fun _ => true) true Try.f5.params.toList args.toList ds p := hA0
  rw [Try.params5] at hA hval
  obtain ⟨v0, vs0, d0, ds0, p0, q0, hargs, rfl, rfl, h0, r0⟩ := trodAll_cons hA
  obtain ⟨rfl, rfl, rfl⟩ := trodAll_nil r0
  obtain rfl : args = #[v0] := by cases args; simp_all
  obtain ⟨rfl, rfl⟩ := trodVars_none hV
  have k0 := h0
  have lt0 : ∀ x ∈ p0, x.block < W.heap.size := by obtain ⟨m, hm⟩ := k0; exact DataW.trod_lt m _ _ _ hm
  obtain ⟨s0, s1, pd, rfl, hpool⟩ := open_pool (hval 0 25 v0 rfl rfl) h0
  clear hA0 hval0
  refine (poolSync_walk s0 s1 pd W hpool).mono fun e W' ⟨he, bel⟩ => ?_
  subst he
  exact ⟨_, rfl, _, _, _, [], _, [], hW', trodAll_mk1 (shut_bool Try.underlying4 _), (trodAll_cons_mk (Below.trod laidOut (by kernel_rfl) (of_decide_eq_true (by kernel_rfl)) k0 bel lt0) trodAll_mk0), rfl, bel.frame _, fun h => by cases h⟩

theorem fnExactPoolSync_holds : Rows.FnExactPoolSyncSaid :=
  OpenClaim.holds_of_wide 5 Try.f5 rfl rfl rfl rfl rfl rfl rfl ⟨rfl, rfl, rfl, rfl, rfl⟩ rfl rfl rfl rfl rfl (by kernel_rfl) Try.func5 (by kernel_rfl)
    (of_decide_eq_true (by kernel_rfl)) (by unfold Func.isWrapper; first | (rw [if_pos (by decide +kernel)]; kernel_rfl) | (rw [if_neg (by decide +kernel)]; exact ⟨rfl, rfl⟩))
    (fun os started H enc _ => poolSync_lifted os started H enc)

end Go.Proofs.Yteffacfdbhdppad
