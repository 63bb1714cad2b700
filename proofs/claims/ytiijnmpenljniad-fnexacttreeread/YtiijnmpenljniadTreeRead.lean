/- For every pool, root and number that come in the law FnExactTreeRead returns true: impl.TreeRead answers as spec.TreeRead, and writes nothing of its argument. No condition. -/
import Derived.Test.YtiijnmpenljniadTreeV
import Derived.Test.YtiijnmpenljniadTo
import Derived.Test.YtiijnmpenljniadOpen
import Derived.OpenShut
import Derived.ChangeOld
import Derived.Deep.DeepCutAuto
namespace Go.Proofs.Ytiijnmpenljniad
open Go.ChangeShapes Go.WideShapes Go.ChangeAt Go.RowKit
set_option linter.unusedVariables false

theorem PoolOwn.at0 {w : World} {lo hi : Nat} {v0 v1 : Value} {p : PoolD} (h : PoolOwn w lo hi v0 v1 p) : PoolAt w 0 hi v0 v1 p := (h.wide (Nat.zero_le _) (Nat.le_refl _)).at
theorem poolVar_new {p : PoolD} {w1 w2 : World} {a a' : Option Addr} {c c' : Nat} {t : TypeId} (ho : PoolOwn w2 w1.heap.size w2.heap.size (.slice a p.n c) (.slice a' p.hn c') p) (hb : Below w1.heap.size w1 w2) :
    Box2 (w2.alloc (.cells #[.slice a p.n c, .slice a' p.hn c'] t)) w2.heap.size (.slice a p.n c) (.slice a' p.hn c') ∧ PoolOwn (w2.alloc (.cells #[.slice a p.n c, .slice a' p.hn c'] t)) w1.heap.size w2.heap.size (.slice a p.n c) (.slice a' p.hn c') p ∧
      w1.heap.size ≤ w2.heap.size ∧ w2.heap.size < (w2.alloc (.cells #[.slice a p.n c, .slice a' p.hn c'] t)).heap.size ∧ Below w1.heap.size w1 (w2.alloc (.cells #[.slice a p.n c, .slice a' p.hn c'] t)) :=
  ⟨Box2.new _ _ _ _, ho.below (below_alloc _ _), hb.size, by rw [World.size_alloc]; exact Nat.lt_succ_self _, below_next hb (below_alloc _ _)⟩

set_option maxRecDepth 20000 in
set_option maxHeartbeats 4000000 in
theorem fnExactTreeRead_walk (v0 v1 : Value) (p : PoolD) (xs xb page : Int) (w : World) (h : PoolAt w 0 w.heap.size v0 v1 p) (hp0 : (Lit.int .i64 page).wf = true) : Calls Try.prog 8 #[.agg #[v0, v1], .agg #[.int .i64 xs, .int .i64 xb], .int .i64 page] w fun e w' => e = .returned (.bool true) ∧ Below w.heap.size w w' := by
  have Hp := hideT h
  obtain ⟨a, c, a', c', rfl, rfl⟩ := h.form
  clear h
  go_enter Try.func8, Try.ntmps8
  go_wp2_with fail
  have ha := below_next (below_alloc w (.cells #[.slice a p.n c, .slice a' p.hn c'] 25)) (below_alloc _ (.cells #[.int .i64 xs, .int .i64 xb] 51))
  refine (szPool_any _ _ _ _ p _ _ (Hp.out.below ha) (by omega) (by omega)).mono ?_
  rintro e w1 ⟨⟨r, rfl, hr1, hr2, hr3⟩, hb1⟩
  have Ha1 : Hid (Box2 w1 w.heap.size (.slice a p.n c) (.slice a' p.hn c')) := ((Box2.new w _ _ _).below (below_alloc _ _)).below hb1
  have Hx1 : Hid (Box2 w1 (w.heap.size + 1) (.int .i64 xs) (.int .i64 xb)) := by
    have := (Box2.new (w.alloc (.cells #[.slice a p.n c, .slice a' p.hn c'] 25)) (.int .i64 xs) (.int .i64 xb) 51).below hb1
    rw [World.size_alloc] at this
    exact this
  have hB1 := below_next ha hb1
  have Hr := hideT hr1
  clear ha hb1 hr1
  by_cases hr : r < 0
  · go_wp2
    go_ret
    exact ⟨rfl, hB1⟩
  · have HN : Hid (poolN p ≤ 1048576) := by have := Hr.out (by omega); show _ ≤ _; omega
    obtain ⟨⟨x0, x1⟩, ⟨x2, x3⟩⟩ := Ha1.out
    obtain ⟨⟨y0, y1⟩, ⟨y2, y3⟩⟩ := Hx1.out
    go_wp2_with fail
    go_cut [8] (fun t wx => (∃ d, t = .string d ∧ ReadIs p xs xb page d) ∧ Below w1.heap.size w1 wx)
    case first =>
      go_region_held3 (fun w' => w'.cell? ⟨w.heap.size, 0, none⟩ = some (.slice a p.n c) ∧ w'.cell? ⟨w.heap.size, 1, none⟩ = some (.slice a' p.hn c') ∧ w'.cell? ⟨w.heap.size + 1, 0, none⟩ = some (.int .i64 xs) ∧ w'.cell? ⟨w.heap.size + 1, 1, none⟩ = some (.int .i64 xb)) (go_keep)
        (first
          | (go_at_call 12; refine (toPool_any _ _ 0 w.heap.size p _ ?_ HN.out).mono ?_; (first | exact Hp.out.below hB1.drew | exact Hp.out.below (below_next hB1 hCq)); rintro e wp ⟨v2, v3, rfl, hop, hbp⟩; obtain ⟨i0, j0, i1, j1, rfl, rfl⟩ := hop.form; have hCp : Below w1.heap.size w1 wp := (by first | exact below_undrew hbp | exact below_next hCq hbp); have zp0 := (Ha1.out.below hCp).1.1; have zp1 := (Ha1.out.below hCp).2.1; have zp2 := (Hx1.out.below hCp).1.1; have zp3 := (Hx1.out.below hCp).2.1)
          | (go_at_call 23; refine (toPtr_any _ _ _).mono ?_; rintro e wq ⟨rfl, hbq⟩; have hCq : Below w1.heap.size w1 wq := (by first | exact below_undrew hbq | exact below_next hCp hbq); have zq0 := (Ha1.out.below hCq).1.1; have zq1 := (Ha1.out.below hCq).2.1; have zq2 := (Hx1.out.below hCq).1.1; have zq3 := (Hx1.out.below hCq).2.1)
          | (go_at_call 32; refine (specTreeRead_any _ _ 0 wp.heap.size p _ _ page _ ?_).mono ?_; (first | exact hop.at0 | exact hop.at0.below hbq); rintro e w2 ⟨⟨t2, rfl, ht2⟩, hb2⟩; have hC2 : Below w1.heap.size w1 w2 := (by first | exact below_next hCp hb2 | exact below_next hCq hb2); have zr0 := (Ha1.out.below hC2).1.1; have zr1 := (Ha1.out.below hC2).2.1; have zr2 := (Hx1.out.below hC2).1.1; have zr3 := (Hx1.out.below hC2).2.1))
      all_goals (go_wp2_with fail; go_meet)
      all_goals (case rel => exact ⟨⟨_, rfl, ht2⟩, hC2⟩)
    case rest =>
      clear y0 y1 y2 y3 x0 x1 x2 x3
      obtain ⟨⟨t, rfl, ht⟩, hBc⟩ := hcut
      obtain ⟨wA, rfl⟩ : ∃ x, x = wc := ⟨_, rfl⟩
      have Ht := hideT ht
      have hBA := below_next hB1 hBc
      have HaA := hideT (Ha1.out.below hBc)
      have HxA := hideT (Hx1.out.below hBc)
      clear hBc ht hB1 Ha1 Hx1
      obtain ⟨⟨x0, x1⟩, ⟨x2, x3⟩⟩ := HaA.out
      go_wp2_with fail
      refine (toPool_any _ _ 0 w.heap.size p _ (Hp.out.below hBA) HN.out).mono ?_
      rintro e w2 ⟨z0, z1, rfl, ho2, hb2⟩
      obtain ⟨i0, j0, i1, j1, rfl, rfl⟩ := ho2.form
      have hnv := poolVar_new (t := 33) ho2 hb2
      clear ho2 hb2 x0 x1 x2 x3
      go_wp2_with fail
      generalize w2.alloc (.cells #[.slice i0 p.n j0, .slice i1 p.hn j1] 33) = wB at hnv ⊢
      generalize w2.heap.size = X at hnv ⊢
      obtain ⟨hXb, hXo, hX1, hX2, hBc⟩ := hnv
      have HXb := hideT hXb
      have HXat : Hid (PoolAt wB 0 wB.heap.size (.slice i0 p.n j0) (.slice i1 p.hn j1) p) := (hXo.wide (Nat.zero_le _) (Nat.le_of_lt hX2)).at
      have HaB := hideT (HaA.out.below hBc)
      have HxB := hideT (HxA.out.below hBc)
      have hBB := below_next hBA hBc
      clear hBc hXb hXo hBA HaA HxA
      obtain ⟨⟨x0, x1⟩, ⟨x2, x3⟩⟩ := HXb.out
      obtain ⟨⟨y0, y1⟩, ⟨y2, y3⟩⟩ := HxB.out
      go_wp2_with fail
      go_cut [10] (fun t wx => (∃ d, t = .string d ∧ ReadIs p xs xb page d) ∧ Below wB.heap.size wB wx)
      case first =>
        go_region_held3 (fun w' => w'.cell? ⟨X, 0, none⟩ = some (.slice i0 p.n j0) ∧ w'.cell? ⟨X, 1, none⟩ = some (.slice i1 p.hn j1) ∧ w'.cell? ⟨w.heap.size + 1, 0, none⟩ = some (.int .i64 xs) ∧ w'.cell? ⟨w.heap.size + 1, 1, none⟩ = some (.int .i64 xb)) (go_keep)
          (first
          | (go_at_call 23; refine (toPtr_any _ _ _).mono ?_; rintro e wq ⟨rfl, hbq⟩; have hCq : Below wB.heap.size wB wq := (by first | exact below_undrew hbq | exact hbq); have zq0 := (HXb.out.below hCq).1.1; have zq1 := (HXb.out.below hCq).2.1; have zq2 := (HxB.out.below hCq).1.1; have zq3 := (HxB.out.below hCq).2.1)
          | (go_at_call 33; refine (implTreeRead_any _ _ 0 wB.heap.size p _ _ page _ ?_).mono ?_; (exact HXat.out.below hCq); rintro e w2 ⟨⟨t2, rfl, ht2⟩, hb2⟩; have hC2 : Below wB.heap.size wB w2 := below_next hCq hb2; have zr0 := (HXb.out.below hC2).1.1; have zr1 := (HXb.out.below hC2).2.1; have zr2 := (HxB.out.below hC2).1.1; have zr3 := (HxB.out.below hC2).2.1))
        all_goals (go_wp2_with fail; go_meet)
        all_goals (case rel => exact ⟨⟨_, rfl, ht2⟩, hC2⟩)
      case rest =>
        clear y0 y1 y2 y3 x0 x1 x2 x3
        obtain ⟨⟨t', rfl, ht'⟩, hBc⟩ := hcut
        obtain ⟨w5, rfl⟩ : ∃ x, x = wc := ⟨_, rfl⟩
        obtain rfl := readIs_one Ht.out ht'
        have hne := str_eq (rfl : t = t)
        have Hxb5 := hideT (HXb.out.below hBc)
        have Hat5 := hideT (HXat.out.below hBc)
        have Ha5 := hideT (HaB.out.below hBc)
        have hB5 := below_next hBB hBc
        clear hBc ht' hBB HXb HXat HaB HxB Ht
        obtain ⟨⟨x0, x1⟩, ⟨x2, x3⟩⟩ := Ha5.out
        obtain ⟨⟨y0, y1⟩, ⟨y2, y3⟩⟩ := Hxb5.out
        go_wp2_with fail
        go_region_held3 (fun w' => w'.cell? ⟨w.heap.size, 0, none⟩ = some (.slice a p.n c) ∧ w'.cell? ⟨w.heap.size, 1, none⟩ = some (.slice a' p.hn c') ∧ w'.cell? ⟨X, 0, none⟩ = some (.slice i0 p.n j0) ∧ w'.cell? ⟨X, 1, none⟩ = some (.slice i1 p.hn j1)) (go_keep)
          (first
            | (go_at_call 12; refine (toPool_any _ _ 0 w.heap.size p _ ?_ HN.out).mono ?_; (exact Hp.out.below hB5.drew); rintro e w6 ⟨u0, u1, rfl, ho6, hb6⟩; obtain ⟨k0, l0, k1, l1, rfl, rfl⟩ := ho6.form; have hb6' := below_undrew hb6; have z0 := (Ha5.out.below hb6').1.1; have z1 := (Ha5.out.below hb6').2.1; have z2 := (Hxb5.out.below hb6').1.1; have z3 := (Hxb5.out.below hb6').2.1)
            | (go_at_call 16; refine (eqPool_any _ _ _ _ _ _ _ _ p p _ (Hat5.out.below hb6') ho6.at).mono ?_; rintro e w7 ⟨⟨t7, rfl, ht7⟩, hb7⟩; obtain rfl : t7 = true := ht7.2 (PoolEq.refl p); clear ht7; have hb7' := below_next hb6' hb7; have zz0 := (Ha5.out.below hb7').1.1; have zz1 := (Ha5.out.below hb7').2.1; have zz2 := (Hxb5.out.below hb7').1.1; have zz3 := (Hxb5.out.below hb7').2.1))
        have hB7 := below_next hB5 hb7'
        go_wp2
        go_ret
        exact ⟨rfl, hB7⟩

theorem own : ownKnob Try.prog.godebug = none := by kernel_rfl
theorem laidOut : laidOutB Try.prog = true := by kernel_rfl

set_option maxRecDepth 100000 in
theorem fnExactTreeRead_lifted (os : Os) (started : os.Started) (H : Type) (enc : TypeId × Value → H) :
    ReturnsInHanded {} Try.checked os 8 .any (Rows.fnExactTreeReadSpec.pre6 enc Try.prog Try.f8 Rows.fnExactTreeReadRow.domain false) (Rows.fnExactTreeReadSpec.post enc Try.prog Try.f8 false true false false) := by
  refine returnsInHanded_of_change (C := Try.checked) own started (by kernel_rfl) Try.func8
    (ChangeSpec.witness6 (enc := enc) (C := Try.checked) false ⟨#[], #[.agg #[.slice none 0 0, .slice none 0 0], .agg #[.int .i64 0, .int .i64 0], .int .i64 0], []⟩ 8 (by kernel_rfl) (by kernel_rfl) (by kernel_rfl) (by kernel_rfl)) ?_
  intro W base args ds gs before hval0 hW hcnd _
  have hval : ∀ (j : Nat) t v, Try.f8.params[j]? = some t → args[j]? = some v → Value.okWide Try.prog W .any base t v := hval0
  have hW' := hW
  obtain ⟨p, q, hA0, hV, rfl, hfz, hnd⟩ := hW
  have hA : DataW.TrodAll enc Try.prog W 0 (fun _ => true) true Try.f8.params.toList args.toList ds p := hA0
  rw [Try.params8] at hA hval
  obtain ⟨v0, vs0, d0, ds0, p0, q0, hargs0, rfl, rfl, h0, r0⟩ := trodAll_cons hA
  obtain ⟨v1, vs1, d1, ds1, p1, q1, hargs1, rfl, rfl, h1, r1⟩ := trodAll_cons r0
  obtain ⟨v2, vs2, d2, ds2, p2, q2, hargs2, rfl, rfl, h2, r2⟩ := trodAll_cons r1
  obtain ⟨rfl, rfl, rfl⟩ := trodAll_nil r2
  obtain rfl : args = #[v0, v1, v2] := by cases args; simp_all
  obtain ⟨rfl, rfl⟩ := trodVars_none hV
  have k0 := h0
  have k1 := h1
  have k2 := h2
  have lt0 : ∀ x ∈ p0, x.block < W.heap.size := by obtain ⟨m, hm⟩ := k0; exact DataW.trod_lt m _ _ _ hm
  have lt1 : ∀ x ∈ p1, x.block < W.heap.size := by obtain ⟨m, hm⟩ := k1; exact DataW.trod_lt m _ _ _ hm
  have lt2 : ∀ x ∈ p2, x.block < W.heap.size := by obtain ⟨m, hm⟩ := k2; exact DataW.trod_lt m _ _ _ hm
  obtain ⟨s0a, s0b, pd0, rfl, hp0⟩ := open_pool (hval 0 25 v0 rfl rfl) h0
  obtain ⟨x1, y1, rfl⟩ := open_ptr (hval 1 51 v1 rfl rfl) h1
  obtain ⟨z2, rfl, e2, _, wz2⟩ := open_int Try.underlying2 (hval 2 2 v2 rfl rfl) h2
  clear hA0 hval0
  refine (fnExactTreeRead_walk s0a s0b pd0 x1 y1 z2 W hp0 wz2).mono fun e W' ⟨he, bel⟩ => ?_
  subst he
  exact ⟨_, rfl, _, _, _, [], _, [], hW', trodAll_mk1 (shut_bool Try.underlying4 _), (trodAll_cons_mk (Below.trod laidOut (by kernel_rfl) (of_decide_eq_true (by kernel_rfl)) k0 bel lt0) (trodAll_cons_mk (Below.trod laidOut (by kernel_rfl) (of_decide_eq_true (by kernel_rfl)) k1 bel lt1) (trodAll_cons_mk (Below.trod laidOut (by kernel_rfl) (of_decide_eq_true (by kernel_rfl)) k2 bel lt2) trodAll_mk0))), rfl, bel.frame _, fun h => by cases h⟩

theorem fnExactTreeRead_holds : Rows.FnExactTreeReadSaid :=
  OpenClaim.holds_of_wide 8 Try.f8 rfl rfl rfl rfl rfl rfl rfl ⟨rfl, rfl, rfl, rfl, rfl⟩ rfl rfl rfl rfl rfl (by kernel_rfl) Try.func8 (by kernel_rfl)
    (of_decide_eq_true (by kernel_rfl)) (by unfold Func.isWrapper; first | (rw [if_pos (by decide +kernel)]; kernel_rfl) | (rw [if_neg (by decide +kernel)]; exact ⟨rfl, rfl⟩))
    (fun os started H enc _ => fnExactTreeRead_lifted os started H enc)

end Go.Proofs.Ytiijnmpenljniad
