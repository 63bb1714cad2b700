/- For every pool and root that come in the law FnExactTreePtrs returns true: impl.TreePtrs answers as spec.TreePtrs, writes nothing of its argument, and its answer is memory of its own. No condition. -/
import Derived.Test.YtckamdnichangaeTreeL
import Derived.Test.YtckamdnichangaeLawKit
import Derived.Test.YtckamdnichangaeOpen
import Derived.OpenShut
import Derived.ChangeOld
import Derived.Deep.DeepCutAuto
namespace Go.Proofs.Ytckamdnichangae
open Go.ChangeShapes Go.WideShapes Go.ChangeAt Go.RowKit
set_option linter.unusedVariables false

theorem PoolOwn.at0 {w : World} {lo hi : Nat} {v0 v1 : Value} {p : PoolD} (h : PoolOwn w lo hi v0 v1 p) : PoolAt w 0 hi v0 v1 p := (h.wide (Nat.zero_le _) (Nat.le_refl _)).at
theorem poolVar_newT {p : PoolD} {w1 w2 : World} {a a' : Option Addr} {c c' : Nat} {t : TypeId} (ho : PoolOwn w2 w1.heap.size w2.heap.size (.slice a p.n c) (.slice a' p.hn c') p) (hb : Below w1.heap.size w1 w2) :
    Box2 (w2.alloc (.cells #[.slice a p.n c, .slice a' p.hn c'] t)) w2.heap.size (.slice a p.n c) (.slice a' p.hn c') ∧ PoolOwn (w2.alloc (.cells #[.slice a p.n c, .slice a' p.hn c'] t)) w1.heap.size w2.heap.size (.slice a p.n c) (.slice a' p.hn c') p ∧
      w1.heap.size ≤ w2.heap.size ∧ w2.heap.size < (w2.alloc (.cells #[.slice a p.n c, .slice a' p.hn c'] t)).heap.size ∧ Below w1.heap.size w1 (w2.alloc (.cells #[.slice a p.n c, .slice a' p.hn c'] t)) :=
  ⟨Box2.new _ _ _ _, ho.below (below_alloc _ _), hb.size, by rw [World.size_alloc]; exact Nat.lt_succ_self _, below_next hb (below_alloc _ _)⟩

set_option maxRecDepth 20000 in
set_option maxHeartbeats 4000000 in
theorem fnExactTreePtrs_walk (v0 v1 : Value) (p : PoolD) (xs xb : Int) (w : World) (h : PoolAt w 0 w.heap.size v0 v1 p) : Calls Try.prog 5 #[.agg #[v0, v1], .agg #[.int .i64 xs, .int .i64 xb]] w fun e w' => e = .returned (.bool true) ∧ Below w.heap.size w w' := by
  have Hp := hideT h
  obtain ⟨a, c, a', c', rfl, rfl⟩ := h.form
  clear h
  go_enter Try.func5, Try.ntmps5
  go_wp2_with fail
  have ha := below_next (below_alloc w (.cells #[.slice a p.n c, .slice a' p.hn c'] 25)) (below_alloc _ (.cells #[.int .i64 xs, .int .i64 xb] 27))
  refine (szPool_any _ _ _ _ p _ _ (Hp.out.below ha) (by omega) (by omega)).mono ?_
  rintro e w1 ⟨⟨r, rfl, hr1, hr2, hr3⟩, hb1⟩
  have Ha1 : Hid (Box2 w1 w.heap.size (.slice a p.n c) (.slice a' p.hn c')) := ((Box2.new w _ _ _).below (below_alloc _ _)).below hb1
  have Hx1 : Hid (Box2 w1 (w.heap.size + 1) (.int .i64 xs) (.int .i64 xb)) := by
    have := (Box2.new (w.alloc (.cells #[.slice a p.n c, .slice a' p.hn c'] 25)) (.int .i64 xs) (.int .i64 xb) 27).below hb1
    rw [World.size_alloc] at this
    exact this
  have hB1 := below_next ha hb1
  have Hr := hideT hr1
  clear ha hb1 hr1
  by_cases hr : r < 0
  · go_wp2
    go_ret
    exact ⟨rfl, hB1⟩
  · have HN : Hid (poolN p ≤ 1048576) := by have := Hr.out (by omega); show _ ≤ _; omega
    have hend := end_small HN.out
    generalize hqe : endP p 1 = qe at hend
    have Hqe := hideT hqe
    obtain ⟨hqe1, hqe2⟩ := hend
    have hqe0 : ¬ qe < 0 := by omega
    have hz1 : w.heap.size + 1 < w1.heap.size := Hx1.out.1.lt
    clear hqe
    obtain ⟨⟨x0, x1⟩, ⟨x2, x3⟩⟩ := Ha1.out
    obtain ⟨⟨y0, y1⟩, ⟨y2, y3⟩⟩ := Hx1.out
    go_wp2_with fail
    go_cut [6] (fun t wx => NewList p xs xb w1 t wx)
    case first =>
      go_region_held3 (fun w' => w'.cell? ⟨w.heap.size, 0, none⟩ = some (.slice a p.n c) ∧ w'.cell? ⟨w.heap.size, 1, none⟩ = some (.slice a' p.hn c') ∧ w'.cell? ⟨w.heap.size + 1, 0, none⟩ = some (.int .i64 xs) ∧ w'.cell? ⟨w.heap.size + 1, 1, none⟩ = some (.int .i64 xb)) (go_keep)
        (first
          | (go_at_call 11; refine (toPool_any _ _ 0 w.heap.size p _ ?_ HN.out).mono ?_; (first | exact Hp.out.below hB1.drew | exact Hp.out.below (below_next hB1 hCq)); rintro e wp ⟨v2, v3, rfl, hop, hbp⟩; obtain ⟨i0, j0, i1, j1, rfl, rfl⟩ := hop.form; have hCp : Below w1.heap.size w1 wp := (by first | exact below_undrew hbp | exact below_next hCq hbp); have zp0 := (Ha1.out.below hCp).1.1; have zp1 := (Ha1.out.below hCp).2.1; have zp2 := (Hx1.out.below hCp).1.1; have zp3 := (Hx1.out.below hCp).2.1)
          | (go_at_call 12; refine (toPtr_any _ _ _).mono ?_; rintro e wq ⟨rfl, hbq⟩; have hCq : Below w1.heap.size w1 wq := (by first | exact below_undrew hbq | exact below_next hCp hbq); have zq0 := (Ha1.out.below hCq).1.1; have zq1 := (Ha1.out.below hCq).2.1; have zq2 := (Hx1.out.below hCq).1.1; have zq3 := (Hx1.out.below hCq).2.1)
          | (go_at_call 21; refine (specTreePtrs_any _ _ 0 wp.heap.size p _ _  _ ?_).mono ?_; (first | exact hop.at0 | exact hop.at0.below hbq); rintro e w2 ⟨vr, lr, rfl, hlr, hrr, hb2⟩; have hC2 : Below w1.heap.size w1 w2 := (by first | exact below_next hCp hb2 | exact below_next hCq hb2); have zr0 := (Ha1.out.below hC2).1.1; have zr1 := (Ha1.out.below hC2).2.1; have zr2 := (Hx1.out.below hC2).1.1; have zr3 := (Hx1.out.below hC2).2.1))
      all_goals (go_wp2_with fail; go_meet)
      all_goals (case rel => first | exact newList_of hlr hrr hCq.size hC2 | exact newList_of hlr hrr hCp.size hC2)
    case rest =>
      clear y0 y1 y2 y3 x0 x1 x2 x3
      obtain ⟨l, lb, la, lc, rfl, hTL, hV, hBc⟩ := hcut
      obtain ⟨wA, rfl⟩ : ∃ x, x = wc := ⟨_, rfl⟩
      have HTL := hideT hTL
      have hl73 := treeList_len hTL
      have HV := hideT hV
      have hBA := below_next hB1 hBc
      have HaA := hideT (Ha1.out.below hBc)
      have HxA := hideT (Hx1.out.below hBc)
      have hzA := hBc.size
      clear hBc hTL hV hB1 Ha1 Hx1
      obtain ⟨⟨x0, x1⟩, ⟨x2, x3⟩⟩ := HaA.out
      go_wp2_with fail
      refine (toPool_any _ _ 0 w.heap.size p _ (Hp.out.below hBA) HN.out).mono ?_
      rintro e w2 ⟨z0, z1, rfl, ho2, hb2⟩
      obtain ⟨i0, j0, i1, j1, rfl, rfl⟩ := ho2.form
      have hnv := poolVar_newT (t := 31) ho2 hb2
      clear ho2 hb2 x0 x1 x2 x3
      go_wp2_with fail
      generalize w2.alloc (.cells #[.slice i0 p.n j0, .slice i1 p.hn j1] 31) = wB at hnv ⊢
      generalize w2.heap.size = X at hnv ⊢
      obtain ⟨hXb, hXo, hX1, hX2, hBc⟩ := hnv
      have HXb := hideT hXb
      have HXo := hideT hXo
      have HXat : Hid (PoolAt wB 0 wB.heap.size (.slice i0 p.n j0) (.slice i1 p.hn j1) p) := (hXo.wide (Nat.zero_le _) (Nat.le_of_lt hX2)).at
      have HVB := hideT (HV.out.below hBc)
      have HaB := hideT (HaA.out.below hBc)
      have HxB := hideT (HxA.out.below hBc)
      have hBB := below_next hBA hBc
      have hzB := hBc.size
      clear hBc hXb hXo hBA HaA HxA HV
      obtain ⟨⟨x0, x1⟩, ⟨x2, x3⟩⟩ := HXb.out
      obtain ⟨⟨y0, y1⟩, ⟨y2, y3⟩⟩ := HxB.out
      go_wp2_with fail
      go_cut [8] (fun t wx => NewList p xs xb wB t wx)
      case first =>
        go_region_held3 (fun w' => w'.cell? ⟨X, 0, none⟩ = some (.slice i0 p.n j0) ∧ w'.cell? ⟨X, 1, none⟩ = some (.slice i1 p.hn j1) ∧ w'.cell? ⟨w.heap.size + 1, 0, none⟩ = some (.int .i64 xs) ∧ w'.cell? ⟨w.heap.size + 1, 1, none⟩ = some (.int .i64 xb)) (go_keep)
          (first
          | (go_at_call 12; refine (toPtr_any _ _ _).mono ?_; rintro e wq ⟨rfl, hbq⟩; have hCq : Below wB.heap.size wB wq := (by first | exact below_undrew hbq | exact hbq); have zq0 := (HXb.out.below hCq).1.1; have zq1 := (HXb.out.below hCq).2.1; have zq2 := (HxB.out.below hCq).1.1; have zq3 := (HxB.out.below hCq).2.1)
          | (go_at_call 22; refine (implTreePtrs_any _ _ 0 wB.heap.size p _ _  _ ?_).mono ?_; (exact HXat.out.below hCq); rintro e w2 ⟨vr, lr, rfl, hlr, hrr, hb2⟩; have hC2 : Below wB.heap.size wB w2 := below_next hCq hb2; have zr0 := (HXb.out.below hC2).1.1; have zr1 := (HXb.out.below hC2).2.1; have zr2 := (HxB.out.below hC2).1.1; have zr3 := (HxB.out.below hC2).2.1))
        all_goals (go_wp2_with fail; go_meet)
        all_goals (case rel => exact newList_of hlr hrr hCq.size hC2)
      case rest =>
        clear y0 y1 y2 y3 x0 x1 x2 x3
        obtain ⟨m, gb, ga, gc, rfl, hTL, hG, hBc⟩ := hcut
        obtain ⟨wC, rfl⟩ : ∃ x, x = wc := ⟨_, rfl⟩
        obtain rfl := treeList_one hTL HTL.out
        have HG := hideT hG
        have HW := hideT (HVB.out.below hBc)
        have HxbC := hideT (HXb.out.below hBc)
        have HxoC := hideT (HXo.out.below hBc)
        have HaC := hideT (HaB.out.below hBc)
        have HxC := hideT (HxB.out.below hBc)
        have hBC := below_next hBB hBc
        have hzC := hBc.size
        clear hBc hTL hG hBB HXb HXo HXat HVB HaB HxB
        -- the answers are the same
        go_wp2_with fail
        refine (eqPtrS_any _ _ m.length m.length _ _ _ _ _ _ _ _ _ HG.out.at' HW.out.at').mono ?_
        rintro e w5 ⟨⟨t, rfl, ht⟩, hb5⟩
        obtain rfl : t = true := ht.2 ⟨rfl, fun _ _ => ⟨rfl, rfl⟩⟩
        have HG5 := hideT (HG.out.below hb5)
        have HW5 := hideT (HW.out.below hb5)
        have Hxb5 := hideT (HxbC.out.below hb5)
        have Hxo5 := hideT (HxoC.out.below hb5)
        have Ha5 := hideT (HaC.out.below hb5)
        have Hx5 := hideT (HxC.out.below hb5)
        have hB5 := below_next hBC hb5
        have hz5 := hb5.size
        clear ht hb5 hBC HG HW HxbC HxoC HaC HxC
        -- the argument is as it was
        obtain ⟨⟨x0, x1⟩, ⟨x2, x3⟩⟩ := Ha5.out
        obtain ⟨⟨y0, y1⟩, ⟨y2, y3⟩⟩ := Hxb5.out
        go_wp2_with fail
        go_region_held3 (fun w' => w'.cell? ⟨w.heap.size, 0, none⟩ = some (.slice a p.n c) ∧ w'.cell? ⟨w.heap.size, 1, none⟩ = some (.slice a' p.hn c') ∧ w'.cell? ⟨X, 0, none⟩ = some (.slice i0 p.n j0) ∧ w'.cell? ⟨X, 1, none⟩ = some (.slice i1 p.hn j1)) (go_keep)
          (first
            | (go_at_call 11; refine (toPool_any _ _ 0 w.heap.size p _ ?_ HN.out).mono ?_; (exact Hp.out.below hB5.drew); rintro e w6 ⟨u0, u1, rfl, ho6, hb6⟩; obtain ⟨k0, l0, k1, l1, rfl, rfl⟩ := ho6.form; have hb6' := below_undrew hb6; have z0 := (Ha5.out.below hb6').1.1; have z1 := (Ha5.out.below hb6').2.1; have z2 := (Hxb5.out.below hb6').1.1; have z3 := (Hxb5.out.below hb6').2.1)
            | (go_at_call 15; refine (eqPool_any _ _ _ _ _ _ _ _ p p _ (Hxo5.out.at.below hb6') ho6.at).mono ?_; rintro e w7 ⟨⟨t7, rfl, ht7⟩, hb7⟩; obtain rfl : t7 = true := ht7.2 (PoolEq.refl p); clear ht7; have hb7' := below_next hb6' hb7; have zz0 := (Ha5.out.below hb7').1.1; have zz1 := (Ha5.out.below hb7').2.1; have zz2 := (Hxb5.out.below hb7').1.1; have zz3 := (Hxb5.out.below hb7').2.1))
        have HG7 := hideT (HG5.out.below hb7')
        have HW7 := hideT (HW5.out.below hb7')
        have Hxb7 := hideT (Hxb5.out.below hb7')
        have Hxo7 := hideT (Hxo5.out.below hb7')
        have Ha7 := hideT (Ha5.out.below hb7')
        have Hx7 := hideT (Hx5.out.below hb7')
        have hB7 := below_next hB5 hb7'
        have hz7 := hb7'.size
        clear hb7' hb7 hb6 hb6' ho6 z0 z1 z2 z3 zz0 zz1 zz2 zz3 x0 x1 x2 x3 y0 y1 y2 y3 hB5 HG5 HW5 Hxb5 Hxo5 Ha5 Hx5
        -- marks are laid into the argument
        obtain ⟨⟨x0, x1⟩, ⟨x2, x3⟩⟩ := Hxb7.out
        go_wp2_with fail
        refine (markPool_own _ _ _ _ p 1 _ Hxo7.out (by omega) (by rw [Hqe.out]; omega)).mono ?_
        rintro e w8 ⟨rfl, ho8, ht8⟩
        rw [Hqe.out]
        have HG8 := hideT (HG7.out.turned ht8 (by omega))
        have HW8 := hideT (HW7.out.turned ht8 (by omega))
        have Ha8 := hideT (Ha7.out.turned ht8 (by omega))
        have Hx8 := hideT (Hx7.out.turned ht8 (by omega))
        have hB8 : Below w.heap.size w w8 := hB7.trans (ht8.below (by omega) (by omega))
        have hz8 := ht8.size
        clear ho8 ht8 x0 x1 x2 x3 hB7 HG7 HW7 Hxb7 Hxo7 Ha7 Hx7
        -- the answer stays
        go_wp2_with fail
        refine (eqPtrS_any _ _ m.length m.length _ _ _ _ _ _ _ _ _ HG8.out.at' HW8.out.at').mono ?_
        rintro e w9 ⟨⟨t, rfl, ht⟩, hb9⟩
        obtain rfl : t = true := ht.2 ⟨rfl, fun _ _ => ⟨rfl, rfl⟩⟩
        have HG9 := hideT (HG8.out.below hb9)
        have HW9 := hideT (HW8.out.below hb9)
        have Ha9 := hideT (Ha8.out.below hb9)
        have Hx9 := hideT (Hx8.out.below hb9)
        have hB9 := below_next hB8 hb9
        have hz9 := hb9.size
        clear ht hb9 hB8 HG8 HW8 Ha8 Hx8
        -- marks are laid into the answer
        have hpl := HG9.out.place
        go_wp2_with fail
        refine (markPtrS_any gb _ m.length _ _ 1 _ HG9.out.own (by omega) (by omega)).mono ?_
        rintro e w10 ⟨rfl, hp10, ht10⟩
        have HG10 : Hid (RowV w10 wB.heap.size wC.heap.size (.slice ga m.length gc) m.length (fun i => 1 + 2 * i) (fun i => 1 + 2 * i + 1) gb) := ⟨hp10, HG9.out.place⟩
        have HW10 := hideT (HW9.out.turned ht10 (fun k hx => by have := hpl hx.1; omega))
        have Ha10 := hideT (Ha9.out.turned ht10 (fun hx => by have := hpl hx.1; omega))
        have Hx10 := hideT (Hx9.out.turned ht10 (fun hx => by have := hpl hx.1; omega))
        have hB10 : Below w.heap.size w w10 := hB9.trans (ht10.below (by omega) (fun k hx => by have := hpl hx.1; omega))
        have hz10 := ht10.size
        have hm0 : ¬ (1 : Int) + 2 * (m.length : Int) < 0 := by omega
        have hmm : ((1 : Int) + 2 * (m.length : Int) != (1 : Int) + 2 * (m.length : Int)) = false := by simp
        clear hp10 ht10 hpl hB9 HG9 HW9 Ha9 Hx9
        -- and looked for
        go_wp2_with fail
        refine (heldPtrS_any _ m.length _ _ _ _ 1 _ HG10.out.at' (by omega) (by omega) (fun i _ => ⟨rfl, rfl⟩)).mono ?_
        rintro e w11 ⟨rfl, hb11⟩
        have HG11 := hideT (HG10.out.below hb11)
        have HW11 := hideT (HW10.out.below hb11)
        have Ha11 := hideT (Ha10.out.below hb11)
        have Hx11 := hideT (Hx10.out.below hb11)
        have hB11 := below_next hB10 hb11
        clear hb11 hB10 HG10 HW10 Ha10 Hx10
        -- a second answer
        obtain ⟨⟨x0, x1⟩, ⟨x2, x3⟩⟩ := Ha11.out
        obtain ⟨⟨y0, y1⟩, ⟨y2, y3⟩⟩ := Hx11.out
        go_wp2_with fail
        go_cut [12] (fun t wx => NewList p xs xb w11 t wx)
        case first =>
          go_region_held3 (fun w' => w'.cell? ⟨w.heap.size, 0, none⟩ = some (.slice a p.n c) ∧ w'.cell? ⟨w.heap.size, 1, none⟩ = some (.slice a' p.hn c') ∧ w'.cell? ⟨w.heap.size + 1, 0, none⟩ = some (.int .i64 xs) ∧ w'.cell? ⟨w.heap.size + 1, 1, none⟩ = some (.int .i64 xb)) (go_keep)
            (first
          | (go_at_call 11; refine (toPool_any _ _ 0 w.heap.size p _ ?_ HN.out).mono ?_; (first | exact Hp.out.below hB11.drew | exact Hp.out.below (below_next hB11 hCq)); rintro e wp ⟨v2, v3, rfl, hop, hbp⟩; obtain ⟨i0, j0, i1, j1, rfl, rfl⟩ := hop.form; have hCp : Below w11.heap.size w11 wp := (by first | exact below_undrew hbp | exact below_next hCq hbp); have zp0 := (Ha11.out.below hCp).1.1; have zp1 := (Ha11.out.below hCp).2.1; have zp2 := (Hx11.out.below hCp).1.1; have zp3 := (Hx11.out.below hCp).2.1)
          | (go_at_call 12; refine (toPtr_any _ _ _).mono ?_; rintro e wq ⟨rfl, hbq⟩; have hCq : Below w11.heap.size w11 wq := (by first | exact below_undrew hbq | exact below_next hCp hbq); have zq0 := (Ha11.out.below hCq).1.1; have zq1 := (Ha11.out.below hCq).2.1; have zq2 := (Hx11.out.below hCq).1.1; have zq3 := (Hx11.out.below hCq).2.1)
          | (go_at_call 22; refine (implTreePtrs_any _ _ 0 wp.heap.size p _ _  _ ?_).mono ?_; (first | exact hop.at0 | exact hop.at0.below hbq); rintro e w2 ⟨vr, lr, rfl, hlr, hrr, hb2⟩; have hC2 : Below w11.heap.size w11 w2 := (by first | exact below_next hCp hb2 | exact below_next hCq hb2); have zr0 := (Ha11.out.below hC2).1.1; have zr1 := (Ha11.out.below hC2).2.1; have zr2 := (Hx11.out.below hC2).1.1; have zr3 := (Hx11.out.below hC2).2.1))
          all_goals (go_wp2_with fail; go_meet)
          all_goals (case rel => first | exact newList_of hlr hrr hCq.size hC2 | exact newList_of hlr hrr hCp.size hC2)
        case rest =>
          clear x0 x1 x2 x3 y0 y1 y2 y3
          obtain ⟨q, eb, ea, ec, rfl, hTL, hE, hBc⟩ := hcut
          obtain rfl := treeList_one hTL HTL.out
          have HE := hideT hE
          have HG12 := hideT (HG11.out.below hBc)
          have HW12 := hideT (HW11.out.below hBc)
          have hB12 := below_next hB11 hBc
          clear hBc hE hTL hB11 HG11 HW11 Ha11 Hx11
          go_wp2_with fail
          refine (eqPtrS_any _ _ q.length q.length _ _ _ _ _ _ _ _ _ HE.out.at' HW12.out.at').mono ?_
          rintro e w13 ⟨⟨t, rfl, ht⟩, hb13⟩
          obtain rfl : t = true := ht.2 ⟨rfl, fun _ _ => ⟨rfl, rfl⟩⟩
          have HG13 := hideT (HG12.out.below hb13)
          have hB13 := below_next hB12 hb13
          clear ht hb13 hB12 HG12 HW12 HE
          -- the marks are there still
          go_wp2_with fail
          refine (heldPtrS_any _ q.length _ _ _ _ 1 _ HG13.out.at' (by omega) (by omega) (fun i _ => ⟨rfl, rfl⟩)).mono ?_
          rintro e w14 ⟨rfl, hb14⟩
          have hB14 := below_next hB13 hb14
          go_wp2
          go_ret
          exact ⟨rfl, hB14⟩

theorem own : ownKnob Try.prog.godebug = none := by kernel_rfl
theorem laidOut : laidOutB Try.prog = true := by kernel_rfl

set_option maxRecDepth 100000 in
theorem fnExactTreePtrs_lifted (os : Os) (started : os.Started) (H : Type) (enc : TypeId × Value → H) :
    ReturnsInHanded {} Try.checked os 5 .any (Rows.fnExactTreePtrsSpec.pre6 enc Try.prog Try.f5 Rows.fnExactTreePtrsRow.domain false) (Rows.fnExactTreePtrsSpec.post enc Try.prog Try.f5 false true false false) := by
  refine returnsInHanded_of_change (C := Try.checked) own started (by kernel_rfl) Try.func5
    (ChangeSpec.witness6 (enc := enc) (C := Try.checked) false ⟨#[], #[.agg #[.slice none 0 0, .slice none 0 0], .agg #[.int .i64 0, .int .i64 0]], []⟩ 8 (by kernel_rfl) (by kernel_rfl) (by kernel_rfl) (by kernel_rfl)) ?_
  intro W base args ds gs before hval0 hW hcnd _
  have hval : ∀ (j : Nat) t v, Try.f5.params[j]? = some t → args[j]? = some v → Value.okWide Try.prog W .any base t v := hval0
  have hW' := hW
  obtain ⟨p, q, hA0, hV, rfl, hfz, hnd⟩ := hW
  have hA : DataW.TrodAll enc Try.prog W 0 (fun _ => true) true Try.f5.params.toList args.toList ds p := hA0
  rw [Try.params5] at hA hval
  obtain ⟨v0, vs0, d0, ds0, p0, q0, hargs0, rfl, rfl, h0, r0⟩ := trodAll_cons hA
  obtain ⟨v1, vs1, d1, ds1, p1, q1, hargs1, rfl, rfl, h1, r1⟩ := trodAll_cons r0
  obtain ⟨rfl, rfl, rfl⟩ := trodAll_nil r1
  obtain rfl : args = #[v0, v1] := by cases args; simp_all
  obtain ⟨rfl, rfl⟩ := trodVars_none hV
  have k0 := h0
  have k1 := h1
  have lt0 : ∀ x ∈ p0, x.block < W.heap.size := by obtain ⟨m, hm⟩ := k0; exact DataW.trod_lt m _ _ _ hm
  have lt1 : ∀ x ∈ p1, x.block < W.heap.size := by obtain ⟨m, hm⟩ := k1; exact DataW.trod_lt m _ _ _ hm
  obtain ⟨s0a, s0b, pd0, rfl, hp0⟩ := open_pool (hval 0 25 v0 rfl rfl) h0
  obtain ⟨x1, y1, rfl⟩ := open_ptr (hval 1 27 v1 rfl rfl) h1
  clear hA0 hval0
  refine (fnExactTreePtrs_walk s0a s0b pd0 x1 y1 W hp0).mono fun e W' ⟨he, bel⟩ => ?_
  subst he
  exact ⟨_, rfl, _, _, _, [], _, [], hW', trodAll_mk1 (shut_bool Try.underlying4 _), (trodAll_cons_mk (Below.trod laidOut (by kernel_rfl) (of_decide_eq_true (by kernel_rfl)) k0 bel lt0) (trodAll_cons_mk (Below.trod laidOut (by kernel_rfl) (of_decide_eq_true (by kernel_rfl)) k1 bel lt1) trodAll_mk0)), rfl, bel.frame _, fun h => by cases h⟩

theorem fnExactTreePtrs_holds : Rows.FnExactTreePtrsSaid :=
  OpenClaim.holds_of_wide 5 Try.f5 rfl rfl rfl rfl rfl rfl rfl ⟨rfl, rfl, rfl, rfl, rfl⟩ rfl rfl rfl rfl rfl (by kernel_rfl) Try.func5 (by kernel_rfl)
    (of_decide_eq_true (by kernel_rfl)) (by unfold Func.isWrapper; first | (rw [if_pos (by decide +kernel)]; kernel_rfl) | (rw [if_neg (by decide +kernel)]; exact ⟨rfl, rfl⟩))
    (fun os started H enc _ => fnExactTreePtrs_lifted os started H enc)

end Go.Proofs.Ytckamdnichangae
