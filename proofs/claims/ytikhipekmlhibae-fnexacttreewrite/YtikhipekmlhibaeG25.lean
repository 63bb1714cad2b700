/- For every pool, root, page number, text and birth that come in the law FnExactTreeWrite returns true: impl.TreeWrite answers as spec.TreeWrite, writes nothing of its argument, and its answer is memory of its own. No condition. -/
import Derived.Test.YtikhipekmlhibaeG20
import Derived.Test.YtikhipekmlhibaeG21
import Derived.Test.YtikhipekmlhibaeG23
import Derived.Test.YtikhipekmlhibaeG24
import Derived.OpenShut
import Derived.ChangeOld
import Derived.ChangeMaps5
import Derived.Deep.DeepCutAuto
namespace Go.Proofs.Ytikhipekmlhibae
open Go.ChangeShapes Go.WideShapes Go.ChangeAt Go.RowKit
open Go.ChangeMaps (open_string)
set_option linter.unusedVariables false

set_option maxRecDepth 20000 in
set_option maxHeartbeats 16000000 in
theorem fnExactTreeWrite_walk (v0 v1 : Value) (p : PoolD) (xs xb page : Int) (d : ByteArray) (b : Int) (w : World) (h : PoolAt w 0 w.heap.size v0 v1 p) (hp0 : (Lit.int .i64 page).wf = true) (hd0 : d.size ≤ maxLen) (hb0 : (Lit.int .i64 b).wf = true) : Calls Try.prog 3 #[.agg #[v0, v1], .agg #[.int .i64 xs, .int .i64 xb], .int .i64 page, .string d, .int .i64 b] w fun e w' => e = .returned (.bool true) ∧ Below w.heap.size w w' := by
  have Hp : Hid (PoolAt w 0 w.heap.size v0 v1 p) := h
  obtain ⟨a, c, a', c', rfl, rfl⟩ := h.form
  clear h
  rcases Nat.lt_or_ge 1048576 d.size with hd1 | hd1
  · have hd2 : (1048576 : Int) < (d.size : Int) := by omega
    go_enter Try.func3, Try.ntmps3
    go_wp2
    go_ret
    exact ⟨rfl, below_next (below_alloc w (.cells #[.slice a p.n c, .slice a' p.hn c'] 25)) (below_alloc _ (.cells #[.int .i64 xs, .int .i64 xb] 27))⟩
  have hd2 : ¬ (1048576 : Int) < (d.size : Int) := by omega
  clear hd1 hd0
  go_enter Try.func3, Try.ntmps3
  go_wp2_with fail
  have ha := below_next (below_alloc w (.cells #[.slice a p.n c, .slice a' p.hn c'] 25)) (below_alloc _ (.cells #[.int .i64 xs, .int .i64 xb] 27))
  refine (szPool_any _ _ _ _ p _ _ (Hp.out.below ha) (by omega) (by omega)).mono ?_
  rintro e w1 ⟨⟨r, rfl, hr1, hr2, hr3⟩, hb1⟩
  have Ha1 : Hid (Box2 w1 w.heap.size (.slice a p.n c) (.slice a' p.hn c')) := ((Box2.new w _ _ _).below (below_alloc _ _)).below hb1
  have Hx1 : Hid (Box2 w1 (w.heap.size + 1) (.int .i64 xs) (.int .i64 xb)) := by
    have := (Box2.new (w.alloc (.cells #[.slice a p.n c, .slice a' p.hn c'] 25)) (.int .i64 xs) (.int .i64 xb) 27).below hb1
    rw [World.size_alloc] at this
    exact this
  have hB1 := below_next ha hb1
  have Hr : Hid (0 ≤ r → r + poolN p = 1048576) := hr1
  clear ha hb1 hr1
  by_cases hr : r < 0
  · go_wp2
    go_ret
    exact ⟨rfl, hB1⟩
  · have HN : Hid (poolN p ≤ 1048576) := by have := Hr.out (by omega); show _ ≤ _; omega
    have hz1 : w.heap.size + 1 < w1.heap.size := Hx1.out.1.lt
    have hend := end_small HN.out
    have hol : (writeT p xs xb page d b).old.length ≤ 3 := (write_small p xs xb page d b).2
    have hend2 := end_small3 (p := (writeT p xs xb page d b).pool) (by have := (write_small p xs xb page d b).1; have := HN.out; omega)
    generalize hqe : endP p 1 = qe at hend
    have Hqe := hide hqe
    have SP : Hid (∀ v0 v1 lo hi w, PoolAt w lo hi v0 v1 p → Calls Try.prog 10 #[.agg #[v0, v1], .agg #[.int .i64 xs, .int .i64 xb], .int .i64 page, .string d, .int .i64 b] w (NewTree (writeT p xs xb page d b) w)) := fun v0 v1 lo hi w h => specTreeWrite_any v0 v1 lo hi p xs xb page b d w h
    have IM : Hid (∀ v0 v1 lo hi w, PoolAt w lo hi v0 v1 p → Calls Try.prog 13 #[.agg #[v0, v1], .agg #[.int .i64 xs, .int .i64 xb], .int .i64 page, .string d, .int .i64 b] w (NewTree (writeT p xs xb page d b) w)) := fun v0 v1 lo hi w h => implTreeWrite_any v0 v1 lo hi p xs xb page b d w h
    generalize writeT p xs xb page d b = o at hend2 hol SP IM
    generalize hge : endP o.pool 1 = ge at hend2
    have Hge := hide hge
    obtain ⟨hqe1, hqe2⟩ := hend
    obtain ⟨hge1, hge2⟩ := hend2
    have hqe0 : ¬ qe < 0 := by omega
    have hge0 : ¬ ge + 2 * (o.old.length : Int) < 0 := by omega
    have hgg : (ge + 2 * (o.old.length : Int) != ge + 2 * (o.old.length : Int)) = false := by simp
    clear hqe hge
    -- the specification's answer
    obtain ⟨⟨x0, x1⟩, ⟨x2, x3⟩⟩ := Ha1.out
    obtain ⟨⟨y0, y1⟩, ⟨y2, y3⟩⟩ := Hx1.out
    have n0 : w1.heap.size ≠ w.heap.size := by omega
    have n1 : w1.heap.size ≠ w.heap.size + 1 := by omega
    go_wp2_with fail
    go_cut [12] (fun t wx => NewTreeVar o w1 t wx)
    case first =>
      go_region_held3 (fun w' => w'.cell? ⟨w.heap.size, 0, none⟩ = some (.slice a p.n c) ∧ w'.cell? ⟨w.heap.size, 1, none⟩ = some (.slice a' p.hn c') ∧ w'.cell? ⟨w.heap.size + 1, 0, none⟩ = some (.int .i64 xs) ∧ w'.cell? ⟨w.heap.size + 1, 1, none⟩ = some (.int .i64 xb)) (go_keep)
        (first
          | (go_at_call 11; refine (toPool_any _ _ 0 w.heap.size p _ ?_ HN.out).mono ?_; (first | exact Hp.out.below hB1.drew | exact Hp.out.below (below_next hB1 hCq) | exact Hp.out.below (below_next hB1 (below_undrew (below_alloc _ _))) | exact Hp.out.below (below_next hB1 (below_next hCq (below_alloc _ _)))); rintro e wp ⟨v2, v3, rfl, hop, hbp⟩; obtain ⟨i0, j0, i1, j1, rfl, rfl⟩ := hop.form; have hCp : Below w1.heap.size w1 wp := (by first | exact below_undrew hbp | exact below_next hCq hbp | exact below_next (below_undrew (below_alloc _ _)) hbp | exact below_next (below_next hCq (below_alloc _ _)) hbp); (first | (have hLp : Box6 wp w1.heap.size (.slice none 0 0) (.slice none 0 0) (.int .i64 0) (.int .i64 0) (.slice none 0 0) (.int .i64 0) := (Box6.new w1 _ _ _ _ _ _ _).below hbp) | (have hLp := (Box6.new _ _ _ _ _ _ _ _).below hbp) | (have hLp : Box6 wp w1.heap.size (.slice none 0 0) (.slice none 0 0) (.int .i64 0) (.int .i64 0) (.slice none 0 0) (.int .i64 0) := (Box6.new w1 _ _ _ _ _ _ _).below (below_undrew hbp)) | (have hLp := hLq.below hbp) | skip); have np0 : wp.heap.size ≠ w.heap.size := (by have := hCp.size; omega); have np1 : wp.heap.size ≠ w.heap.size + 1 := (by have := hCp.size; omega); have zp0 := (Ha1.out.below hCp).1.1; have zp1 := (Ha1.out.below hCp).2.1; have zp2 := (Hx1.out.below hCp).1.1; have zp3 := (Hx1.out.below hCp).2.1)
          | (go_at_call 12; refine (toPtr_any _ _ _).mono ?_; rintro e wq ⟨rfl, hbq⟩; have hCq : Below w1.heap.size w1 wq := (by first | exact below_undrew hbq | exact below_next hCp hbq | exact below_next (below_undrew (below_alloc _ _)) hbq | exact below_next (below_next hCp (below_alloc _ _)) hbq); (first | (have hLq : Box6 wq w1.heap.size (.slice none 0 0) (.slice none 0 0) (.int .i64 0) (.int .i64 0) (.slice none 0 0) (.int .i64 0) := (Box6.new w1 _ _ _ _ _ _ _).below hbq) | (have hLq := (Box6.new _ _ _ _ _ _ _ _).below hbq) | (have hLq : Box6 wq w1.heap.size (.slice none 0 0) (.slice none 0 0) (.int .i64 0) (.int .i64 0) (.slice none 0 0) (.int .i64 0) := (Box6.new w1 _ _ _ _ _ _ _).below (below_undrew hbq)) | (have hLq := hLp.below hbq) | skip); have nq0 : wq.heap.size ≠ w.heap.size := (by have := hCq.size; omega); have nq1 : wq.heap.size ≠ w.heap.size + 1 := (by have := hCq.size; omega); have zq0 := (Ha1.out.below hCq).1.1; have zq1 := (Ha1.out.below hCq).2.1; have zq2 := (Hx1.out.below hCq).1.1; have zq3 := (Hx1.out.below hCq).2.1)
          | (go_at_call 10; refine (SP.out _ _ 0 wp.heap.size _ ?_).mono ?_; (first | exact hop.at00 | exact hop.at00.below hbq | exact hop.at00.below (below_alloc _ _) | exact (hop.at00.below hbq).below (below_alloc _ _) | exact (hop.at00.below (below_alloc _ _)).below hbq); rintro e w2 hnt; obtain ⟨s0, s1, so, rfl, ho2, hb2⟩ := hnt.mem hol; clear hnt; obtain ⟨oa, oc, ob, od, of, og, rfl, rfl, rfl⟩ := ho2.form; have hC2 : Below w1.heap.size w1 w2 := (by first | exact below_next hCp hb2 | exact below_next hCq hb2 | exact below_next (below_next hCp (below_alloc _ _)) hb2 | exact below_next (below_next hCq (below_alloc _ _)) hb2); (first | (have hL2 := (Box6.new _ _ _ _ _ _ _ _).below hb2; have l0 := hL2.1.1; have l1 := hL2.1.2; have l2 := hL2.2.1.1; have l3 := hL2.2.1.2; have l4 := hL2.2.2.1.1; have l5 := hL2.2.2.1.2; have l6 := hL2.2.2.2.1.1; have l7 := hL2.2.2.2.1.2; have l8 := hL2.2.2.2.2.1.1; have l9 := hL2.2.2.2.2.1.2; have l10 := hL2.2.2.2.2.2.1; have l11 := hL2.2.2.2.2.2.2) | (have hL2 := hLp.below hb2; have l0 := hL2.1.1; have l1 := hL2.1.2; have l2 := hL2.2.1.1; have l3 := hL2.2.1.2; have l4 := hL2.2.2.1.1; have l5 := hL2.2.2.1.2; have l6 := hL2.2.2.2.1.1; have l7 := hL2.2.2.2.1.2; have l8 := hL2.2.2.2.2.1.1; have l9 := hL2.2.2.2.2.1.2; have l10 := hL2.2.2.2.2.2.1; have l11 := hL2.2.2.2.2.2.2) | (have hL2 := hLq.below hb2; have l0 := hL2.1.1; have l1 := hL2.1.2; have l2 := hL2.2.1.1; have l3 := hL2.2.1.2; have l4 := hL2.2.2.1.1; have l5 := hL2.2.2.1.2; have l6 := hL2.2.2.2.1.1; have l7 := hL2.2.2.2.1.2; have l8 := hL2.2.2.2.2.1.1; have l9 := hL2.2.2.2.2.1.2; have l10 := hL2.2.2.2.2.2.1; have l11 := hL2.2.2.2.2.2.2) | skip); have zr0 := (Ha1.out.below hC2).1.1; have zr1 := (Ha1.out.below hC2).2.1; have zr2 := (Hx1.out.below hC2).1.1; have zr3 := (Hx1.out.below hC2).2.1))
      all_goals (go_wp2_with fail; go_meet)
      all_goals (case rel => first | (have hf := newTree_early' hC2 hL2 ho2 (by first | exact Nat.le_refl _ | exact hCp.size | exact hCq.size) (by first | (rw [World.size_alloc]; exact Nat.lt_succ_self _) | exact hLq.1.lt | exact hLp.1.lt); exact hf _ rfl) | (have hf := newTree_late' (t := 35) hC2 ho2 (by first | exact hCq.size | exact hCp.size); exact hf _ rfl))
    case rest =>
      clear y0 y1 y2 y3 x0 x1 x2 x3 n0 n1
      obtain ⟨L, a3, c3, a4, c4, aL, cL, loL, hiL, rfl, hL, hL1, hL2, hL3, hL4, hL5, hBc⟩ := hcut
      obtain ⟨wA, rfl⟩ : ∃ x, x = wc := ⟨_, rfl⟩
      have HLA := hide hL
      have hBA := below_next hB1 hBc
      have HaA := hide (Ha1.out.below hBc)
      have HxA := hide (Hx1.out.below hBc)
      have hzA := hBc.size
      clear hBc hL hB1 Ha1 Hx1
      -- the copy that the call is given
      obtain ⟨⟨x0, x1⟩, ⟨x2, x3⟩⟩ := HaA.out
      go_wp2_with fail
      refine (toPool_any _ _ 0 w.heap.size p _ (Hp.out.below hBA) HN.out).mono ?_
      rintro e w2 ⟨z0, z1, rfl, ho2, hb2⟩
      obtain ⟨i0, j0, i1, j1, rfl, rfl⟩ := ho2.form
      have hnv := poolVar_new (t := 31) ho2 hb2
      clear ho2 hb2 x0 x1 x2 x3
      go_wp2_with fail
      generalize w2.alloc (.cells #[.slice i0 p.n j0, .slice i1 p.hn j1] 31) = wB at hnv ⊢
      generalize w2.heap.size = X at hnv ⊢
      obtain ⟨hX, hX1, hX2, hBc⟩ := hnv
      have HXB := hide hX
      have HXb := hide hX.box
      have HXat : Hid (PoolAt wB 0 wB.heap.size (.slice i0 p.n j0) (.slice i1 p.hn j1) p) := (hX.own.wide (Nat.zero_le _) (Nat.le_of_lt hX2)).at
      have HLB := hide (HLA.out.below hBc)
      have HaB := hide (HaA.out.below hBc)
      have HxB := hide (HxA.out.below hBc)
      have hBB := below_next hBA hBc
      have hzB := hBc.size
      clear hBc hX hBA HaA HxA HLA
      -- its answer
      obtain ⟨⟨x0, x1⟩, ⟨x2, x3⟩⟩ := HXb.out
      obtain ⟨⟨y0, y1⟩, ⟨y2, y3⟩⟩ := HxB.out
      have n0 : wB.heap.size ≠ X := by omega
      have n1 : wB.heap.size ≠ w.heap.size + 1 := by omega
      go_wp2_with fail
      go_cut [14] (fun t wx => NewTreeVar o wB t wx)
      case first =>
        go_region_held3 (fun w' => w'.cell? ⟨X, 0, none⟩ = some (.slice i0 p.n j0) ∧ w'.cell? ⟨X, 1, none⟩ = some (.slice i1 p.hn j1) ∧ w'.cell? ⟨w.heap.size + 1, 0, none⟩ = some (.int .i64 xs) ∧ w'.cell? ⟨w.heap.size + 1, 1, none⟩ = some (.int .i64 xb)) (go_keep)
          (first
          | (go_at_call 12; refine (toPtr_any _ _ _).mono ?_; rintro e wq ⟨rfl, hbq⟩; have hCq : Below wB.heap.size wB wq := (by first | exact below_undrew hbq | exact below_next (below_undrew (below_alloc _ _)) hbq | exact below_next (below_alloc _ _) (below_undrew hbq)); (first | (have hLq : Box6 wq wB.heap.size (.slice none 0 0) (.slice none 0 0) (.int .i64 0) (.int .i64 0) (.slice none 0 0) (.int .i64 0) := (Box6.new wB _ _ _ _ _ _ _).below hbq) | (have hLq := (Box6.new _ _ _ _ _ _ _ _).below hbq) | (have hLq : Box6 wq wB.heap.size (.slice none 0 0) (.slice none 0 0) (.int .i64 0) (.int .i64 0) (.slice none 0 0) (.int .i64 0) := (Box6.new wB _ _ _ _ _ _ _).below (below_undrew hbq)) | skip); have nq0 : wq.heap.size ≠ X := (by have := hCq.size; omega); have nq1 : wq.heap.size ≠ w.heap.size + 1 := (by have := hCq.size; omega); have zq0 := (HXb.out.below hCq).1.1; have zq1 := (HXb.out.below hCq).2.1; have zq2 := (HxB.out.below hCq).1.1; have zq3 := (HxB.out.below hCq).2.1)
          | (go_at_call 13; refine (IM.out _ _ 0 wB.heap.size _ ?_).mono ?_; (first | exact HXat.out.below hCq | exact (HXat.out.below hCq).below (below_alloc _ _)); rintro e w2 hnt; obtain ⟨s0, s1, so, rfl, ho2, hb2⟩ := hnt.mem hol; clear hnt; obtain ⟨oa, oc, ob, od, of, og, rfl, rfl, rfl⟩ := ho2.form; have hC2 : Below wB.heap.size wB w2 := (by first | exact below_next hCq hb2 | exact below_next (below_next hCq (below_alloc _ _)) hb2); (first | (have hL2 := (Box6.new _ _ _ _ _ _ _ _).below hb2; have l0 := hL2.1.1; have l1 := hL2.1.2; have l2 := hL2.2.1.1; have l3 := hL2.2.1.2; have l4 := hL2.2.2.1.1; have l5 := hL2.2.2.1.2; have l6 := hL2.2.2.2.1.1; have l7 := hL2.2.2.2.1.2; have l8 := hL2.2.2.2.2.1.1; have l9 := hL2.2.2.2.2.1.2; have l10 := hL2.2.2.2.2.2.1; have l11 := hL2.2.2.2.2.2.2) | (have hL2 := hLq.below hb2; have l0 := hL2.1.1; have l1 := hL2.1.2; have l2 := hL2.2.1.1; have l3 := hL2.2.1.2; have l4 := hL2.2.2.1.1; have l5 := hL2.2.2.1.2; have l6 := hL2.2.2.2.1.1; have l7 := hL2.2.2.2.1.2; have l8 := hL2.2.2.2.2.1.1; have l9 := hL2.2.2.2.2.1.2; have l10 := hL2.2.2.2.2.2.1; have l11 := hL2.2.2.2.2.2.2) | skip); have zr0 := (HXb.out.below hC2).1.1; have zr1 := (HXb.out.below hC2).2.1; have zr2 := (HxB.out.below hC2).1.1; have zr3 := (HxB.out.below hC2).2.1))
        all_goals (go_wp2_with fail; go_meet)
        all_goals (case rel => first | (have hf := newTree_early' hC2 hL2 ho2 (by first | exact Nat.le_refl _ | exact hCp.size | exact hCq.size) (by first | (rw [World.size_alloc]; exact Nat.lt_succ_self _) | exact hLq.1.lt | exact hLp.1.lt); exact hf _ rfl) | (have hf := newTree_late' (t := 35) hC2 ho2 (by first | exact hCq.size | exact hCp.size); exact hf _ rfl))
      case rest =>
        clear x0 x1 x2 x3 y0 y1 y2 y3 n0 n1
        obtain ⟨G, a7, c7, a8, c8, aG, cG, loG, hiG, rfl, hG, hG1, hG2, hG3, hG4, hG5, hBc⟩ := hcut
        obtain ⟨wC, rfl⟩ : ∃ x, x = wc := ⟨_, rfl⟩
        have HGC := hide hG
        have HLC := hide (HLB.out.below hBc)
        have HXC := hide (HXB.out.below hBc)
        have HaC := hide (HaB.out.below hBc)
        have HxC := hide (HxB.out.below hBc)
        have hBC := below_next hBB hBc
        have hzC := hBc.size
        clear hBc hG hBB HaB HxB HLB HXB HXb HXat
        -- the answers are the same
        obtain ⟨⟨x0, x1⟩, ⟨x2, x3⟩, ⟨x4, x5⟩, ⟨x6, x7⟩, ⟨x8, x9⟩, ⟨x10, x11⟩⟩ := HGC.out.box
        obtain ⟨⟨y0, y1⟩, ⟨y2, y3⟩, ⟨y4, y5⟩, ⟨y6, y7⟩, ⟨y8, y9⟩, ⟨y10, y11⟩⟩ := HLC.out.box
        go_wp2_with fail
        refine (eqTreeOut_same _ _ _ _ _ _ _ _ _ _ o _ HGC.out.mem.pool HLC.out.mem.pool HGC.out.mem.row HLC.out.mem.row).mono ?_
        rintro e w6 ⟨rfl, hb6⟩
        have Ha6 := hide (HaC.out.below hb6)
        have Hx6 := hide (HxC.out.below hb6)
        have HL6 := hide (HLC.out.below hb6)
        have HX6 := hide (HXC.out.below hb6)
        have HG6 := hide (HGC.out.below hb6)
        have hB6 := below_next hBC hb6
        have hz6 := hb6.size
        clear hb6 hBC HaC HxC HLC HXC HGC x0 x1 x2 x3 x4 x5 x6 x7 x8 x9 x10 x11 y0 y1 y2 y3 y4 y5 y6 y7 y8 y9 y10 y11
        -- the argument is as it was
        obtain ⟨⟨x0, x1⟩, ⟨x2, x3⟩⟩ := Ha6.out
        obtain ⟨⟨y0, y1⟩, ⟨y2, y3⟩⟩ := HX6.out.box
        go_wp2_with fail
        go_region_held3 (fun w' => w'.cell? ⟨w.heap.size, 0, none⟩ = some (.slice a p.n c) ∧ w'.cell? ⟨w.heap.size, 1, none⟩ = some (.slice a' p.hn c') ∧ w'.cell? ⟨X, 0, none⟩ = some (.slice i0 p.n j0) ∧ w'.cell? ⟨X, 1, none⟩ = some (.slice i1 p.hn j1)) (go_keep)
          (first
            | (go_at_call 11; refine (toPool_any _ _ 0 w.heap.size p _ ?_ HN.out).mono ?_; (exact Hp.out.below hB6.drew); rintro e w7 ⟨u0, u1, rfl, ho7, hb7⟩; obtain ⟨k0, l0, k1, l1, rfl, rfl⟩ := ho7.form; have hb7' := below_undrew hb7; have z0 := (Ha6.out.below hb7').1.1; have z1 := (Ha6.out.below hb7').2.1; have z2 := (HX6.out.box.below hb7').1.1; have z3 := (HX6.out.box.below hb7').2.1)
            | (go_at_call 15; refine (eqPool_any _ _ _ _ _ _ _ _ p p _ (HX6.out.own.at.below hb7') ho7.at).mono ?_; rintro e w8 ⟨⟨t8, rfl, ht8⟩, hb8⟩; obtain rfl : t8 = true := ht8.2 (PoolEq.refl p); clear ht8; have hb8' := below_next hb7' hb8; have zz0 := (Ha6.out.below hb8').1.1; have zz1 := (Ha6.out.below hb8').2.1; have zz2 := (HX6.out.box.below hb8').1.1; have zz3 := (HX6.out.box.below hb8').2.1))
        have Ha8 := hide (Ha6.out.below hb8')
        have Hx8 := hide (Hx6.out.below hb8')
        have HL8 := hide (HL6.out.below hb8')
        have HX8 := hide (HX6.out.below hb8')
        have HG8 := hide (HG6.out.below hb8')
        have hB8 := below_next hB6 hb8'
        have hz8 := hb8'.size
        clear hb8' hb8 hb7 hb7' ho7 z0 z1 z2 z3 zz0 zz1 zz2 zz3 x0 x1 x2 x3 y0 y1 y2 y3 hB6 Ha6 Hx6 HL6 HX6 HG6
        -- the marks are laid into the argument
        obtain ⟨⟨x0, x1⟩, ⟨x2, x3⟩⟩ := HX8.out.box
        go_wp2_with fail
        refine (markPool_own _ _ _ _ p 1 _ HX8.out.own (by omega) (by rw [Hqe.out]; omega)).mono ?_
        rintro e w9 ⟨rfl, ho9, ht9⟩
        rw [Hqe.out]
        have Ha9 := hide (Ha8.out.turned ht9 (by omega))
        have Hx9 := hide (Hx8.out.turned ht9 (by omega))
        have HL9 := hide (HL8.out.turned ht9 (by omega) (by omega))
        have HG9 := hide (HG8.out.turned ht9 (by omega) (by omega))
        have hB9 : Below w.heap.size w w9 := hB8.trans (ht9.below (by omega) (by omega))
        have hz9 := ht9.size
        clear ho9 ht9 x0 x1 x2 x3 hB8 Ha8 Hx8 HL8 HX8 HG8
        -- the answer stays
        obtain ⟨⟨x0, x1⟩, ⟨x2, x3⟩, ⟨x4, x5⟩, ⟨x6, x7⟩, ⟨x8, x9⟩, ⟨x10, x11⟩⟩ := HG9.out.box
        obtain ⟨⟨y0, y1⟩, ⟨y2, y3⟩, ⟨y4, y5⟩, ⟨y6, y7⟩, ⟨y8, y9⟩, ⟨y10, y11⟩⟩ := HL9.out.box
        go_wp2_with fail
        refine (eqTreeOut_same _ _ _ _ _ _ _ _ _ _ o _ HG9.out.mem.pool HL9.out.mem.pool HG9.out.mem.row HL9.out.mem.row).mono ?_
        rintro e w10 ⟨rfl, hb10⟩
        have Ha10 := hide (Ha9.out.below hb10)
        have Hx10 := hide (Hx9.out.below hb10)
        have HL10 := hide (HL9.out.below hb10)
        have HG10 := hide (HG9.out.below hb10)
        have hB10 := below_next hB9 hb10
        have hz10 := hb10.size
        clear hb10 hB9 Ha9 Hx9 HL9 HG9 x0 x1 x2 x3 x4 x5 x6 x7 x8 x9 x10 x11 y0 y1 y2 y3 y4 y5 y6 y7 y8 y9 y10 y11
        -- marks are laid into the answer
        obtain ⟨⟨x0, x1⟩, ⟨x2, x3⟩, ⟨x4, x5⟩, ⟨x6, x7⟩, ⟨x8, x9⟩, ⟨x10, x11⟩⟩ := HG10.out.box
        go_wp2_with fail
        refine (markTreeOut_own _ _ _ _ _ _ _ _ o.pool o.old.length _ _ 1 _ HG10.out.mem (by omega) rfl (by omega) (by rw [Hge.out]; omega) (by rw [Hge.out]; omega) hol).mono ?_
        rintro e w11 ⟨rfl, ho11, ht11⟩
        rw [Hge.out]
        have Ha11 := hide (Ha10.out.turned ht11 (by omega))
        have Hx11 := hide (Hx10.out.turned ht11 (by omega))
        have HL11 := hide (HL10.out.turned ht11 (by omega) (by omega))
        have HGb11 := hide (HG10.out.box.turned ht11 (by omega))
        have HGo11 := hide ho11
        have hB11 : Below w.heap.size w w11 := hB10.trans (ht11.below (by omega) (by omega))
        have hz11 := ht11.size
        clear ho11 ht11 x0 x1 x2 x3 x4 x5 x6 x7 x8 x9 x10 x11 hB10 Ha10 Hx10 HL10 HG10
        -- and looked for
        obtain ⟨⟨x0, x1⟩, ⟨x2, x3⟩, ⟨x4, x5⟩, ⟨x6, x7⟩, ⟨x8, x9⟩, ⟨x10, x11⟩⟩ := HGb11.out
        go_wp2_with fail
        refine (heldTreeOut_own _ _ _ _ _ _ _ _ o.pool o.old.length 1 _ HGo11.out.pool HGo11.out.row (by omega) (by rw [Hge.out]; omega) (by rw [Hge.out]; omega) hol).mono ?_
        rintro e w12 ⟨rfl, hb12⟩
        rw [Hge.out]
        have Ha12 := hide (Ha11.out.below hb12)
        have Hx12 := hide (Hx11.out.below hb12)
        have HL12 := hide (HL11.out.below hb12)
        have HGb12 := hide (HGb11.out.below hb12)
        have HGo12 := hide (HGo11.out.below hb12)
        have hB12 := below_next hB11 hb12
        have hz12 := hb12.size
        clear hb12 hB11 Ha11 Hx11 HL11 HGb11 HGo11 x0 x1 x2 x3 x4 x5 x6 x7 x8 x9 x10 x11
        -- a second answer
        obtain ⟨⟨x0, x1⟩, ⟨x2, x3⟩⟩ := Ha12.out
        obtain ⟨⟨y0, y1⟩, ⟨y2, y3⟩⟩ := Hx12.out
        have n0 : w12.heap.size ≠ w.heap.size := by omega
        have n1 : w12.heap.size ≠ w.heap.size + 1 := by omega
        go_wp2_with fail
        go_cut [18] (fun t wx => NewTreeVar o w12 t wx)
        case first =>
          go_region_held3 (fun w' => w'.cell? ⟨w.heap.size, 0, none⟩ = some (.slice a p.n c) ∧ w'.cell? ⟨w.heap.size, 1, none⟩ = some (.slice a' p.hn c') ∧ w'.cell? ⟨w.heap.size + 1, 0, none⟩ = some (.int .i64 xs) ∧ w'.cell? ⟨w.heap.size + 1, 1, none⟩ = some (.int .i64 xb)) (go_keep)
            (first
          | (go_at_call 11; refine (toPool_any _ _ 0 w.heap.size p _ ?_ HN.out).mono ?_; (first | exact Hp.out.below hB12.drew | exact Hp.out.below (below_next hB12 hCq) | exact Hp.out.below (below_next hB12 (below_undrew (below_alloc _ _))) | exact Hp.out.below (below_next hB12 (below_next hCq (below_alloc _ _)))); rintro e wp ⟨v2, v3, rfl, hop, hbp⟩; obtain ⟨i0, j0, i1, j1, rfl, rfl⟩ := hop.form; have hCp : Below w12.heap.size w12 wp := (by first | exact below_undrew hbp | exact below_next hCq hbp | exact below_next (below_undrew (below_alloc _ _)) hbp | exact below_next (below_next hCq (below_alloc _ _)) hbp); (first | (have hLp : Box6 wp w12.heap.size (.slice none 0 0) (.slice none 0 0) (.int .i64 0) (.int .i64 0) (.slice none 0 0) (.int .i64 0) := (Box6.new w12 _ _ _ _ _ _ _).below hbp) | (have hLp := (Box6.new _ _ _ _ _ _ _ _).below hbp) | (have hLp : Box6 wp w12.heap.size (.slice none 0 0) (.slice none 0 0) (.int .i64 0) (.int .i64 0) (.slice none 0 0) (.int .i64 0) := (Box6.new w12 _ _ _ _ _ _ _).below (below_undrew hbp)) | (have hLp := hLq.below hbp) | skip); have np0 : wp.heap.size ≠ w.heap.size := (by have := hCp.size; omega); have np1 : wp.heap.size ≠ w.heap.size + 1 := (by have := hCp.size; omega); have zp0 := (Ha12.out.below hCp).1.1; have zp1 := (Ha12.out.below hCp).2.1; have zp2 := (Hx12.out.below hCp).1.1; have zp3 := (Hx12.out.below hCp).2.1)
          | (go_at_call 12; refine (toPtr_any _ _ _).mono ?_; rintro e wq ⟨rfl, hbq⟩; have hCq : Below w12.heap.size w12 wq := (by first | exact below_undrew hbq | exact below_next hCp hbq | exact below_next (below_undrew (below_alloc _ _)) hbq | exact below_next (below_next hCp (below_alloc _ _)) hbq); (first | (have hLq : Box6 wq w12.heap.size (.slice none 0 0) (.slice none 0 0) (.int .i64 0) (.int .i64 0) (.slice none 0 0) (.int .i64 0) := (Box6.new w12 _ _ _ _ _ _ _).below hbq) | (have hLq := (Box6.new _ _ _ _ _ _ _ _).below hbq) | (have hLq : Box6 wq w12.heap.size (.slice none 0 0) (.slice none 0 0) (.int .i64 0) (.int .i64 0) (.slice none 0 0) (.int .i64 0) := (Box6.new w12 _ _ _ _ _ _ _).below (below_undrew hbq)) | (have hLq := hLp.below hbq) | skip); have nq0 : wq.heap.size ≠ w.heap.size := (by have := hCq.size; omega); have nq1 : wq.heap.size ≠ w.heap.size + 1 := (by have := hCq.size; omega); have zq0 := (Ha12.out.below hCq).1.1; have zq1 := (Ha12.out.below hCq).2.1; have zq2 := (Hx12.out.below hCq).1.1; have zq3 := (Hx12.out.below hCq).2.1)
          | (go_at_call 13; refine (IM.out _ _ 0 wp.heap.size _ ?_).mono ?_; (first | exact hop.at00 | exact hop.at00.below hbq | exact hop.at00.below (below_alloc _ _) | exact (hop.at00.below hbq).below (below_alloc _ _) | exact (hop.at00.below (below_alloc _ _)).below hbq); rintro e w2 hnt; obtain ⟨s0, s1, so, rfl, ho2, hb2⟩ := hnt.mem hol; clear hnt; obtain ⟨oa, oc, ob, od, of, og, rfl, rfl, rfl⟩ := ho2.form; have hC2 : Below w12.heap.size w12 w2 := (by first | exact below_next hCp hb2 | exact below_next hCq hb2 | exact below_next (below_next hCp (below_alloc _ _)) hb2 | exact below_next (below_next hCq (below_alloc _ _)) hb2); (first | (have hL2 := (Box6.new _ _ _ _ _ _ _ _).below hb2; have l0 := hL2.1.1; have l1 := hL2.1.2; have l2 := hL2.2.1.1; have l3 := hL2.2.1.2; have l4 := hL2.2.2.1.1; have l5 := hL2.2.2.1.2; have l6 := hL2.2.2.2.1.1; have l7 := hL2.2.2.2.1.2; have l8 := hL2.2.2.2.2.1.1; have l9 := hL2.2.2.2.2.1.2; have l10 := hL2.2.2.2.2.2.1; have l11 := hL2.2.2.2.2.2.2) | (have hL2 := hLp.below hb2; have l0 := hL2.1.1; have l1 := hL2.1.2; have l2 := hL2.2.1.1; have l3 := hL2.2.1.2; have l4 := hL2.2.2.1.1; have l5 := hL2.2.2.1.2; have l6 := hL2.2.2.2.1.1; have l7 := hL2.2.2.2.1.2; have l8 := hL2.2.2.2.2.1.1; have l9 := hL2.2.2.2.2.1.2; have l10 := hL2.2.2.2.2.2.1; have l11 := hL2.2.2.2.2.2.2) | (have hL2 := hLq.below hb2; have l0 := hL2.1.1; have l1 := hL2.1.2; have l2 := hL2.2.1.1; have l3 := hL2.2.1.2; have l4 := hL2.2.2.1.1; have l5 := hL2.2.2.1.2; have l6 := hL2.2.2.2.1.1; have l7 := hL2.2.2.2.1.2; have l8 := hL2.2.2.2.2.1.1; have l9 := hL2.2.2.2.2.1.2; have l10 := hL2.2.2.2.2.2.1; have l11 := hL2.2.2.2.2.2.2) | skip); have zr0 := (Ha12.out.below hC2).1.1; have zr1 := (Ha12.out.below hC2).2.1; have zr2 := (Hx12.out.below hC2).1.1; have zr3 := (Hx12.out.below hC2).2.1))
          all_goals (go_wp2_with fail; go_meet)
          all_goals (case rel => first | (have hf := newTree_early' hC2 hL2 ho2 (by first | exact Nat.le_refl _ | exact hCp.size | exact hCq.size) (by first | (rw [World.size_alloc]; exact Nat.lt_succ_self _) | exact hLq.1.lt | exact hLp.1.lt); exact hf _ rfl) | (have hf := newTree_late' (t := 35) hC2 ho2 (by first | exact hCq.size | exact hCp.size); exact hf _ rfl))
        case rest =>
          clear x0 x1 x2 x3 y0 y1 y2 y3 n0 n1
          obtain ⟨E, a9, c9, a10, c10, aE, cE, loE, hiE, rfl, hE, hE1, hE2, hE3, hE4, hE5, hBc⟩ := hcut
          have HED := hide hE
          have HLD := hide (HL12.out.below hBc)
          have HGbD := hide (HGb12.out.below hBc)
          have HGoD := hide (HGo12.out.below hBc)
          have hBD := below_next hB12 hBc
          clear hBc hE hB12 Ha12 Hx12 HL12 HGb12 HGo12
          obtain ⟨⟨x0, x1⟩, ⟨x2, x3⟩, ⟨x4, x5⟩, ⟨x6, x7⟩, ⟨x8, x9⟩, ⟨x10, x11⟩⟩ := HED.out.box
          obtain ⟨⟨y0, y1⟩, ⟨y2, y3⟩, ⟨y4, y5⟩, ⟨y6, y7⟩, ⟨y8, y9⟩, ⟨y10, y11⟩⟩ := HLD.out.box
          go_wp2_with fail
          refine (eqTreeOut_same _ _ _ _ _ _ _ _ _ _ o _ HED.out.mem.pool HLD.out.mem.pool HED.out.mem.row HLD.out.mem.row).mono ?_
          rintro e w15 ⟨rfl, hb15⟩
          have HGb15 := hide (HGbD.out.below hb15)
          have HGo15 := hide (HGoD.out.below hb15)
          have hB15 := below_next hBD hb15
          clear hb15 hBD HLD HED HGbD HGoD x0 x1 x2 x3 x4 x5 x6 x7 x8 x9 x10 x11 y0 y1 y2 y3 y4 y5 y6 y7 y8 y9 y10 y11
          -- the marks are there still
          obtain ⟨⟨x0, x1⟩, ⟨x2, x3⟩, ⟨x4, x5⟩, ⟨x6, x7⟩, ⟨x8, x9⟩, ⟨x10, x11⟩⟩ := HGb15.out
          go_wp2_with fail
          refine (heldTreeOut_own _ _ _ _ _ _ _ _ o.pool o.old.length 1 _ HGo15.out.pool HGo15.out.row (by omega) (by rw [Hge.out]; omega) (by rw [Hge.out]; omega) hol).mono ?_
          rintro e w16 ⟨rfl, hb16⟩
          rw [Hge.out]
          have hB16 := below_next hB15 hb16
          go_wp2
          go_ret
          exact ⟨rfl, hB16⟩

theorem own : ownKnob Try.prog.godebug = none := by kernel_rfl
theorem laidOut : laidOutB Try.prog = true := by kernel_rfl

set_option maxRecDepth 100000 in
theorem fnExactTreeWrite_lifted (os : Os) (started : os.Started) (H : Type) (enc : TypeId × Value → H) :
    ReturnsInHanded {} Try.checked os 3 .any (Rows.fnExactTreeWriteSpec.pre6 enc Try.prog Try.f3 Rows.fnExactTreeWriteRow.domain false) (Rows.fnExactTreeWriteSpec.post enc Try.prog Try.f3 false true false false) := by
  refine returnsInHanded_of_change (C := Try.checked) own started (by kernel_rfl) Try.func3
    (ChangeSpec.witness6 (enc := enc) (C := Try.checked) false ⟨#[], #[.agg #[.slice none 0 0, .slice none 0 0], .agg #[.int .i64 0, .int .i64 0], .int .i64 0, .string ⟨#[]⟩, .int .i64 0], []⟩ 8 (by kernel_rfl) (by kernel_rfl) (by kernel_rfl) (by kernel_rfl)) ?_
  intro W base args ds gs before hval0 hW hcnd _
  have hval : ∀ (j : Nat) t v, Try.f3.params[j]? = some t → args[j]? = some v → Value.okWide Try.prog W .any base t v := hval0
  have hW' := hW
  obtain ⟨p, q, hA0, hV, rfl, hfz, hnd⟩ := hW
  have hA : DataW.TrodAll enc Try.prog W 0 (fun _ => true) true Try.f3.params.toList args.toList ds p := hA0
  rw [Try.params3] at hA hval
  obtain ⟨v0, vs0, d0, ds0, p0, q0, hargs0, rfl, rfl, h0, r0⟩ := trodAll_cons hA
  obtain ⟨v1, vs1, d1, ds1, p1, q1, hargs1, rfl, rfl, h1, r1⟩ := trodAll_cons r0
  obtain ⟨v2, vs2, d2, ds2, p2, q2, hargs2, rfl, rfl, h2, r2⟩ := trodAll_cons r1
  obtain ⟨v3, vs3, d3, ds3, p3, q3, hargs3, rfl, rfl, h3, r3⟩ := trodAll_cons r2
  obtain ⟨v4, vs4, d4, ds4, p4, q4, hargs4, rfl, rfl, h4, r4⟩ := trodAll_cons r3
  obtain ⟨rfl, rfl, rfl⟩ := trodAll_nil r4
  obtain rfl : args = #[v0, v1, v2, v3, v4] := by cases args; simp_all
  obtain ⟨rfl, rfl⟩ := trodVars_none hV
  have k0 := h0
  have k1 := h1
  have k2 := h2
  have k3 := h3
  have k4 := h4
  have lt0 : ∀ x ∈ p0, x.block < W.heap.size := by obtain ⟨m, hm⟩ := k0; exact DataW.trod_lt m _ _ _ hm
  have lt1 : ∀ x ∈ p1, x.block < W.heap.size := by obtain ⟨m, hm⟩ := k1; exact DataW.trod_lt m _ _ _ hm
  have lt2 : ∀ x ∈ p2, x.block < W.heap.size := by obtain ⟨m, hm⟩ := k2; exact DataW.trod_lt m _ _ _ hm
  have lt3 : ∀ x ∈ p3, x.block < W.heap.size := by obtain ⟨m, hm⟩ := k3; exact DataW.trod_lt m _ _ _ hm
  have lt4 : ∀ x ∈ p4, x.block < W.heap.size := by obtain ⟨m, hm⟩ := k4; exact DataW.trod_lt m _ _ _ hm
  obtain ⟨s0a, s0b, pd0, rfl, hp0⟩ := open_pool (hval 0 25 v0 rfl rfl) h0
  obtain ⟨x1, y1, rfl⟩ := open_ptr (hval 1 27 v1 rfl rfl) h1
  obtain ⟨z2, rfl, e2, _, wz2⟩ := open_int Try.underlying2 (hval 2 2 v2 rfl rfl) h2
  obtain ⟨st3, rfl, _, _, hz3⟩ := open_string Try.underlying9 (hval 3 9 v3 rfl rfl) h3
  obtain ⟨z4, rfl, e4, _, wz4⟩ := open_int Try.underlying2 (hval 4 2 v4 rfl rfl) h4
  clear hA0 hval0
  refine (fnExactTreeWrite_walk s0a s0b pd0 x1 y1 z2 st3 z4 W hp0 wz2 hz3 wz4).mono fun e W' ⟨he, bel⟩ => ?_
  subst he
  exact ⟨_, rfl, _, _, _, [], _, [], hW', trodAll_mk1 (shut_bool Try.underlying4 _), (trodAll_cons_mk (Below.trod laidOut (by kernel_rfl) (of_decide_eq_true (by kernel_rfl)) k0 bel lt0) (trodAll_cons_mk (Below.trod laidOut (by kernel_rfl) (of_decide_eq_true (by kernel_rfl)) k1 bel lt1) (trodAll_cons_mk (Below.trod laidOut (by kernel_rfl) (of_decide_eq_true (by kernel_rfl)) k2 bel lt2) (trodAll_cons_mk (Below.trod laidOut (by kernel_rfl) (of_decide_eq_true (by kernel_rfl)) k3 bel lt3) (trodAll_cons_mk (Below.trod laidOut (by kernel_rfl) (of_decide_eq_true (by kernel_rfl)) k4 bel lt4) trodAll_mk0))))), rfl, bel.frame _, fun h => by cases h⟩

theorem fnExactTreeWrite_holds : Rows.FnExactTreeWriteSaid :=
  OpenClaim.holds_of_wide 3 Try.f3 rfl rfl rfl rfl rfl rfl rfl ⟨rfl, rfl, rfl, rfl, rfl⟩ rfl rfl rfl rfl rfl (by kernel_rfl) Try.func3 (by kernel_rfl)
    (of_decide_eq_true (by kernel_rfl)) (by unfold Func.isWrapper; first | (rw [if_pos (by decide +kernel)]; kernel_rfl) | (rw [if_neg (by decide +kernel)]; exact ⟨rfl, rfl⟩))
    (fun os started H enc _ => fnExactTreeWrite_lifted os started H enc)

end Go.Proofs.Ytikhipekmlhibae
