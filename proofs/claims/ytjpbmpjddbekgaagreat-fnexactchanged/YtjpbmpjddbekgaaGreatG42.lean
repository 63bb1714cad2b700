/- What impl.Pages and impl.Changed answer. -/
import Derived.Test.YtjpbmpjddbekgaaGreatG41
import Derived.Test.YtjpbmpjddbekgaaGreatG39
import Derived.Test.YtjpbmpjddbekgaaGreatG31
import Derived.Test.YtjpbmpjddbekgaaGreatG24
namespace Go.Proofs.YtjpbmpjddbekgaaGreat
open Go.RowKit Go.Maps
set_option linter.unusedVariables false

theorem NewInts.nil {w w' : World} (h : Below w.heap.size w w') : NewInts [] w (.returned (.slice none 0 0)) w' := ⟨_, rfl, RowP.nil _ _, h⟩
theorem tree_none (p : PoolD) : TreeOk p 0 0 := Or.inl ⟨rfl, rfl⟩

set_option maxRecDepth 20000 in
set_option maxHeartbeats 1000000 in
theorem implPages_any (v0 v1 v2 v3 : Value) (lo hi : Nat) (W : WorldD) (x : ByteArray) (w : World) (h : WorldAt w lo hi v0 v1 v2 v3 W) (hh : hi ≤ w.heap.size) (hwf : PrevsWf W) (hx : x.size ≤ maxLen) : Calls Tryz.prog 38 #[worldV v0 v1 v2 v3 W, .string x] w (NewInts (pagesAns W x) w) := by
  have Hp := hideW h
  have Hwf := hideW hwf
  have Hx := hideW hx
  clear h hwf hx
  have hbw := below_alloc w (.cells #[v0, v1, .int .i64 W.time, .int .i64 W.next, v2, v3] 38)
  have HX := hideW (Box6.new w v0 v1 (.int .i64 W.time) (.int .i64 W.next) v2 v3 38)
  obtain ⟨⟨x0, -⟩, ⟨x1, -⟩, ⟨x2, -⟩, ⟨x3, -⟩, ⟨x4, -⟩, ⟨x5, -⟩⟩ := HX.out
  go_enter Tryz.func38, Tryz.ntmps38
  go_wp2_with fail
  generalize w.alloc (.cells #[v0, v1, .int .i64 W.time, .int .i64 W.next, v2, v3] 38) = W0 at HX hbw x0 x1 x2 x3 x4 x5 ⊢
  refine (implWorldRight_any v0 v1 v2 v3 lo hi W W0 (Hp.out.below hbw) Hwf.out).mono ?_
  rintro e w1 ⟨⟨t, rfl, ht⟩, hb1⟩
  have Ht := hideW (ht.trans (world_iff W))
  have hB1 := below_next hbw hb1
  have HX1 := hideW (HX.out.below hb1)
  clear x0 x1 x2 x3 x4 x5 hb1 hbw HX ht
  cases t
  · have HA := hideW (show pagesAns W x = [] from pagesAns_no (fun h => absurd (Ht.out.2 h) (by simp)))
    go_wp2
    go_ret
    rw [HA.out]
    exact NewInts.nil hB1
  · have HW := hideW (Ht.out.1 (by simp))
    have HA := hideW (show pagesAns W x = apartL W.pool (setAt W x).rs (setAt W x).rb 0 0 64 from pagesAns_yes HW.out)
    have HT := hideW (setAt_ok HW.out x)
    have hf := fieldRoot
    obtain ⟨⟨x0, -⟩, ⟨x1, -⟩, ⟨x2, -⟩, ⟨x3, -⟩, ⟨x4, -⟩, ⟨x5, -⟩⟩ := HX1.out
    go_wp2_with fail
    go_region_held3 (fun w' => w'.cell? ⟨w.heap.size, 0, none⟩ = some v0 ∧ w'.cell? ⟨w.heap.size, 1, none⟩ = some v1 ∧ w'.cell? ⟨w.heap.size, 2, none⟩ = some (.int .i64 W.time) ∧ w'.cell? ⟨w.heap.size, 3, none⟩ = some (.int .i64 W.next) ∧ w'.cell? ⟨w.heap.size, 4, none⟩ = some v2 ∧ w'.cell? ⟨w.heap.size, 5, none⟩ = some v3) (go_keep)
      (first
        | (go_at_call 88; refine (setsByName_any v0 v1 v2 v3 lo hi W _ ((Hp.out.below hB1).below (Below.refl _ _).drew) HW.out.names.2.2.1).mono ?_; rintro e w2 ⟨vd, rfl, hm, hd, hb2⟩; have hb2' := below_undrew hb2; obtain ⟨a, c, hat, hp⟩ := setNames_look (HW.out.names.dist) hd x; have hlk := sets_run (M := w1.heap.size + 1) hm Hx.out hat; obtain ⟨⟨z0, -⟩, ⟨z1, -⟩, ⟨z2, -⟩, ⟨z3, -⟩, ⟨z4, -⟩, ⟨z5, -⟩⟩ := HX1.out.below hb2')
        | (go_at_call 100; refine (pagesApart_any v0 v1 v2 v3 lo hi W _ _ _ _ _ ((Hp.out.below hB1).below hb2') (by have := hb2'.size; have := hB1.size; omega) HW.out.right HT.out (tree_none _)).mono ?_; rintro e w3 ⟨vi, rfl, hri, hb3⟩; have hb3' := below_next hb2' hb3; obtain ⟨⟨k0, -⟩, ⟨k1, -⟩, ⟨k2, -⟩, ⟨k3, -⟩, ⟨k4, -⟩, ⟨k5, -⟩⟩ := HX1.out.below hb3'))
    have HRI := hideW hri
    clear hri
    go_wp2
    go_ret
    have hB3 := below_next hB1 hb3'
    rw [HA.out]
    exact ⟨_, rfl, HRI.out.mono (by have := hB1.size; have := hb2'.size; omega), hB3⟩

set_option maxRecDepth 20000 in
set_option maxHeartbeats 1000000 in
theorem implChanged_any (v0 v1 v2 v3 : Value) (lo hi : Nat) (W : WorldD) (x y : Int) (w : World) (h : WorldAt w lo hi v0 v1 v2 v3 W) (hh : hi ≤ w.heap.size) (hwf : PrevsWf W) (hx : (Lit.int .i64 x).wf = true) (hy : (Lit.int .i64 y).wf = true) : Calls Tryz.prog 43 #[worldV v0 v1 v2 v3 W, .int .i64 x, .int .i64 y] w (NewInts (changedAns W x y) w) := by
  have Hp := hideW h
  have Hwf := hideW hwf
  have Hx := hideW hx
  have Hy := hideW hy
  clear h hwf hx hy
  have hbw := below_alloc w (.cells #[v0, v1, .int .i64 W.time, .int .i64 W.next, v2, v3] 38)
  have HX := hideW (Box6.new w v0 v1 (.int .i64 W.time) (.int .i64 W.next) v2 v3 38)
  obtain ⟨⟨x0, -⟩, ⟨x1, -⟩, ⟨x2, -⟩, ⟨x3, -⟩, ⟨x4, -⟩, ⟨x5, -⟩⟩ := HX.out
  go_enter Tryz.func43, Tryz.ntmps43
  go_wp2_with fail
  generalize w.alloc (.cells #[v0, v1, .int .i64 W.time, .int .i64 W.next, v2, v3] 38) = W0 at HX hbw x0 x1 x2 x3 x4 x5 ⊢
  refine (implWorldRight_any v0 v1 v2 v3 lo hi W W0 (Hp.out.below hbw) Hwf.out).mono ?_
  rintro e w1 ⟨⟨t, rfl, ht⟩, hb1⟩
  have Ht := hideW (ht.trans (world_iff W))
  have hB1 := below_next hbw hb1
  have HX1 := hideW (HX.out.below hb1)
  clear x0 x1 x2 x3 x4 x5 hb1 hbw HX ht
  cases t
  · have HA := hideW (show changedAns W x y = [] from changedAns_no (fun h => absurd (Ht.out.2 h.1) (by simp)))
    go_wp2
    go_ret
    rw [HA.out]
    exact NewInts.nil hB1
  have HW := hideW (Ht.out.1 (by simp))
  have HI := hideW ((world_iff W).2 HW.out).names
  have hpn := HW.out.names.2.2.2.1
  obtain ⟨⟨x0, -⟩, ⟨x1, -⟩, ⟨x2, -⟩, ⟨x3, -⟩, ⟨x4, -⟩, ⟨x5, -⟩⟩ := HX1.out
  go_wp2_with fail
  refine (hasId_any v0 v1 v2 v3 lo hi W x w1 (Hp.out.below hB1) hpn HI.out.idsWf HI.out.dist Hx.out).mono ?_
  rintro e w2 ⟨⟨t2, rfl, ht2⟩, hb2⟩
  have Ht2 := hideW ht2
  have hB2 := below_next hB1 hb2
  have HX2 := hideW (HX1.out.below hb2)
  clear x0 x1 x2 x3 x4 x5 hb2 hB1 HX1 ht2
  cases t2
  · have HA := hideW (show changedAns W x y = [] from changedAns_no (fun h => absurd (Ht2.out.2 h.2.1) (by simp)))
    go_wp2
    go_ret
    rw [HA.out]
    exact NewInts.nil hB2
  obtain ⟨⟨x0, -⟩, ⟨x1, -⟩, ⟨x2, -⟩, ⟨x3, -⟩, ⟨x4, -⟩, ⟨x5, -⟩⟩ := HX2.out
  go_wp2_with fail
  refine (hasId_any v0 v1 v2 v3 lo hi W y w2 (Hp.out.below hB2) hpn HI.out.idsWf HI.out.dist Hy.out).mono ?_
  rintro e w3 ⟨⟨t3, rfl, ht3⟩, hb3⟩
  have Ht3 := hideW ht3
  have hB3 := below_next hB2 hb3
  have HX3 := hideW (HX2.out.below hb3)
  clear x0 x1 x2 x3 x4 x5 hb3 hB2 HX2 ht3
  cases t3
  · have HA := hideW (show changedAns W x y = [] from changedAns_no (fun h => absurd (Ht3.out.2 h.2.2) (by simp)))
    go_wp2
    go_ret
    rw [HA.out]
    exact NewInts.nil hB3
  have HA := hideW (changedAns_yes ⟨HW.out, Ht2.out.1 (by simp), Ht3.out.1 (by simp)⟩)
  have HT := hideW (show ∀ y, TreeOk W.pool (aheadOf W y).rs (aheadOf W y).rb from old_ok HW.out.snaps)
  have hf := fieldRootS
  clear Ht Ht2 Ht3
  obtain ⟨⟨x0, -⟩, ⟨x1, -⟩, ⟨x2, -⟩, ⟨x3, -⟩, ⟨x4, -⟩, ⟨x5, -⟩⟩ := HX3.out
  go_wp2_with fail
  refine (snapsById_any v0 v1 v2 v3 lo hi W w3 (Hp.out.below hB3) hpn HI.out.idsWf).mono ?_
  rintro e w4 ⟨vd, rfl, hm, hd, hb4⟩
  obtain ⟨a, c, hat, hp⟩ := snaps_look HI.out.dist hd x
  have hlk := snaps_run (M := w3.heap.size + 1) hm Hx.out hat
  obtain ⟨a', c', hat', hp'⟩ := snaps_look HI.out.dist hd y
  have hlk' := snaps_run (M := w3.heap.size + 1) hm Hy.out hat'
  have hB4 := below_next hB3 hb4
  have HX4 := hideW (HX3.out.below hb4)
  clear x0 x1 x2 x3 x4 x5 hb4 hB3 HX3 hm hd hat hp hat' hp'
  obtain ⟨⟨x0, -⟩, ⟨x1, -⟩, ⟨x2, -⟩, ⟨x3, -⟩, ⟨x4, -⟩, ⟨x5, -⟩⟩ := HX4.out
  go_wp2_with fail
  refine (pagesApart_any v0 v1 v2 v3 lo hi W _ _ _ _ _ (Hp.out.below hB4) (by have := hB4.size; omega) HW.out.right (HT.out x) (HT.out y)).mono ?_
  rintro e w5 ⟨vi, rfl, hri, hb5⟩
  have HRI := hideW hri
  clear hri
  go_wp2
  go_ret
  rw [HA.out]
  exact ⟨_, rfl, HRI.out.mono hB4.size, below_next hB4 hb5⟩

end Go.Proofs.YtjpbmpjddbekgaaGreat

namespace Go.Proofs.YtjpbmpjddbekgaaGreat
open Go.RowKit
set_option linter.unusedVariables false

set_option maxRecDepth 20000 in
set_option maxHeartbeats 400000 in
theorem heldInt64S_any (v : Value) (n lo hi : Nat) (f : Nat → Int) (k0 : Int) (w : World) (h1 : IntsAt w lo hi v n f) (hk0 : 0 ≤ k0) (hk1 : k0 + n ≤ 1000000000000) (hf : ∀ i, i < n → f i = k0 + i) :
    Calls Tryz.prog 41 #[v, .int .i64 k0] w fun e w' => e = .returned (.int .i64 (k0 + n)) ∧ Below w.heap.size w w' := by
  obtain ⟨m1, a, c, rfl, mc, g1⟩ := h1
  unfold maxLen at m1
  have Hf : Hid (∀ i, i < n → f i = k0 + i) := hf
  clear hf
  go_enter Tryz.func41, Tryz.ntmps41
  go_wp2
  go_loopw [1, 5] (fun m i wr => ∃ k : Nat, k ≤ n ∧ i = .int .i64 k ∧ m = .int .i64 (k0 + k) ∧ Below w.heap.size w wr) (fun _ i _ => n - (intOf i).toNat)
  case atStart => exact ⟨0, Nat.zero_le _, rfl, by simp, Below.refl _ _⟩
  case round =>
    obtain ⟨k, hk, rfl, rfl, hb⟩ := hrel
    by_cases hlt : k < n
    · have hlt' : (k : Int) < (n : Int) := by omega
      obtain ⟨b, off, rfl, _, _, k1⟩ := g1 (by omega)
      have hc1 : wr.cell? ⟨b, off + k, none⟩ = some (.int .i64 (k0 + k)) := by rw [← Hf.out k hlt]; exact (hb.cell (lt_of_cell (k1 k hlt))).trans (k1 k hlt)
      clear k1 g1
      go_wp2
      go_roundw
      case rel => exact ⟨k + 1, by omega, by go_num, by go_num, hb⟩
      case measure => simp [intOf]; omega
    · obtain rfl : k = n := by omega
      go_wp2
      go_ret
      exact ⟨rfl, hb⟩

end Go.Proofs.YtjpbmpjddbekgaaGreat

namespace Go.Proofs.YtjpbmpjddbekgaaGreat
open Go.RowKit Go.Maps
set_option linter.unusedVariables false

/-- A list of numbers that the call owns, in a block from lo to hi. -/
def IntsA (w : World) (lo hi : Nat) (v : Value) (n : Nat) (f : Nat → Int) : Prop := ∃ b, IntsOwn w b v n f ∧ (0 < n → lo ≤ b ∧ b < hi)
theorem IntsA.at {w : World} {lo hi : Nat} {v : Value} {n : Nat} {f : Nat → Int} (h : IntsA w lo hi v n f) : IntsAt w lo hi v n f := by
  obtain ⟨b, hp, hb⟩ := h
  exact hp.at hb
theorem IntsA.below {w w' : World} {lo hi : Nat} {v : Value} {n : Nat} {f : Nat → Int} (h : IntsA w lo hi v n f) (t : Below w.heap.size w w') : IntsA w' lo hi v n f := by
  obtain ⟨b, hp, hb⟩ := h
  exact ⟨b, hp.below t, hb⟩
theorem IntsA.turned {T : Nat → Prop} {w w' : World} {lo hi : Nat} {v : Value} {n : Nat} {f : Nat → Int} (h : IntsA w lo hi v n f) (t : Turned T w w') (hs : ∀ k, T k → k < lo ∨ hi ≤ k) : IntsA w' lo hi v n f := by
  obtain ⟨b, hp, hb⟩ := h
  exact ⟨b, hp.turned t (fun h0 hx => by have := hb h0; have := hs _ hx; omega), hb⟩
theorem IntsA.form {w : World} {lo hi : Nat} {v : Value} {n : Nat} {f : Nat → Int} (h : IntsA w lo hi v n f) : ∃ a c, v = .slice a n c := by
  obtain ⟨b, ⟨_, a, c, rfl, _⟩, hb⟩ := h
  exact ⟨a, c, rfl⟩
theorem NewInts.ans {l : List Int} {w w' : World} {e : Ending} (h : NewInts l w e w') (hm : l.length ≤ 100) : ∃ v, e = .returned v ∧ IntsA w' w.heap.size w'.heap.size v l.length (numI l) ∧ Below w.heap.size w w' := by
  obtain ⟨v, he, hr, hw⟩ := h
  obtain ⟨b, h1, h2⟩ := hr.own (by unfold maxLen; omega)
  exact ⟨v, he, ⟨b, h1, h2⟩, hw⟩
theorem eqInts_ans (v u : Value) (lo hi lo' hi' : Nat) (n : Nat) (f : Nat → Int) (w : World) (h1 : IntsAt w lo hi v n f) (h2 : IntsAt w lo' hi' u n f) : Calls Tryz.prog 39 #[v, u] w fun e w' => e = .returned (.bool true) ∧ Below w.heap.size w w' := by
  refine (eqInt64S_any v u n n lo hi lo' hi' f f w h1 h2).mono ?_
  rintro e w' ⟨⟨t, rfl, ht⟩, hb⟩
  have : t = true := ht.2 ⟨rfl, fun _ _ => rfl⟩
  subst this
  exact ⟨rfl, hb⟩
theorem markInts_ans (lo hi : Nat) (v : Value) (n : Nat) (f : Nat → Int) (w : World) (h : IntsA w lo hi v n f) (hk1 : n ≤ 100) : Calls Tryz.prog 40 #[v, .int .i64 1] w fun e w' => e = .returned (.int .i64 (1 + n)) ∧ IntsA w' lo hi v n (fun i => 1 + i) ∧ Turned (fun k => lo ≤ k ∧ k < hi) w w' := by
  obtain ⟨b, hp, hb⟩ := h
  refine (markInt64S_any b v n f 1 w hp (by omega) (by omega)).mono ?_
  rintro e w' ⟨rfl, hp', ht⟩
  exact ⟨rfl, ⟨b, hp', hb⟩, ht.mono (fun k hk => by obtain ⟨h0, rfl⟩ := hk; exact hb h0)⟩
theorem heldInts_ans (lo hi : Nat) (v : Value) (n : Nat) (w : World) (h : IntsAt w lo hi v n (fun i => 1 + i)) (hk1 : n ≤ 100) : Calls Tryz.prog 41 #[v, .int .i64 1] w fun e w' => e = .returned (.int .i64 (1 + n)) ∧ Below w.heap.size w w' :=
  heldInt64S_any v n lo hi _ 1 w h (by omega) (by omega) (fun _ _ => rfl)

end Go.Proofs.YtjpbmpjddbekgaaGreat
