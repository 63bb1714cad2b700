/- What spec.Pages answers. -/
import Derived.Test.YtjpbmpjddbekgaaGreatG39
import Derived.Test.YtjpbmpjddbekgaaGreatG1
import Derived.Deep.DeepCutAuto
import Derived.Deep.RegionHeld3
import Derived.Deep.AppendLies
namespace Go.Proofs.YtjpbmpjddbekgaaGreat
open Go.RowKit Go.Maps
set_option linter.unusedVariables false


set_option maxRecDepth 20000 in
set_option maxHeartbeats 8000000 in
theorem specPages_any (v0 v1 v2 v3 : Value) (lo hi : Nat) (W : WorldD) (x : ByteArray) (w : World) (h : WorldAt w lo hi v0 v1 v2 v3 W) (hsx : x.size ≤ maxLen) : Calls Tryz.prog 37 #[worldV v0 v1 v2 v3 W, .string x] w (NewInts (pagesAns W x) w) := by
  obtain ⟨m1, al, cl, rfl, ml, -⟩ := id h.sets
  unfold maxLen at m1
  have hb1 := below_alloc w (.cells #[v0, v1, .int .i64 W.time, .int .i64 W.next, .slice al W.sn cl, v3] 38)
  have hxb := Box6.new w v0 v1 (.int .i64 W.time) (.int .i64 W.next) (.slice al W.sn cl) v3 38
  have hz1 : (w.alloc (.cells #[v0, v1, .int .i64 W.time, .int .i64 W.next, .slice al W.sn cl, v3] 38)).heap.size = w.heap.size + 1 := World.size_alloc _ _
  obtain ⟨⟨x0, -⟩, ⟨x1, -⟩, ⟨x2, -⟩, ⟨x3, -⟩, ⟨x4, -⟩, ⟨x5, -⟩⟩ := hxb.below (below_alloc _ (.cells #[] 2))
  have hstart : ∃ Wb, w.alloc (.cells #[v0, v1, .int .i64 W.time, .int .i64 W.next, .slice al W.sn cl, v3] 38) = Wb := ⟨_, rfl⟩
  obtain ⟨Wb, hWb⟩ := hstart
  rw [hWb] at hb1 hxb hz1
  have HWb := hideW hWb
  clear hWb
  have hbw := below_alloc Wb (.cells #[] 2)
  have HXb := hideW hxb
  have Hb1 := hideW hb1
  have Hz1 := hideW hz1
  have hrow : RowP (Wb.alloc (.cells #[] 2)) Wb.heap.size (.slice (some ⟨w.heap.size + 1, 0, none⟩) 0 0) [] := by
    have := World.ownsRow_lit (e := 2) (size := 1) (base := Wb.heap.size) Wb #[] 0 (Nat.le_refl _) (by unfold maxLen; omega) rfl
    rw [show (⟨Wb.heap.size, 0, none⟩ : Addr) = ⟨w.heap.size + 1, 0, none⟩ by rw [hz1]] at this
    exact ⟨this, fun _ => ⟨_, rfl⟩⟩
  have HRow := hideW hrow
  clear hxb hz1 hrow hb1
  go_enter Tryz.func37, Tryz.ntmps37
  go_wp2_with fail
  rw [HWb.out] at x0 x1 x2 x3 x4 x5 ⊢
  have Hp := hideW (h.below Hb1.out)
  clear h
  have RET : ∀ (wx : World) (v : Value), pagesAns W x = [] → RowP wx Wb.heap.size v [] → Below Wb.heap.size Wb wx → NewInts (pagesAns W x) w (.returned v) wx := fun wx v h1 h2 h3 => by
    rw [h1]
    exact ⟨_, rfl, h2.mono (by have := Hz1.out; omega), below_next Hb1.out h3⟩
  have HRET := hideW RET
  clear RET HWb
  generalize Wb.alloc (.cells #[] 2) = W0 at HRow hbw x0 x1 x2 x3 x4 x5 ⊢
  refine (l04Set_any _ _ _ _ lo hi W x W0 (Hp.out.below hbw)).mono ?_
  rintro e w1 ⟨r, rfl, hr, hb1⟩
  have hB1 := below_next hbw hb1
  have HRow1 := hideW (HRow.out.below hb1)
  clear x0 x1 x2 x3 x4 x5 hb1 hbw HRow
  by_cases hbig : 8000 < x.size
  · have hbig' : (8000 : Int) < (x.size : Int) := by omega
    have HA := hideW (show pagesAns W x = [] from pagesAns_zero (setAt_long hbig))
    clear hr
    go_wp2
    go_ret
    exact HRET.out _ _ HA.out HRow1.out hB1
  have hbig' : ¬ (8000 : Int) < (x.size : Int) := by omega
  unfold maxLen at hsx
  rcases hr with ⟨k, hk, hke, hkl, rfl⟩ | ⟨hno, rfl⟩
  rotate_left
  · have HA := hideW (show pagesAns W x = [] from pagesAns_zero (fun _ => setAt_no hno))
    clear hno
    go_wp2
    go_ret
    exact HRET.out _ _ HA.out HRow1.out hB1
  have Hno := hideW (show SetNo W x k from ⟨hk, hke, hkl⟩)
  have hk' : (k : Int) < (W.sn : Int) := by omega
  clear hke hkl
  obtain ⟨⟨x0, -⟩, ⟨x1, -⟩, ⟨x2, -⟩, ⟨x3, -⟩, ⟨x4, -⟩, ⟨x5, -⟩⟩ := HXb.out.below hB1
  go_wp2_with fail
  refine (specWorldRight_any _ _ _ _ lo hi W w1 (Hp.out.below hB1)).mono ?_
  rintro e w2 ⟨⟨t, rfl, ht⟩, hb2⟩
  have Ht := hideW ht
  have hB2 := below_next hB1 hb2
  have HRow2 := hideW (HRow1.out.below hb2)
  clear ht x0 x1 x2 x3 x4 x5 hb2 hB1 HRow1
  cases t
  · have HA := hideW (show pagesAns W x = [] from pagesAns_no (fun h => absurd (Ht.out.2 h) (by simp)))
    go_wp2
    go_ret
    exact HRET.out _ _ HA.out HRow2.out hB2
  have HS := hideW (Ht.out.1 rfl)
  have HA := hideW (show pagesAns W x = apartL W.pool (W.sets k).rs (W.sets k).rb 0 0 64 by rw [pagesAns_yes HS.out, setAt_at Hno.out])
  have HTR := hideW (show TreeR W.pool (W.sets k).rs (W.sets k).rb from ⟨HS.out.right, (HS.out.sets k hk).1⟩)
  obtain ⟨b, off, vd, rfl, hs⟩ := Hp.out.sets.cells hk
  have Hs := hideW hs
  clear hs Ht Hno HRET
  obtain ⟨i0, hi0, hzz⟩ := Option.map_eq_some_iff.1 infoIntP
  simp only [Prod.mk.injEq] at hzz
  have HI := hideW (And.intro hi0 hzz)
  clear hi0 hzz
  have Hbl := hideW (apartL_len W.pool (W.sets k).rs (W.sets k).rb 0 0)
  go_wp2
  go_loopw [5, 7] (fun vo i wr => ∃ j : Nat, j ≤ 64 ∧ i = .int .i64 j ∧ RowP wr Wb.heap.size vo (apartL W.pool (W.sets k).rs (W.sets k).rb 0 0 j) ∧ Below Wb.heap.size Wb wr) (fun _ i _ => 64 - (intOf i).toNat)
  case atStart => exact ⟨0, Nat.zero_le _, rfl, HRow2.out, hB2⟩
  case round =>
    obtain ⟨j, hj, rfl, hrow, hbw⟩ := hrel
    have Hrow := hideW hrow
    clear hrow
    have hlen := Hbl.out j
    by_cases hlt : j < 64
    · have hlt' : (j : Int) < 64 := by omega
      have HXr := hideW (HXb.out.below hbw)
      have Hsr := hideW (Hs.out.below hbw)
      obtain ⟨⟨x0, -⟩, ⟨x1, -⟩, ⟨x2, -⟩, ⟨x3, -⟩, ⟨x4, -⟩, ⟨x5, -⟩⟩ := HXr.out
      have q3 := Hsr.out.c3
      have q4 := Hsr.out.c4
      go_upto_region 8 with fail
      go_cut [8] (fun v wc => ∃ X : Nat, v = .pointer (some ⟨X, 0, none⟩) ∧ Box2 wc X (.int .i64 (pageS W.pool (W.sets k).rs (W.sets k).rb j)) (.int .i64 (pageB W.pool (W.sets k).rs (W.sets k).rb j)) ∧ Below wr.heap.size wr wc)
      case first =>
        refine wp_region_held_drew (S := (fun w' => w'.cell? ⟨w.heap.size, 0, none⟩ = some v0 ∧ w'.cell? ⟨w.heap.size, 1, none⟩ = some v1 ∧ w'.cell? ⟨w.heap.size, 4, none⟩ = some (.slice (some ⟨b, off, none⟩) W.sn cl) ∧ w'.cell? ⟨b, off + k * 6 + 3, none⟩ = some (.int .i64 (W.sets k).rs) ∧ w'.cell? ⟨b, off + k * 6 + 3 + 1, none⟩ = some (.int .i64 (W.sets k).rb))) (by kernel_rfl) ?_ (fun hHeld => ?_)
        · (try dsimp only)
          go_keep
        have hb0 : Below wr.heap.size wr wr.drew := (Below.refl _ _).drew
        clear x0 x1 x2 x3 x4 x5 q3 q4
        generalize wr.drew = q0 at hb0 hHeld ⊢
        refine tk 0 (h := tk 1 (h := tk 2 (h := tk 3 (h := tk 4 (h := tk 5 (h := tk 6 (h := tk 7 (h := tk 8 (h := ?_)))))))))
        refine rd [9, 13, 14] (rc (fun K hK => ?_) (rc (fun K hK => ?_) (rc (fun K hK => ?_) .nil)))
        · go_simp
          go_at_call 98
          refine (l02Path_any _ _ lo hi W.pool _ _ j _ ((Hp.out.pool.below hbw).below hb0) HTR.out (by omega)).mono ?_
          rintro e q1 ⟨rfl, hc1⟩
          have hb1 : Below wr.heap.size wr q1 := below_next hb0 hc1
          obtain ⟨⟨x0, -⟩, ⟨x1, -⟩, ⟨x2, -⟩, ⟨x3, -⟩, ⟨x4, -⟩, ⟨x5, -⟩⟩ := HXr.out.below hb1
          have q3 := (Hsr.out.below hb1).c3
          have q4 := (Hsr.out.below hb1).c4
          (try go_wp2_with fail)
          refine hK.out _ _ (by (try dsimp only); go_keep) ?_
          clear hK K hHeld
          intro hHeld
          try simp only [Act.put, s1, s2, s3]
          clear x0 x1 x2 x3 x4 x5 q3 q4
          refine tk 10 (h := tk 11 (h := tk 12 (h := ?_)))
          refine rd [13, 14] (rc (fun K hK => ?_) (rc (fun K hK => ?_) .nil))
          · go_simp
            have hc2 := below_alloc q1 (.cells #[.int .i64 0, .int .i64 0] 43)
            have hb2 : Below wr.heap.size wr (q1.alloc (.cells #[.int .i64 0, .int .i64 0] 43)) := below_next hb1 hc2
            have kA2 : Box2 (q1.alloc (.cells #[.int .i64 0, .int .i64 0] 43)) q1.heap.size (.int .i64 0) (.int .i64 0) := Box2.new _ _ _ _
            obtain ⟨⟨x0, -⟩, ⟨x1, -⟩, ⟨x2, -⟩, ⟨x3, -⟩, ⟨x4, -⟩, ⟨x5, -⟩⟩ := HXr.out.below hb2
            have q3 := (Hsr.out.below hb2).c3
            have q4 := (Hsr.out.below hb2).c4
            (try go_wp2_with fail)
            refine hK.out _ _ (by (try dsimp only); go_keep) ?_
            clear hK K hHeld
            intro hHeld
            try simp only [Act.put, s1, s2, s3]
            clear x0 x1 x2 x3 x4 x5 q3 q4
            generalize q1.alloc (.cells #[.int .i64 0, .int .i64 0] 43) = q2 at hb2 kA2 hHeld hc2 ⊢
            refine rd [14] (rc (fun K hK => ?_) .nil)
            go_simp
            have hc3 := below_alloc q2 (.cells #[.int .i64 0, .int .i64 0] 43)
            have hb3 : Below wr.heap.size wr (q2.alloc (.cells #[.int .i64 0, .int .i64 0] 43)) := below_next hb2 hc3
            have kB3 : Box2 (q2.alloc (.cells #[.int .i64 0, .int .i64 0] 43)) q2.heap.size (.int .i64 0) (.int .i64 0) := Box2.new _ _ _ _
            have hne : q1.heap.size ≠ q2.heap.size := by have := kA2.1.lt; omega
            have kA3 := kA2.below hc3
            obtain ⟨⟨x0, -⟩, ⟨x1, -⟩, ⟨x2, -⟩, ⟨x3, -⟩, ⟨x4, -⟩, ⟨x5, -⟩⟩ := HXr.out.below hb3
            have q3 := (Hsr.out.below hb3).c3
            have q4 := (Hsr.out.below hb3).c4
            (try go_wp2_with fail)
            refine hK.out _ _ (by (try dsimp only); go_keep) ?_
            clear hK K hHeld
            intro hHeld
            try simp only [Act.put, s1, s2, s3]
            clear x0 x1 x2 x3 x4 x5 q3 q4
            generalize q2.alloc (.cells #[.int .i64 0, .int .i64 0] 43) = q3 at hb3 kB3 kA3 hHeld hc3 ⊢
            refine rd [15] (rc (fun K hK => ?_) .nil)
            have hT4 := (Turned.put q3 (q1.heap.size) 0 (.int .i64 (pageS W.pool (W.sets k).rs (W.sets k).rb j))).trans (Turned.put _ (q1.heap.size) 1 (.int .i64 (pageB W.pool (W.sets k).rs (W.sets k).rb j)))
            have hb4 : Below wr.heap.size wr ((q3.setCell ⟨q1.heap.size, 0, none⟩ (.int .i64 (pageS W.pool (W.sets k).rs (W.sets k).rb j))).setCell ⟨q1.heap.size, 1, none⟩ (.int .i64 (pageB W.pool (W.sets k).rs (W.sets k).rb j))) := hb3.trans (hT4.below (B := wr.heap.size) hb3.size (fun k e => by have := hb1.size; omega))
            have kA4 := kA3.put (.int .i64 (pageS W.pool (W.sets k).rs (W.sets k).rb j)) (.int .i64 (pageB W.pool (W.sets k).rs (W.sets k).rb j))
            have kB4 := kB3.turned hT4 (by omega)
            obtain ⟨⟨a0, a0'⟩, ⟨a1, a1'⟩⟩ := kA3
            obtain ⟨⟨x0, -⟩, ⟨x1, -⟩, ⟨x2, -⟩, ⟨x3, -⟩, ⟨x4, -⟩, ⟨x5, -⟩⟩ := HXr.out.below hb4
            have q3 := (Hsr.out.below hb4).c3
            have q4 := (Hsr.out.below hb4).c4
            go_simp
            (try go_wp2_with fail)
            refine hK.out _ _ (by (try dsimp only); go_keep) ?_
            clear hK K hHeld
            intro hHeld
            try simp only [Act.put, s1, s2, s3]
            clear x0 x1 x2 x3 x4 x5 q3 q4 a0 a0' a1 a1'
            generalize ((q3.setCell ⟨q1.heap.size, 0, none⟩ (.int .i64 (pageS W.pool (W.sets k).rs (W.sets k).rb j))).setCell ⟨q1.heap.size, 1, none⟩ (.int .i64 (pageB W.pool (W.sets k).rs (W.sets k).rb j))) = q4 at hb4 kA4 kB4 hHeld hT4 ⊢
            refine rd [16] (rc (fun K hK => ?_) .nil)
            have hT5 := (Turned.put q4 (q2.heap.size) 0 (.int .i64 (nodeS W.pool (W.sets k).rs (W.sets k).rb j))).trans (Turned.put _ (q2.heap.size) 1 (.int .i64 (nodeB W.pool (W.sets k).rs (W.sets k).rb j)))
            have hb5 : Below wr.heap.size wr ((q4.setCell ⟨q2.heap.size, 0, none⟩ (.int .i64 (nodeS W.pool (W.sets k).rs (W.sets k).rb j))).setCell ⟨q2.heap.size, 1, none⟩ (.int .i64 (nodeB W.pool (W.sets k).rs (W.sets k).rb j))) := hb4.trans (hT5.below (B := wr.heap.size) hb4.size (fun k e => by have := hb2.size; omega))
            have kB5 := kB4.put (.int .i64 (nodeS W.pool (W.sets k).rs (W.sets k).rb j)) (.int .i64 (nodeB W.pool (W.sets k).rs (W.sets k).rb j))
            have kA5 := kA4.turned hT5 (by omega)
            obtain ⟨⟨a0, a0'⟩, ⟨a1, a1'⟩⟩ := kB4
            obtain ⟨⟨x0, -⟩, ⟨x1, -⟩, ⟨x2, -⟩, ⟨x3, -⟩, ⟨x4, -⟩, ⟨x5, -⟩⟩ := HXr.out.below hb5
            have q3 := (Hsr.out.below hb5).c3
            have q4 := (Hsr.out.below hb5).c4
            go_simp
            (try go_wp2_with fail)
            refine hK.out _ _ (by (try dsimp only); go_keep) ?_
            clear hK K hHeld
            intro hHeld
            try simp only [Act.put, s1, s2, s3]
            clear x0 x1 x2 x3 x4 x5 q3 q4 a0 a0' a1 a1'
            generalize ((q4.setCell ⟨q2.heap.size, 0, none⟩ (.int .i64 (nodeS W.pool (W.sets k).rs (W.sets k).rb j))).setCell ⟨q2.heap.size, 1, none⟩ (.int .i64 (nodeB W.pool (W.sets k).rs (W.sets k).rb j))) = q5 at hb5 kA5 kB5 hHeld hT5 ⊢
            refine wpAnyH_done (by kernel_rfl) ?_ _
            go_wp2_with fail
            go_meet
            case rel => exact ⟨_, rfl, kA5, hb5⟩
          · go_simp
            have hc6 := below_alloc q1 (.cells #[.int .i64 0, .int .i64 0] 43)
            have hb6 : Below wr.heap.size wr (q1.alloc (.cells #[.int .i64 0, .int .i64 0] 43)) := below_next hb1 hc6
            have kB6 : Box2 (q1.alloc (.cells #[.int .i64 0, .int .i64 0] 43)) q1.heap.size (.int .i64 0) (.int .i64 0) := Box2.new _ _ _ _
            obtain ⟨⟨x0, -⟩, ⟨x1, -⟩, ⟨x2, -⟩, ⟨x3, -⟩, ⟨x4, -⟩, ⟨x5, -⟩⟩ := HXr.out.below hb6
            have q3 := (Hsr.out.below hb6).c3
            have q4 := (Hsr.out.below hb6).c4
            (try go_wp2_with fail)
            refine hK.out _ _ (by (try dsimp only); go_keep) ?_
            clear hK K hHeld
            intro hHeld
            try simp only [Act.put, s1, s2, s3]
            clear x0 x1 x2 x3 x4 x5 q3 q4
            generalize q1.alloc (.cells #[.int .i64 0, .int .i64 0] 43) = q6 at hb6 kB6 hHeld hc6 ⊢
            refine rd [13] (rc (fun K hK => ?_) .nil)
            go_simp
            have hc7 := below_alloc q6 (.cells #[.int .i64 0, .int .i64 0] 43)
            have hb7 : Below wr.heap.size wr (q6.alloc (.cells #[.int .i64 0, .int .i64 0] 43)) := below_next hb6 hc7
            have kA7 : Box2 (q6.alloc (.cells #[.int .i64 0, .int .i64 0] 43)) q6.heap.size (.int .i64 0) (.int .i64 0) := Box2.new _ _ _ _
            have hne : q6.heap.size ≠ q1.heap.size := by have := kB6.1.lt; omega
            have kB7 := kB6.below hc7
            obtain ⟨⟨x0, -⟩, ⟨x1, -⟩, ⟨x2, -⟩, ⟨x3, -⟩, ⟨x4, -⟩, ⟨x5, -⟩⟩ := HXr.out.below hb7
            have q3 := (Hsr.out.below hb7).c3
            have q4 := (Hsr.out.below hb7).c4
            (try go_wp2_with fail)
            refine hK.out _ _ (by (try dsimp only); go_keep) ?_
            clear hK K hHeld
            intro hHeld
            try simp only [Act.put, s1, s2, s3]
            clear x0 x1 x2 x3 x4 x5 q3 q4
            generalize q6.alloc (.cells #[.int .i64 0, .int .i64 0] 43) = q7 at hb7 kA7 kB7 hHeld hc7 ⊢
            refine rd [15] (rc (fun K hK => ?_) .nil)
            have hT8 := (Turned.put q7 (q6.heap.size) 0 (.int .i64 (pageS W.pool (W.sets k).rs (W.sets k).rb j))).trans (Turned.put _ (q6.heap.size) 1 (.int .i64 (pageB W.pool (W.sets k).rs (W.sets k).rb j)))
            have hb8 : Below wr.heap.size wr ((q7.setCell ⟨q6.heap.size, 0, none⟩ (.int .i64 (pageS W.pool (W.sets k).rs (W.sets k).rb j))).setCell ⟨q6.heap.size, 1, none⟩ (.int .i64 (pageB W.pool (W.sets k).rs (W.sets k).rb j))) := hb7.trans (hT8.below (B := wr.heap.size) hb7.size (fun k e => by have := hb6.size; omega))
            have kA8 := kA7.put (.int .i64 (pageS W.pool (W.sets k).rs (W.sets k).rb j)) (.int .i64 (pageB W.pool (W.sets k).rs (W.sets k).rb j))
            have kB8 := kB7.turned hT8 (by omega)
            obtain ⟨⟨a0, a0'⟩, ⟨a1, a1'⟩⟩ := kA7
            obtain ⟨⟨x0, -⟩, ⟨x1, -⟩, ⟨x2, -⟩, ⟨x3, -⟩, ⟨x4, -⟩, ⟨x5, -⟩⟩ := HXr.out.below hb8
            have q3 := (Hsr.out.below hb8).c3
            have q4 := (Hsr.out.below hb8).c4
            go_simp
            (try go_wp2_with fail)
            refine hK.out _ _ (by (try dsimp only); go_keep) ?_
            clear hK K hHeld
            intro hHeld
            try simp only [Act.put, s1, s2, s3]
            clear x0 x1 x2 x3 x4 x5 q3 q4 a0 a0' a1 a1'
            generalize ((q7.setCell ⟨q6.heap.size, 0, none⟩ (.int .i64 (pageS W.pool (W.sets k).rs (W.sets k).rb j))).setCell ⟨q6.heap.size, 1, none⟩ (.int .i64 (pageB W.pool (W.sets k).rs (W.sets k).rb j))) = q8 at hb8 kA8 kB8 hHeld hT8 ⊢
            refine rd [16] (rc (fun K hK => ?_) .nil)
            have hT9 := (Turned.put q8 (q1.heap.size) 0 (.int .i64 (nodeS W.pool (W.sets k).rs (W.sets k).rb j))).trans (Turned.put _ (q1.heap.size) 1 (.int .i64 (nodeB W.pool (W.sets k).rs (W.sets k).rb j)))
            have hb9 : Below wr.heap.size wr ((q8.setCell ⟨q1.heap.size, 0, none⟩ (.int .i64 (nodeS W.pool (W.sets k).rs (W.sets k).rb j))).setCell ⟨q1.heap.size, 1, none⟩ (.int .i64 (nodeB W.pool (W.sets k).rs (W.sets k).rb j))) := hb8.trans (hT9.below (B := wr.heap.size) hb8.size (fun k e => by have := hb1.size; omega))
            have kB9 := kB8.put (.int .i64 (nodeS W.pool (W.sets k).rs (W.sets k).rb j)) (.int .i64 (nodeB W.pool (W.sets k).rs (W.sets k).rb j))
            have kA9 := kA8.turned hT9 (by omega)
            obtain ⟨⟨a0, a0'⟩, ⟨a1, a1'⟩⟩ := kB8
            obtain ⟨⟨x0, -⟩, ⟨x1, -⟩, ⟨x2, -⟩, ⟨x3, -⟩, ⟨x4, -⟩, ⟨x5, -⟩⟩ := HXr.out.below hb9
            have q3 := (Hsr.out.below hb9).c3
            have q4 := (Hsr.out.below hb9).c4
            go_simp
            (try go_wp2_with fail)
            refine hK.out _ _ (by (try dsimp only); go_keep) ?_
            clear hK K hHeld
            intro hHeld
            try simp only [Act.put, s1, s2, s3]
            clear x0 x1 x2 x3 x4 x5 q3 q4 a0 a0' a1 a1'
            generalize ((q8.setCell ⟨q1.heap.size, 0, none⟩ (.int .i64 (nodeS W.pool (W.sets k).rs (W.sets k).rb j))).setCell ⟨q1.heap.size, 1, none⟩ (.int .i64 (nodeB W.pool (W.sets k).rs (W.sets k).rb j))) = q9 at hb9 kA9 kB9 hHeld hT9 ⊢
            refine wpAnyH_done (by kernel_rfl) ?_ _
            go_wp2_with fail
            go_meet
            case rel => exact ⟨_, rfl, kA9, hb9⟩
        · go_simp
          have hc10 := below_alloc q0 (.cells #[.int .i64 0, .int .i64 0] 43)
          have hb10 : Below wr.heap.size wr (q0.alloc (.cells #[.int .i64 0, .int .i64 0] 43)) := below_next hb0 hc10
          have kA10 : Box2 (q0.alloc (.cells #[.int .i64 0, .int .i64 0] 43)) q0.heap.size (.int .i64 0) (.int .i64 0) := Box2.new _ _ _ _
          obtain ⟨⟨x0, -⟩, ⟨x1, -⟩, ⟨x2, -⟩, ⟨x3, -⟩, ⟨x4, -⟩, ⟨x5, -⟩⟩ := HXr.out.below hb10
          have q3 := (Hsr.out.below hb10).c3
          have q4 := (Hsr.out.below hb10).c4
          (try go_wp2_with fail)
          refine hK.out _ _ (by (try dsimp only); go_keep) ?_
          clear hK K hHeld
          intro hHeld
          try simp only [Act.put, s1, s2, s3]
          clear x0 x1 x2 x3 x4 x5 q3 q4
          generalize q0.alloc (.cells #[.int .i64 0, .int .i64 0] 43) = q10 at hb10 kA10 hHeld hc10 ⊢
          refine rd [9, 14] (rc (fun K hK => ?_) (rc (fun K hK => ?_) .nil))
          · go_simp
            go_at_call 98
            refine (l02Path_any _ _ lo hi W.pool _ _ j _ ((Hp.out.pool.below hbw).below hb10) HTR.out (by omega)).mono ?_
            rintro e q11 ⟨rfl, hc11⟩
            have hb11 : Below wr.heap.size wr q11 := below_next hb10 hc11
            have kA11 := kA10.below hc11
            obtain ⟨⟨x0, -⟩, ⟨x1, -⟩, ⟨x2, -⟩, ⟨x3, -⟩, ⟨x4, -⟩, ⟨x5, -⟩⟩ := HXr.out.below hb11
            have q3 := (Hsr.out.below hb11).c3
            have q4 := (Hsr.out.below hb11).c4
            (try go_wp2_with fail)
            refine hK.out _ _ (by (try dsimp only); go_keep) ?_
            clear hK K hHeld
            intro hHeld
            try simp only [Act.put, s1, s2, s3]
            clear x0 x1 x2 x3 x4 x5 q3 q4
            refine tk 10 (h := tk 11 (h := tk 12 (h := ?_)))
            refine rd [14] (rc (fun K hK => ?_) .nil)
            go_simp
            have hc12 := below_alloc q11 (.cells #[.int .i64 0, .int .i64 0] 43)
            have hb12 : Below wr.heap.size wr (q11.alloc (.cells #[.int .i64 0, .int .i64 0] 43)) := below_next hb11 hc12
            have kB12 : Box2 (q11.alloc (.cells #[.int .i64 0, .int .i64 0] 43)) q11.heap.size (.int .i64 0) (.int .i64 0) := Box2.new _ _ _ _
            have hne : q0.heap.size ≠ q11.heap.size := by have := kA11.1.lt; omega
            have kA12 := kA11.below hc12
            obtain ⟨⟨x0, -⟩, ⟨x1, -⟩, ⟨x2, -⟩, ⟨x3, -⟩, ⟨x4, -⟩, ⟨x5, -⟩⟩ := HXr.out.below hb12
            have q3 := (Hsr.out.below hb12).c3
            have q4 := (Hsr.out.below hb12).c4
            (try go_wp2_with fail)
            refine hK.out _ _ (by (try dsimp only); go_keep) ?_
            clear hK K hHeld
            intro hHeld
            try simp only [Act.put, s1, s2, s3]
            clear x0 x1 x2 x3 x4 x5 q3 q4
            generalize q11.alloc (.cells #[.int .i64 0, .int .i64 0] 43) = q12 at hb12 kB12 kA12 hHeld hc12 ⊢
            refine rd [15] (rc (fun K hK => ?_) .nil)
            have hT13 := (Turned.put q12 (q0.heap.size) 0 (.int .i64 (pageS W.pool (W.sets k).rs (W.sets k).rb j))).trans (Turned.put _ (q0.heap.size) 1 (.int .i64 (pageB W.pool (W.sets k).rs (W.sets k).rb j)))
            have hb13 : Below wr.heap.size wr ((q12.setCell ⟨q0.heap.size, 0, none⟩ (.int .i64 (pageS W.pool (W.sets k).rs (W.sets k).rb j))).setCell ⟨q0.heap.size, 1, none⟩ (.int .i64 (pageB W.pool (W.sets k).rs (W.sets k).rb j))) := hb12.trans (hT13.below (B := wr.heap.size) hb12.size (fun k e => by have := hb0.size; omega))
            have kA13 := kA12.put (.int .i64 (pageS W.pool (W.sets k).rs (W.sets k).rb j)) (.int .i64 (pageB W.pool (W.sets k).rs (W.sets k).rb j))
            have kB13 := kB12.turned hT13 (by omega)
            obtain ⟨⟨a0, a0'⟩, ⟨a1, a1'⟩⟩ := kA12
            obtain ⟨⟨x0, -⟩, ⟨x1, -⟩, ⟨x2, -⟩, ⟨x3, -⟩, ⟨x4, -⟩, ⟨x5, -⟩⟩ := HXr.out.below hb13
            have q3 := (Hsr.out.below hb13).c3
            have q4 := (Hsr.out.below hb13).c4
            go_simp
            (try go_wp2_with fail)
            refine hK.out _ _ (by (try dsimp only); go_keep) ?_
            clear hK K hHeld
            intro hHeld
            try simp only [Act.put, s1, s2, s3]
            clear x0 x1 x2 x3 x4 x5 q3 q4 a0 a0' a1 a1'
            generalize ((q12.setCell ⟨q0.heap.size, 0, none⟩ (.int .i64 (pageS W.pool (W.sets k).rs (W.sets k).rb j))).setCell ⟨q0.heap.size, 1, none⟩ (.int .i64 (pageB W.pool (W.sets k).rs (W.sets k).rb j))) = q13 at hb13 kA13 kB13 hHeld hT13 ⊢
            refine rd [16] (rc (fun K hK => ?_) .nil)
            have hT14 := (Turned.put q13 (q11.heap.size) 0 (.int .i64 (nodeS W.pool (W.sets k).rs (W.sets k).rb j))).trans (Turned.put _ (q11.heap.size) 1 (.int .i64 (nodeB W.pool (W.sets k).rs (W.sets k).rb j)))
            have hb14 : Below wr.heap.size wr ((q13.setCell ⟨q11.heap.size, 0, none⟩ (.int .i64 (nodeS W.pool (W.sets k).rs (W.sets k).rb j))).setCell ⟨q11.heap.size, 1, none⟩ (.int .i64 (nodeB W.pool (W.sets k).rs (W.sets k).rb j))) := hb13.trans (hT14.below (B := wr.heap.size) hb13.size (fun k e => by have := hb11.size; omega))
            have kB14 := kB13.put (.int .i64 (nodeS W.pool (W.sets k).rs (W.sets k).rb j)) (.int .i64 (nodeB W.pool (W.sets k).rs (W.sets k).rb j))
            have kA14 := kA13.turned hT14 (by omega)
            obtain ⟨⟨a0, a0'⟩, ⟨a1, a1'⟩⟩ := kB13
            obtain ⟨⟨x0, -⟩, ⟨x1, -⟩, ⟨x2, -⟩, ⟨x3, -⟩, ⟨x4, -⟩, ⟨x5, -⟩⟩ := HXr.out.below hb14
            have q3 := (Hsr.out.below hb14).c3
            have q4 := (Hsr.out.below hb14).c4
            go_simp
            (try go_wp2_with fail)
            refine hK.out _ _ (by (try dsimp only); go_keep) ?_
            clear hK K hHeld
            intro hHeld
            try simp only [Act.put, s1, s2, s3]
            clear x0 x1 x2 x3 x4 x5 q3 q4 a0 a0' a1 a1'
            generalize ((q13.setCell ⟨q11.heap.size, 0, none⟩ (.int .i64 (nodeS W.pool (W.sets k).rs (W.sets k).rb j))).setCell ⟨q11.heap.size, 1, none⟩ (.int .i64 (nodeB W.pool (W.sets k).rs (W.sets k).rb j))) = q14 at hb14 kA14 kB14 hHeld hT14 ⊢
            refine wpAnyH_done (by kernel_rfl) ?_ _
            go_wp2_with fail
            go_meet
            case rel => exact ⟨_, rfl, kA14, hb14⟩
          · go_simp
            have hc15 := below_alloc q10 (.cells #[.int .i64 0, .int .i64 0] 43)
            have hb15 : Below wr.heap.size wr (q10.alloc (.cells #[.int .i64 0, .int .i64 0] 43)) := below_next hb10 hc15
            have kB15 : Box2 (q10.alloc (.cells #[.int .i64 0, .int .i64 0] 43)) q10.heap.size (.int .i64 0) (.int .i64 0) := Box2.new _ _ _ _
            have hne : q0.heap.size ≠ q10.heap.size := by have := kA10.1.lt; omega
            have kA15 := kA10.below hc15
            obtain ⟨⟨x0, -⟩, ⟨x1, -⟩, ⟨x2, -⟩, ⟨x3, -⟩, ⟨x4, -⟩, ⟨x5, -⟩⟩ := HXr.out.below hb15
            have q3 := (Hsr.out.below hb15).c3
            have q4 := (Hsr.out.below hb15).c4
            (try go_wp2_with fail)
            refine hK.out _ _ (by (try dsimp only); go_keep) ?_
            clear hK K hHeld
            intro hHeld
            try simp only [Act.put, s1, s2, s3]
            clear x0 x1 x2 x3 x4 x5 q3 q4
            generalize q10.alloc (.cells #[.int .i64 0, .int .i64 0] 43) = q15 at hb15 kB15 kA15 hHeld hc15 ⊢
            refine rd [9] (rc (fun K hK => ?_) .nil)
            go_simp
            go_at_call 98
            refine (l02Path_any _ _ lo hi W.pool _ _ j _ ((Hp.out.pool.below hbw).below hb15) HTR.out (by omega)).mono ?_
            rintro e q16 ⟨rfl, hc16⟩
            have hb16 : Below wr.heap.size wr q16 := below_next hb15 hc16
            have kA16 := kA15.below hc16
            have kB16 := kB15.below hc16
            obtain ⟨⟨x0, -⟩, ⟨x1, -⟩, ⟨x2, -⟩, ⟨x3, -⟩, ⟨x4, -⟩, ⟨x5, -⟩⟩ := HXr.out.below hb16
            have q3 := (Hsr.out.below hb16).c3
            have q4 := (Hsr.out.below hb16).c4
            (try go_wp2_with fail)
            refine hK.out _ _ (by (try dsimp only); go_keep) ?_
            clear hK K hHeld
            intro hHeld
            try simp only [Act.put, s1, s2, s3]
            clear x0 x1 x2 x3 x4 x5 q3 q4
            refine tk 10 (h := tk 11 (h := tk 12 (h := ?_)))
            refine rd [15] (rc (fun K hK => ?_) .nil)
            have hT17 := (Turned.put q16 (q0.heap.size) 0 (.int .i64 (pageS W.pool (W.sets k).rs (W.sets k).rb j))).trans (Turned.put _ (q0.heap.size) 1 (.int .i64 (pageB W.pool (W.sets k).rs (W.sets k).rb j)))
            have hb17 : Below wr.heap.size wr ((q16.setCell ⟨q0.heap.size, 0, none⟩ (.int .i64 (pageS W.pool (W.sets k).rs (W.sets k).rb j))).setCell ⟨q0.heap.size, 1, none⟩ (.int .i64 (pageB W.pool (W.sets k).rs (W.sets k).rb j))) := hb16.trans (hT17.below (B := wr.heap.size) hb16.size (fun k e => by have := hb0.size; omega))
            have kA17 := kA16.put (.int .i64 (pageS W.pool (W.sets k).rs (W.sets k).rb j)) (.int .i64 (pageB W.pool (W.sets k).rs (W.sets k).rb j))
            have kB17 := kB16.turned hT17 (by omega)
            obtain ⟨⟨a0, a0'⟩, ⟨a1, a1'⟩⟩ := kA16
            obtain ⟨⟨x0, -⟩, ⟨x1, -⟩, ⟨x2, -⟩, ⟨x3, -⟩, ⟨x4, -⟩, ⟨x5, -⟩⟩ := HXr.out.below hb17
            have q3 := (Hsr.out.below hb17).c3
            have q4 := (Hsr.out.below hb17).c4
            go_simp
            (try go_wp2_with fail)
            refine hK.out _ _ (by (try dsimp only); go_keep) ?_
            clear hK K hHeld
            intro hHeld
            try simp only [Act.put, s1, s2, s3]
            clear x0 x1 x2 x3 x4 x5 q3 q4 a0 a0' a1 a1'
            generalize ((q16.setCell ⟨q0.heap.size, 0, none⟩ (.int .i64 (pageS W.pool (W.sets k).rs (W.sets k).rb j))).setCell ⟨q0.heap.size, 1, none⟩ (.int .i64 (pageB W.pool (W.sets k).rs (W.sets k).rb j))) = q17 at hb17 kA17 kB17 hHeld hT17 ⊢
            refine rd [16] (rc (fun K hK => ?_) .nil)
            have hT18 := (Turned.put q17 (q10.heap.size) 0 (.int .i64 (nodeS W.pool (W.sets k).rs (W.sets k).rb j))).trans (Turned.put _ (q10.heap.size) 1 (.int .i64 (nodeB W.pool (W.sets k).rs (W.sets k).rb j)))
            have hb18 : Below wr.heap.size wr ((q17.setCell ⟨q10.heap.size, 0, none⟩ (.int .i64 (nodeS W.pool (W.sets k).rs (W.sets k).rb j))).setCell ⟨q10.heap.size, 1, none⟩ (.int .i64 (nodeB W.pool (W.sets k).rs (W.sets k).rb j))) := hb17.trans (hT18.below (B := wr.heap.size) hb17.size (fun k e => by have := hb10.size; omega))
            have kB18 := kB17.put (.int .i64 (nodeS W.pool (W.sets k).rs (W.sets k).rb j)) (.int .i64 (nodeB W.pool (W.sets k).rs (W.sets k).rb j))
            have kA18 := kA17.turned hT18 (by omega)
            obtain ⟨⟨a0, a0'⟩, ⟨a1, a1'⟩⟩ := kB17
            obtain ⟨⟨x0, -⟩, ⟨x1, -⟩, ⟨x2, -⟩, ⟨x3, -⟩, ⟨x4, -⟩, ⟨x5, -⟩⟩ := HXr.out.below hb18
            have q3 := (Hsr.out.below hb18).c3
            have q4 := (Hsr.out.below hb18).c4
            go_simp
            (try go_wp2_with fail)
            refine hK.out _ _ (by (try dsimp only); go_keep) ?_
            clear hK K hHeld
            intro hHeld
            try simp only [Act.put, s1, s2, s3]
            clear x0 x1 x2 x3 x4 x5 q3 q4 a0 a0' a1 a1'
            generalize ((q17.setCell ⟨q10.heap.size, 0, none⟩ (.int .i64 (nodeS W.pool (W.sets k).rs (W.sets k).rb j))).setCell ⟨q10.heap.size, 1, none⟩ (.int .i64 (nodeB W.pool (W.sets k).rs (W.sets k).rb j))) = q18 at hb18 kA18 kB18 hHeld hT18 ⊢
            refine wpAnyH_done (by kernel_rfl) ?_ _
            go_wp2_with fail
            go_meet
            case rel => exact ⟨_, rfl, kA18, hb18⟩
        · go_simp
          have hc19 := below_alloc q0 (.cells #[.int .i64 0, .int .i64 0] 43)
          have hb19 : Below wr.heap.size wr (q0.alloc (.cells #[.int .i64 0, .int .i64 0] 43)) := below_next hb0 hc19
          have kB19 : Box2 (q0.alloc (.cells #[.int .i64 0, .int .i64 0] 43)) q0.heap.size (.int .i64 0) (.int .i64 0) := Box2.new _ _ _ _
          obtain ⟨⟨x0, -⟩, ⟨x1, -⟩, ⟨x2, -⟩, ⟨x3, -⟩, ⟨x4, -⟩, ⟨x5, -⟩⟩ := HXr.out.below hb19
          have q3 := (Hsr.out.below hb19).c3
          have q4 := (Hsr.out.below hb19).c4
          (try go_wp2_with fail)
          refine hK.out _ _ (by (try dsimp only); go_keep) ?_
          clear hK K hHeld
          intro hHeld
          try simp only [Act.put, s1, s2, s3]
          clear x0 x1 x2 x3 x4 x5 q3 q4
          generalize q0.alloc (.cells #[.int .i64 0, .int .i64 0] 43) = q19 at hb19 kB19 hHeld hc19 ⊢
          refine rd [9, 13] (rc (fun K hK => ?_) (rc (fun K hK => ?_) .nil))
          · go_simp
            go_at_call 98
            refine (l02Path_any _ _ lo hi W.pool _ _ j _ ((Hp.out.pool.below hbw).below hb19) HTR.out (by omega)).mono ?_
            rintro e q20 ⟨rfl, hc20⟩
            have hb20 : Below wr.heap.size wr q20 := below_next hb19 hc20
            have kB20 := kB19.below hc20
            obtain ⟨⟨x0, -⟩, ⟨x1, -⟩, ⟨x2, -⟩, ⟨x3, -⟩, ⟨x4, -⟩, ⟨x5, -⟩⟩ := HXr.out.below hb20
            have q3 := (Hsr.out.below hb20).c3
            have q4 := (Hsr.out.below hb20).c4
            (try go_wp2_with fail)
            refine hK.out _ _ (by (try dsimp only); go_keep) ?_
            clear hK K hHeld
            intro hHeld
            try simp only [Act.put, s1, s2, s3]
            clear x0 x1 x2 x3 x4 x5 q3 q4
            refine tk 10 (h := tk 11 (h := tk 12 (h := ?_)))
            refine rd [13] (rc (fun K hK => ?_) .nil)
            go_simp
            have hc21 := below_alloc q20 (.cells #[.int .i64 0, .int .i64 0] 43)
            have hb21 : Below wr.heap.size wr (q20.alloc (.cells #[.int .i64 0, .int .i64 0] 43)) := below_next hb20 hc21
            have kA21 : Box2 (q20.alloc (.cells #[.int .i64 0, .int .i64 0] 43)) q20.heap.size (.int .i64 0) (.int .i64 0) := Box2.new _ _ _ _
            have hne : q20.heap.size ≠ q0.heap.size := by have := kB20.1.lt; omega
            have kB21 := kB20.below hc21
            obtain ⟨⟨x0, -⟩, ⟨x1, -⟩, ⟨x2, -⟩, ⟨x3, -⟩, ⟨x4, -⟩, ⟨x5, -⟩⟩ := HXr.out.below hb21
            have q3 := (Hsr.out.below hb21).c3
            have q4 := (Hsr.out.below hb21).c4
            (try go_wp2_with fail)
            refine hK.out _ _ (by (try dsimp only); go_keep) ?_
            clear hK K hHeld
            intro hHeld
            try simp only [Act.put, s1, s2, s3]
            clear x0 x1 x2 x3 x4 x5 q3 q4
            generalize q20.alloc (.cells #[.int .i64 0, .int .i64 0] 43) = q21 at hb21 kA21 kB21 hHeld hc21 ⊢
            refine rd [15] (rc (fun K hK => ?_) .nil)
            have hT22 := (Turned.put q21 (q20.heap.size) 0 (.int .i64 (pageS W.pool (W.sets k).rs (W.sets k).rb j))).trans (Turned.put _ (q20.heap.size) 1 (.int .i64 (pageB W.pool (W.sets k).rs (W.sets k).rb j)))
            have hb22 : Below wr.heap.size wr ((q21.setCell ⟨q20.heap.size, 0, none⟩ (.int .i64 (pageS W.pool (W.sets k).rs (W.sets k).rb j))).setCell ⟨q20.heap.size, 1, none⟩ (.int .i64 (pageB W.pool (W.sets k).rs (W.sets k).rb j))) := hb21.trans (hT22.below (B := wr.heap.size) hb21.size (fun k e => by have := hb20.size; omega))
            have kA22 := kA21.put (.int .i64 (pageS W.pool (W.sets k).rs (W.sets k).rb j)) (.int .i64 (pageB W.pool (W.sets k).rs (W.sets k).rb j))
            have kB22 := kB21.turned hT22 (by omega)
            obtain ⟨⟨a0, a0'⟩, ⟨a1, a1'⟩⟩ := kA21
            obtain ⟨⟨x0, -⟩, ⟨x1, -⟩, ⟨x2, -⟩, ⟨x3, -⟩, ⟨x4, -⟩, ⟨x5, -⟩⟩ := HXr.out.below hb22
            have q3 := (Hsr.out.below hb22).c3
            have q4 := (Hsr.out.below hb22).c4
            go_simp
            (try go_wp2_with fail)
            refine hK.out _ _ (by (try dsimp only); go_keep) ?_
            clear hK K hHeld
            intro hHeld
            try simp only [Act.put, s1, s2, s3]
            clear x0 x1 x2 x3 x4 x5 q3 q4 a0 a0' a1 a1'
            generalize ((q21.setCell ⟨q20.heap.size, 0, none⟩ (.int .i64 (pageS W.pool (W.sets k).rs (W.sets k).rb j))).setCell ⟨q20.heap.size, 1, none⟩ (.int .i64 (pageB W.pool (W.sets k).rs (W.sets k).rb j))) = q22 at hb22 kA22 kB22 hHeld hT22 ⊢
            refine rd [16] (rc (fun K hK => ?_) .nil)
            have hT23 := (Turned.put q22 (q0.heap.size) 0 (.int .i64 (nodeS W.pool (W.sets k).rs (W.sets k).rb j))).trans (Turned.put _ (q0.heap.size) 1 (.int .i64 (nodeB W.pool (W.sets k).rs (W.sets k).rb j)))
            have hb23 : Below wr.heap.size wr ((q22.setCell ⟨q0.heap.size, 0, none⟩ (.int .i64 (nodeS W.pool (W.sets k).rs (W.sets k).rb j))).setCell ⟨q0.heap.size, 1, none⟩ (.int .i64 (nodeB W.pool (W.sets k).rs (W.sets k).rb j))) := hb22.trans (hT23.below (B := wr.heap.size) hb22.size (fun k e => by have := hb0.size; omega))
            have kB23 := kB22.put (.int .i64 (nodeS W.pool (W.sets k).rs (W.sets k).rb j)) (.int .i64 (nodeB W.pool (W.sets k).rs (W.sets k).rb j))
            have kA23 := kA22.turned hT23 (by omega)
            obtain ⟨⟨a0, a0'⟩, ⟨a1, a1'⟩⟩ := kB22
            obtain ⟨⟨x0, -⟩, ⟨x1, -⟩, ⟨x2, -⟩, ⟨x3, -⟩, ⟨x4, -⟩, ⟨x5, -⟩⟩ := HXr.out.below hb23
            have q3 := (Hsr.out.below hb23).c3
            have q4 := (Hsr.out.below hb23).c4
            go_simp
            (try go_wp2_with fail)
            refine hK.out _ _ (by (try dsimp only); go_keep) ?_
            clear hK K hHeld
            intro hHeld
            try simp only [Act.put, s1, s2, s3]
            clear x0 x1 x2 x3 x4 x5 q3 q4 a0 a0' a1 a1'
            generalize ((q22.setCell ⟨q0.heap.size, 0, none⟩ (.int .i64 (nodeS W.pool (W.sets k).rs (W.sets k).rb j))).setCell ⟨q0.heap.size, 1, none⟩ (.int .i64 (nodeB W.pool (W.sets k).rs (W.sets k).rb j))) = q23 at hb23 kA23 kB23 hHeld hT23 ⊢
            refine wpAnyH_done (by kernel_rfl) ?_ _
            go_wp2_with fail
            go_meet
            case rel => exact ⟨_, rfl, kA23, hb23⟩
          · go_simp
            have hc24 := below_alloc q19 (.cells #[.int .i64 0, .int .i64 0] 43)
            have hb24 : Below wr.heap.size wr (q19.alloc (.cells #[.int .i64 0, .int .i64 0] 43)) := below_next hb19 hc24
            have kA24 : Box2 (q19.alloc (.cells #[.int .i64 0, .int .i64 0] 43)) q19.heap.size (.int .i64 0) (.int .i64 0) := Box2.new _ _ _ _
            have hne : q19.heap.size ≠ q0.heap.size := by have := kB19.1.lt; omega
            have kB24 := kB19.below hc24
            obtain ⟨⟨x0, -⟩, ⟨x1, -⟩, ⟨x2, -⟩, ⟨x3, -⟩, ⟨x4, -⟩, ⟨x5, -⟩⟩ := HXr.out.below hb24
            have q3 := (Hsr.out.below hb24).c3
            have q4 := (Hsr.out.below hb24).c4
            (try go_wp2_with fail)
            refine hK.out _ _ (by (try dsimp only); go_keep) ?_
            clear hK K hHeld
            intro hHeld
            try simp only [Act.put, s1, s2, s3]
            clear x0 x1 x2 x3 x4 x5 q3 q4
            generalize q19.alloc (.cells #[.int .i64 0, .int .i64 0] 43) = q24 at hb24 kA24 kB24 hHeld hc24 ⊢
            refine rd [9] (rc (fun K hK => ?_) .nil)
            go_simp
            go_at_call 98
            refine (l02Path_any _ _ lo hi W.pool _ _ j _ ((Hp.out.pool.below hbw).below hb24) HTR.out (by omega)).mono ?_
            rintro e q25 ⟨rfl, hc25⟩
            have hb25 : Below wr.heap.size wr q25 := below_next hb24 hc25
            have kA25 := kA24.below hc25
            have kB25 := kB24.below hc25
            obtain ⟨⟨x0, -⟩, ⟨x1, -⟩, ⟨x2, -⟩, ⟨x3, -⟩, ⟨x4, -⟩, ⟨x5, -⟩⟩ := HXr.out.below hb25
            have q3 := (Hsr.out.below hb25).c3
            have q4 := (Hsr.out.below hb25).c4
            (try go_wp2_with fail)
            refine hK.out _ _ (by (try dsimp only); go_keep) ?_
            clear hK K hHeld
            intro hHeld
            try simp only [Act.put, s1, s2, s3]
            clear x0 x1 x2 x3 x4 x5 q3 q4
            refine tk 10 (h := tk 11 (h := tk 12 (h := ?_)))
            refine rd [15] (rc (fun K hK => ?_) .nil)
            have hT26 := (Turned.put q25 (q19.heap.size) 0 (.int .i64 (pageS W.pool (W.sets k).rs (W.sets k).rb j))).trans (Turned.put _ (q19.heap.size) 1 (.int .i64 (pageB W.pool (W.sets k).rs (W.sets k).rb j)))
            have hb26 : Below wr.heap.size wr ((q25.setCell ⟨q19.heap.size, 0, none⟩ (.int .i64 (pageS W.pool (W.sets k).rs (W.sets k).rb j))).setCell ⟨q19.heap.size, 1, none⟩ (.int .i64 (pageB W.pool (W.sets k).rs (W.sets k).rb j))) := hb25.trans (hT26.below (B := wr.heap.size) hb25.size (fun k e => by have := hb19.size; omega))
            have kA26 := kA25.put (.int .i64 (pageS W.pool (W.sets k).rs (W.sets k).rb j)) (.int .i64 (pageB W.pool (W.sets k).rs (W.sets k).rb j))
            have kB26 := kB25.turned hT26 (by omega)
            obtain ⟨⟨a0, a0'⟩, ⟨a1, a1'⟩⟩ := kA25
            obtain ⟨⟨x0, -⟩, ⟨x1, -⟩, ⟨x2, -⟩, ⟨x3, -⟩, ⟨x4, -⟩, ⟨x5, -⟩⟩ := HXr.out.below hb26
            have q3 := (Hsr.out.below hb26).c3
            have q4 := (Hsr.out.below hb26).c4
            go_simp
            (try go_wp2_with fail)
            refine hK.out _ _ (by (try dsimp only); go_keep) ?_
            clear hK K hHeld
            intro hHeld
            try simp only [Act.put, s1, s2, s3]
            clear x0 x1 x2 x3 x4 x5 q3 q4 a0 a0' a1 a1'
            generalize ((q25.setCell ⟨q19.heap.size, 0, none⟩ (.int .i64 (pageS W.pool (W.sets k).rs (W.sets k).rb j))).setCell ⟨q19.heap.size, 1, none⟩ (.int .i64 (pageB W.pool (W.sets k).rs (W.sets k).rb j))) = q26 at hb26 kA26 kB26 hHeld hT26 ⊢
            refine rd [16] (rc (fun K hK => ?_) .nil)
            have hT27 := (Turned.put q26 (q0.heap.size) 0 (.int .i64 (nodeS W.pool (W.sets k).rs (W.sets k).rb j))).trans (Turned.put _ (q0.heap.size) 1 (.int .i64 (nodeB W.pool (W.sets k).rs (W.sets k).rb j)))
            have hb27 : Below wr.heap.size wr ((q26.setCell ⟨q0.heap.size, 0, none⟩ (.int .i64 (nodeS W.pool (W.sets k).rs (W.sets k).rb j))).setCell ⟨q0.heap.size, 1, none⟩ (.int .i64 (nodeB W.pool (W.sets k).rs (W.sets k).rb j))) := hb26.trans (hT27.below (B := wr.heap.size) hb26.size (fun k e => by have := hb0.size; omega))
            have kB27 := kB26.put (.int .i64 (nodeS W.pool (W.sets k).rs (W.sets k).rb j)) (.int .i64 (nodeB W.pool (W.sets k).rs (W.sets k).rb j))
            have kA27 := kA26.turned hT27 (by omega)
            obtain ⟨⟨a0, a0'⟩, ⟨a1, a1'⟩⟩ := kB26
            obtain ⟨⟨x0, -⟩, ⟨x1, -⟩, ⟨x2, -⟩, ⟨x3, -⟩, ⟨x4, -⟩, ⟨x5, -⟩⟩ := HXr.out.below hb27
            have q3 := (Hsr.out.below hb27).c3
            have q4 := (Hsr.out.below hb27).c4
            go_simp
            (try go_wp2_with fail)
            refine hK.out _ _ (by (try dsimp only); go_keep) ?_
            clear hK K hHeld
            intro hHeld
            try simp only [Act.put, s1, s2, s3]
            clear x0 x1 x2 x3 x4 x5 q3 q4 a0 a0' a1 a1'
            generalize ((q26.setCell ⟨q0.heap.size, 0, none⟩ (.int .i64 (nodeS W.pool (W.sets k).rs (W.sets k).rb j))).setCell ⟨q0.heap.size, 1, none⟩ (.int .i64 (nodeB W.pool (W.sets k).rs (W.sets k).rb j))) = q27 at hb27 kA27 kB27 hHeld hT27 ⊢
            refine wpAnyH_done (by kernel_rfl) ?_ _
            go_wp2_with fail
            go_meet
            case rel => exact ⟨_, rfl, kA27, hb27⟩
      case rest =>
        obtain ⟨X, rfl, hX, hbc⟩ := hcut
        have Hrow3 := hideW (Hrow.out.below hbc)
        have hB3 := below_next hbw hbc
        have HY := hideW (fun (h : PageNe W.pool (W.sets k).rs (W.sets k).rb 0 0 j) => apartL_yes h)
        have HE := hideW (fun (h : ¬ PageNe W.pool (W.sets k).rs (W.sets k).rb 0 0 j) => apartL_no h)
        have HZ := hideW (@pageNe_zero W.pool (W.sets k).rs (W.sets k).rb j)
        obtain ⟨⟨p0, -⟩, ⟨p1, -⟩⟩ := hX
        clear x0 x1 x2 x3 x4 x5 q3 q4 Hrow hbc HXr Hsr
        go_wp2_with fail
        refine (l01None_any _ _ wc).mono ?_
        rintro e w4 ⟨⟨t4, rfl, ht4⟩, hb4⟩
        have HT4 := hideW ht4
        have Hrow4 := hideW (Hrow3.out.below hb4)
        have hB4 := below_next hB3 hb4
        clear ht4 hb4 Hrow3 hB3 p0 p1
        cases t4
        · have HC := hideW (HY.out (HZ.out.2 (fun h => absurd (HT4.out.2 h) (by simp))))
          have hba := below_alloc w4 (.cells #[.int .i64 (j : Int)] 2)
          have Hrow7 := hideW (Hrow4.out.below hba)
          have hB7 := below_next hB4 hba
          have HNW := hideW (World.news_of_block (heap_alloc_last w4 (.cells #[.int .i64 (j : Int)] 2)))
          clear hba
          go_wp2_with (first
            | (at_builtin; refine wpList_append_lies _ rfl _ _ 23 rfl Wb.heap.size 2 i0 (.int .i64 0) 1 8 (by kernel_rfl) HI.out.1 HI.out.2.1 HI.out.2.2.1 HI.out.2.2.2 rfl (by decide) _ _ _ rfl Hrow7.out.1 ⟨w4.heap.size, 0, none⟩ 1 1 [.int .i64 (j : Int)] rfl rfl HNW.out (by simp [Value.oneCell']) (by decide) (by unfold maxLen; omega) (by omega) hB7.size _ rfl ?_; intro g' cap' w8 hown8 hgrow8 hat8 hlt8)
            | go_in)
          go_roundw
          case rel => exact ⟨j + 1, by omega, by go_num, by rw [HC.out]; exact RowP.next hown8, hB7.grown hgrow8 hB7.size (fun q hq => (Hrow7.out.lt hq).1)⟩
          case measure => simp [intOf]; omega
        · have HC := hideW (HE.out (fun h => HZ.out.1 h (HT4.out.1 rfl)))
          go_wp2
          go_roundw
          case rel => exact ⟨j + 1, by omega, by go_num, by rw [HC.out]; exact Hrow4.out, hB4⟩
          case measure => simp [intOf]; omega
    · obtain rfl : j = 64 := by omega
      go_wp2
      go_ret
      rw [HA.out]
      exact ⟨_, rfl, Hrow.out.mono (by have := Hz1.out; omega), below_next Hb1.out hbw⟩

end Go.Proofs.YtjpbmpjddbekgaaGreat
