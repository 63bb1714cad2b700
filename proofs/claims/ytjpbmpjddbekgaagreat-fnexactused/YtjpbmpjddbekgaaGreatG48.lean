/- What spec.Used answers. -/
import Derived.Test.YtjpbmpjddbekgaaGreatG34
namespace Go.Proofs.YtjpbmpjddbekgaaGreat
open Go.RowKit Go.Maps
set_option linter.unusedVariables false

set_option maxRecDepth 20000 in
set_option maxHeartbeats 1000000 in
theorem specUsed_any (v0 v1 v2 v3 : Value) (lo hi : Nat) (W : WorldD) (x : ByteArray) (w : World) (h : WorldAt w lo hi v0 v1 v2 v3 W) (hsx : x.size ≤ maxLen) : Calls Tryz.prog 31 #[worldV v0 v1 v2 v3 W, .string x] w fun e w' => e = .returned (.int .i64 (usedAns W x)) ∧ Below w.heap.size w w' := by
  have Hp := hideW h
  obtain ⟨m1, al, cl, rfl, ml, -⟩ := id h.sets
  clear h
  unfold maxLen at m1
  have hbw := below_alloc w (.cells #[v0, v1, .int .i64 W.time, .int .i64 W.next, .slice al W.sn cl, v3] 38)
  have HX := hideW (Box6.new w v0 v1 (.int .i64 W.time) (.int .i64 W.next) (.slice al W.sn cl) v3 38)
  obtain ⟨⟨x0, -⟩, ⟨x1, -⟩, ⟨x2, -⟩, ⟨x3, -⟩, ⟨x4, -⟩, ⟨x5, -⟩⟩ := HX.out
  go_enter Tryz.func31, Tryz.ntmps31
  go_wp2_with fail
  generalize w.alloc (.cells #[v0, v1, .int .i64 W.time, .int .i64 W.next, .slice al W.sn cl, v3] 38) = W0 at HX hbw x0 x1 x2 x3 x4 x5 ⊢
  refine (l04Set_any _ _ _ _ lo hi W x W0 (Hp.out.below hbw)).mono ?_
  rintro e w1 ⟨r, rfl, hr, hb1⟩
  have hB1 := below_next hbw hb1
  have HX1 := hideW (HX.out.below hb1)
  clear x0 x1 x2 x3 x4 x5 hb1 hbw HX
  by_cases hbig : 8000 < x.size
  · have hbig' : (8000 : Int) < (x.size : Int) := by omega
    have HA := hideW (show usedAns W x = 0 from usedAns_zero (setAt_long hbig))
    clear hr
    go_wp2
    go_ret
    exact ⟨by rw [HA.out]; rfl, hB1⟩
  have hbig' : ¬ (8000 : Int) < (x.size : Int) := by omega
  unfold maxLen at hsx
  rcases hr with ⟨k, hk, hke, hkl, rfl⟩ | ⟨hno, rfl⟩
  rotate_left
  · have HA := hideW (show usedAns W x = 0 from usedAns_zero (fun _ => setAt_no hno))
    clear hno
    go_wp2
    go_ret
    exact ⟨by rw [HA.out]; rfl, hB1⟩
  · have Hno := hideW (show SetNo W x k from ⟨hk, hke, hkl⟩)
    have hk' : (k : Int) < (W.sn : Int) := by omega
    clear hke hkl
    obtain ⟨⟨x0, -⟩, ⟨x1, -⟩, ⟨x2, -⟩, ⟨x3, -⟩, ⟨x4, -⟩, ⟨x5, -⟩⟩ := HX1.out
    go_wp2_with fail
    refine (specWorldRight_any _ _ _ _ lo hi W w1 (Hp.out.below hB1)).mono ?_
    rintro e w2 ⟨⟨t, rfl, ht⟩, hb2⟩
    have Ht := hideW ht
    have hB2 := below_next hB1 hb2
    have HX2 := hideW (HX1.out.below hb2)
    clear ht x0 x1 x2 x3 x4 x5 hb2 hB1 HX1
    cases t
    · have HA := hideW (show usedAns W x = 0 from usedAns_no (fun h => absurd (Ht.out.2 h) (by simp)))
      go_wp2
      go_ret
      exact ⟨by rw [HA.out]; rfl, hB2⟩
    · have HS := hideW (Ht.out.1 rfl)
      have HA := hideW (show usedAns W x = (treeL W.pool (W.sets k).rs (W.sets k).rb).length by rw [usedAns_yes HS.out, setAt_at Hno.out])
      obtain ⟨b, off, vd, rfl, hs⟩ := (Hp.out.sets.below hB2).cells hk
      have q3 := hs.c3
      have q4 := hs.c4
      have Hs := hideW hs
      clear hs
      obtain ⟨⟨x0, -⟩, ⟨x1, -⟩, ⟨x2, -⟩, ⟨x3, -⟩, ⟨x4, -⟩, ⟨x5, -⟩⟩ := HX2.out
      have hlen : (treeL W.pool (W.sets k).rs (W.sets k).rb).length ≤ 73 := by
        have := treeQ_len W.pool (W.sets k).rs (W.sets k).rb
        rw [← treeQ_snd, List.length_map]
        exact this
      go_wp2_with fail
      go_region_held3 (fun w' => w'.cell? ⟨w.heap.size, 0, none⟩ = some v0 ∧ w'.cell? ⟨w.heap.size, 1, none⟩ = some v1 ∧ w'.cell? ⟨w.heap.size, 4, none⟩ = some (.slice (some ⟨b, off, none⟩) W.sn cl) ∧ w'.cell? ⟨b, off + k * 6 + 3, none⟩ = some (.int .i64 (W.sets k).rs) ∧ w'.cell? ⟨b, off + k * 6 + 3 + 1, none⟩ = some (.int .i64 (W.sets k).rb)) (go_keep)
        (first
          | (go_at_call 93; refine (l02Ptrs_any _ _ lo hi W.pool _ _ _ (((Hp.out.below hB2).pool).below (Below.refl _ _).drew) HS.out.right (HS.out.sets k hk).1).mono ?_; rintro e w3 ⟨v, rfl, hrow, hb3⟩; have hb3' := below_undrew hb3; obtain ⟨a3, c3, rfl, -⟩ := owns_form hrow; obtain ⟨⟨z0, -⟩, ⟨z1, -⟩, ⟨z2, -⟩, ⟨z3, -⟩, ⟨z4, -⟩, ⟨z5, -⟩⟩ := HX2.out.below hb3'; have p3 := (Hs.out.below hb3').c3; have p4 := (Hs.out.below hb3').c4))
      go_wp2
      go_ret
      exact ⟨by rw [HA.out]; rfl, below_next hB2 hb3'⟩

end Go.Proofs.YtjpbmpjddbekgaaGreat

namespace Go.Proofs.YtjpbmpjddbekgaaGreat
open Go.RowKit Go.Maps
set_option linter.unusedVariables false

set_option maxRecDepth 20000 in
set_option maxHeartbeats 1000000 in
theorem implUsed_any (v0 v1 v2 v3 : Value) (lo hi : Nat) (W : WorldD) (x : ByteArray) (w : World) (h : WorldAt w lo hi v0 v1 v2 v3 W) (hh : hi ≤ w.heap.size) (hwf : PrevsWf W) (hx : x.size ≤ maxLen) : Calls Tryz.prog 32 #[worldV v0 v1 v2 v3 W, .string x] w fun e w' => e = .returned (.int .i64 (usedAns W x)) ∧ Below w.heap.size w w' := by
  have Hp := hideW h
  have Hwf := hideW hwf
  have Hx := hideW hx
  clear h hwf hx
  have hbw := below_alloc w (.cells #[v0, v1, .int .i64 W.time, .int .i64 W.next, v2, v3] 38)
  have HX := hideW (Box6.new w v0 v1 (.int .i64 W.time) (.int .i64 W.next) v2 v3 38)
  obtain ⟨⟨x0, -⟩, ⟨x1, -⟩, ⟨x2, -⟩, ⟨x3, -⟩, ⟨x4, -⟩, ⟨x5, -⟩⟩ := HX.out
  go_enter Tryz.func32, Tryz.ntmps32
  go_wp2_with fail
  generalize w.alloc (.cells #[v0, v1, .int .i64 W.time, .int .i64 W.next, v2, v3] 38) = W0 at HX hbw x0 x1 x2 x3 x4 x5 ⊢
  refine (implWorldRight_any v0 v1 v2 v3 lo hi W W0 (Hp.out.below hbw) Hwf.out).mono ?_
  rintro e w1 ⟨⟨t, rfl, ht⟩, hb1⟩
  have Ht := hideW (ht.trans (world_iff W))
  have hB1 := below_next hbw hb1
  have HX1 := hideW (HX.out.below hb1)
  clear x0 x1 x2 x3 x4 x5 hb1 hbw HX ht
  cases t
  · have HA := hideW (show usedAns W x = 0 from usedAns_no (fun h => absurd (Ht.out.2 h) (by simp)))
    go_wp2
    go_ret
    exact ⟨by rw [HA.out]; rfl, hB1⟩
  · have HW := hideW (Ht.out.1 rfl)
    have HA := hideW (show usedAns W x = cntNot (fun _ => False) (treeL W.pool (setAt W x).rs (setAt W x).rb) by rw [usedAns_yes HW.out, cntNot_all])
    have HT := hideW (setAt_ok HW.out x)
    have hf := fieldRoot
    obtain ⟨⟨x0, -⟩, ⟨x1, -⟩, ⟨x2, -⟩, ⟨x3, -⟩, ⟨x4, -⟩, ⟨x5, -⟩⟩ := HX1.out
    go_wp2_with fail
    go_region_held3 (fun w' => w'.cell? ⟨w.heap.size, 0, none⟩ = some v0 ∧ w'.cell? ⟨w.heap.size, 1, none⟩ = some v1 ∧ w'.cell? ⟨w.heap.size, 2, none⟩ = some (.int .i64 W.time) ∧ w'.cell? ⟨w.heap.size, 3, none⟩ = some (.int .i64 W.next) ∧ w'.cell? ⟨w.heap.size, 4, none⟩ = some v2 ∧ w'.cell? ⟨w.heap.size, 5, none⟩ = some v3) (go_keep)
      (first
        | (go_at_call 88; refine (setsByName_any v0 v1 v2 v3 lo hi W _ ((Hp.out.below hB1).below (Below.refl _ _).drew) HW.out.names.2.2.1).mono ?_; rintro e w2 ⟨vd, rfl, hm, hd, hb2⟩; have hb2' := below_undrew hb2; obtain ⟨a, c, hat, hp⟩ := setNames_look (HW.out.names.dist) hd x; have hlk := sets_run (M := w1.heap.size + 1) hm Hx.out hat; obtain ⟨⟨z0, -⟩, ⟨z1, -⟩, ⟨z2, -⟩, ⟨z3, -⟩, ⟨z4, -⟩, ⟨z5, -⟩⟩ := HX1.out.below hb2')
        | (go_at_call 94; refine (countOwn_any v0 v1 v2 v3 lo hi W _ _ _ (fun _ => False) _ ((Hp.out.below hB1).below hb2') (by have := hb2'.size; have := hB1.size; omega) HW.out.right HT.out (fun w' _ => whoHas_none v0 v1 v2 v3 W w')).mono ?_; rintro e w3 ⟨rfl, hb3⟩; have hb3' := below_next hb2' hb3; obtain ⟨⟨k0, -⟩, ⟨k1, -⟩, ⟨k2, -⟩, ⟨k3, -⟩, ⟨k4, -⟩, ⟨k5, -⟩⟩ := HX1.out.below hb3'))
    go_wp2
    go_ret
    exact ⟨by rw [HA.out]; rfl, below_next hB1 hb3'⟩

end Go.Proofs.YtjpbmpjddbekgaaGreat
