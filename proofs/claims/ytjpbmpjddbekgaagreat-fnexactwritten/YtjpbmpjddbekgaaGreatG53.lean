/- What spec.Written answers. -/
import Derived.Test.YtjpbmpjddbekgaaGreatG38
namespace Go.Proofs.YtjpbmpjddbekgaaGreat
open Go.RowKit Go.Maps
set_option linter.unusedVariables false

set_option maxRecDepth 20000 in
set_option maxHeartbeats 1000000 in
theorem specWritten_any (v0 v1 v2 v3 : Value) (lo hi : Nat) (W : WorldD) (x : Int) (w : World) (h : WorldAt w lo hi v0 v1 v2 v3 W) : Calls Tryz.prog 35 #[worldV v0 v1 v2 v3 W, .int .i64 x] w fun e w' => e = .returned (.int .i64 (writtenAns W x)) ∧ Below w.heap.size w w' := by
  have Hp := hideW h
  obtain ⟨m1, al, cl, rfl, ml, -⟩ := id h.snaps
  clear h
  unfold maxLen at m1
  have hbw := below_alloc w (.cells #[v0, v1, .int .i64 W.time, .int .i64 W.next, v2, .slice al W.pn cl] 38)
  have HX := hideW (Box6.new w v0 v1 (.int .i64 W.time) (.int .i64 W.next) v2 (.slice al W.pn cl) 38)
  obtain ⟨⟨x0, -⟩, ⟨x1, -⟩, ⟨x2, -⟩, ⟨x3, -⟩, ⟨x4, -⟩, ⟨x5, -⟩⟩ := HX.out
  go_enter Tryz.func35, Tryz.ntmps35
  go_wp2_with fail
  generalize w.alloc (.cells #[v0, v1, .int .i64 W.time, .int .i64 W.next, v2, .slice al W.pn cl] 38) = W0 at HX hbw x0 x1 x2 x3 x4 x5 ⊢
  refine (l04Snap_any _ _ _ _ lo hi W x W0 (Hp.out.below hbw)).mono ?_
  rintro e w1 ⟨r, rfl, hr, hb1⟩
  have hB1 := below_next hbw hb1
  have HX1 := hideW (HX.out.below hb1)
  clear x0 x1 x2 x3 x4 x5 hb1 hbw HX
  rcases hr with ⟨k, hk, hke, hkl, rfl⟩ | ⟨hno, rfl⟩
  rotate_left
  · have HA := hideW (show writtenAns W x = 0 from writtenAns_none hno)
    clear hno
    go_wp2
    go_ret
    exact ⟨by rw [HA.out]; rfl, hB1⟩
  · have Hno := hideW (show SnapNo W x k from ⟨hk, hke, hkl⟩)
    have hk' : (k : Int) < (W.pn : Int) := by omega
    clear hke hkl
    obtain ⟨⟨x0, -⟩, ⟨x1, -⟩, ⟨x2, -⟩, ⟨x3, -⟩, ⟨x4, -⟩, ⟨x5, -⟩⟩ := HX1.out
    go_wp2_with fail
    refine (specWorldRight_any _ _ _ _ lo hi W w1 (Hp.out.below hB1)).mono ?_
    rintro e w2 ⟨⟨t, rfl, ht⟩, hb2⟩
    have Ht := hideW ht
    have hB2 := below_next hB1 hb2
    have HX2 := hideW (HX1.out.below hb2)
    clear ht x0 x1 x2 x3 x4 x5 hb2 hB1 HX1
    cases t
    · have HA := hideW (show writtenAns W x = 0 from writtenAns_no (fun h => absurd (Ht.out.2 h) (by simp)))
      go_wp2
      go_ret
      exact ⟨by rw [HA.out]; rfl, hB2⟩
    · have HS := hideW (Ht.out.1 rfl)
      have HT := hideW (show ∀ y, TreeOk W.pool (aheadOf W y).rs (aheadOf W y).rb from old_ok HS.out.snaps)
      have HA := hideW (show aheadOf W x = W.snaps k from aheadOf_at Hno.out)
      obtain ⟨b, off, vd, rfl, hs⟩ := (Hp.out.snaps.below hB2).cells hk
      have q3 := hs.c3
      have q5 := hs.c5
      have q6 := hs.c6
      have Hs := hideW hs
      clear hs
      have hT2 := hideW (show TreeOk W.pool (W.snaps k).rs (W.snaps k).rb from HS.out.snaps k hk)
      obtain ⟨⟨x0, -⟩, ⟨x1, -⟩, ⟨x2, -⟩, ⟨x3, -⟩, ⟨x4, -⟩, ⟨x5, -⟩⟩ := HX2.out
      have e1 := Nat.ne_of_lt (lt_of_cell x0)
      have e2 := Nat.ne_of_lt (lt_of_cell q3)
      have e1' := e1.symm
      have e2' := e2.symm
      have ha2 := below_alloc w2 (.cells #[.int .i64 0, .int .i64 0] 43)
      have HY2 := hideW (Box2.new w2 (.int .i64 0) (.int .i64 0) 43)
      go_wp2_with fail
      go_region_held3 (fun w' => w'.cell? ⟨w.heap.size, 0, none⟩ = some v0 ∧ w'.cell? ⟨w.heap.size, 1, none⟩ = some v1 ∧ w'.cell? ⟨w.heap.size, 2, none⟩ = some (.int .i64 W.time) ∧ w'.cell? ⟨w.heap.size, 3, none⟩ = some (.int .i64 W.next) ∧ w'.cell? ⟨w.heap.size, 4, none⟩ = some v2 ∧ w'.cell? ⟨w.heap.size, 5, none⟩ = some (.slice (some ⟨b, off, none⟩) W.pn cl) ∧ w'.cell? ⟨b, off + k * 8 + 3, none⟩ = some (.int .i64 (W.snaps k).prev)) (go_keep)
        (first
          | (go_at_call 96; refine (l04Ahead_any _ _ _ _ lo hi W _ _ ((Hp.out.below hB2).below (Below.refl _ _).drew)).mono ?_; rintro e w3 ⟨s, sb, t', rfl, hF, hb3⟩; have hb3' := below_undrew hb3; have brA := hideW (trivial : True); have HX3 := hideW (HX2.out.below hb3'); have Hs3 := hideW (Hs.out.below hb3'); obtain ⟨⟨z0, -⟩, ⟨z1, -⟩, ⟨z2, -⟩, ⟨z3, -⟩, ⟨z4, -⟩, ⟨z5, -⟩⟩ := HX2.out.below hb3'; have p3 := (Hs.out.below hb3').c3; have n1 := Nat.ne_of_lt (lt_of_cell z0); have n2 := Nat.ne_of_lt (lt_of_cell p3); have n1' := n1.symm; have n2' := n2.symm)
          | (go_at_call 96; refine (l04Ahead_any _ _ _ _ lo hi W _ _ ((Hp.out.below hB2).below ha2.drew)).mono ?_; rintro e w3 ⟨s, sb, t', rfl, hF, hb3⟩; have brB := below_undrew hb3; have hb3' := below_next ha2 brB; obtain ⟨⟨y0, y0'⟩, ⟨y1, y1'⟩⟩ := HY2.out.below brB; have HX3 := hideW (HX2.out.below hb3'); have Hs3 := hideW (Hs.out.below hb3'); obtain ⟨⟨z0, -⟩, ⟨z1, -⟩, ⟨z2, -⟩, ⟨z3, -⟩, ⟨z4, -⟩, ⟨z5, -⟩⟩ := HX2.out.below hb3'; have p3 := (Hs.out.below hb3').c3))
      all_goals
        have hq := ahead_of HS.out.names.prevOk.pos hF
        have HO := hideW (show OldHas W x = fun y => y ∈ treeL W.pool s sb by unfold OldHas; rw [HA.out, hq.1, hq.2.1])
        have hTo := hideW (show TreeOk W.pool s sb by rw [hq.1, hq.2.1]; exact HT.out _)
        have hB3 := below_next hB2 hb3'
        clear hq hF x0 x1 x2 x3 x4 x5 z0 z1 z2 z3 z4 z5 q3 q5 q6 p3
        first
          | (have bA := brA
             have ha4 := below_alloc w3 (.cells #[.int .i64 s, .int .i64 sb] 43)
             have HY4 := hideW (Box2.new w3 (.int .i64 s) (.int .i64 sb) 43)
             have HX4 := hideW (HX3.out.below ha4)
             have r5 := (Hs3.out.below ha4).c5
             have r6 := (Hs3.out.below ha4).c6
             have hB4 := below_next hB3 ha4
             clear ha4 bA brA
             generalize w3.alloc (.cells #[.int .i64 s, .int .i64 sb] 43) = W4 at HY4 HX4 r5 r6 hB4 ⊢
             generalize w3.heap.size = V at HY4 ⊢)
          | (have T := (Turned.put w3 w2.heap.size 0 (.int .i64 s)).trans (Turned.put (w3.setCell ⟨w2.heap.size, 0, none⟩ (.int .i64 s)) w2.heap.size 1 (.int .i64 sb))
             have HY4 := hideW ((HY2.out.below brB).put (.int .i64 s) (.int .i64 sb))
             have HX4 := hideW (HX3.out.turned T (by omega))
             have r5 := (World.cell?_of_block (a := ⟨b, off + k * 8 + 5, none⟩) (T.block b (lt_of_cell Hs3.out.c5) (by omega))).trans Hs3.out.c5
             have r6 := (World.cell?_of_block (a := ⟨b, off + k * 8 + 6, none⟩) (T.block b (lt_of_cell Hs3.out.c6) (by omega))).trans Hs3.out.c6
             have hB4 := hB3.trans (T.below (B := w.heap.size) hB3.size (fun q e => by have := hB2.size; omega))
             clear T brB
             generalize (w3.setCell ⟨w2.heap.size, 0, none⟩ (.int .i64 s)).setCell ⟨w2.heap.size, 1, none⟩ (.int .i64 sb) = W4 at HY4 HX4 r5 r6 hB4 ⊢
             generalize w2.heap.size = V at HY4 ⊢)
        have R5 := hideW r5
        have R6 := hideW r6
        clear r5 r6
        obtain ⟨⟨y0, -⟩, ⟨y1, -⟩⟩ := HY4.out
        obtain ⟨⟨x0, -⟩, ⟨x1, -⟩, ⟨x2, -⟩, ⟨x3, -⟩, ⟨x4, -⟩, ⟨x5, -⟩⟩ := HX4.out
        go_wp2_with fail
        refine (l02Ptrs_any v0 v1 lo hi W.pool s sb W4 ((Hp.out.below hB4).pool) HS.out.right hTo.out).mono ?_
        rintro e w5 ⟨vo, rfl, hro, hb5⟩
        have Hro := hideW hro
        have hB5 := below_next hB4 hb5
        have HX5 := hideW (HX4.out.below hb5)
        have q5 := (hb5.cell (p := ⟨b, off + k * 8 + 5, none⟩) (lt_of_cell R5.out)).trans R5.out
        have q6 := (hb5.cell (p := ⟨b, off + k * 8 + 6, none⟩) (lt_of_cell R6.out)).trans R6.out
        obtain ⟨ao, co, rfl, -⟩ := owns_form hro
        clear y0 y1 x0 x1 x2 x3 x4 x5 hro hb5 HX4 R5 R6 HY4 hB4 HX3 Hs3 hB3 HY2 ha2 hb3 hb3'
        obtain ⟨⟨x0, -⟩, ⟨x1, -⟩, ⟨x2, -⟩, ⟨x3, -⟩, ⟨x4, -⟩, ⟨x5, -⟩⟩ := HX5.out
        go_wp2_with fail
        go_region_held3 (fun w' => w'.cell? ⟨w.heap.size, 0, none⟩ = some v0 ∧ w'.cell? ⟨w.heap.size, 1, none⟩ = some v1 ∧ w'.cell? ⟨w.heap.size, 5, none⟩ = some (.slice (some ⟨b, off, none⟩) W.pn cl) ∧ w'.cell? ⟨b, off + k * 8 + 5, none⟩ = some (.int .i64 (W.snaps k).rs) ∧ w'.cell? ⟨b, off + k * 8 + 5 + 1, none⟩ = some (.int .i64 (W.snaps k).rb)) (go_keep)
          (first
            | (go_at_call 93; refine (l02Ptrs_any _ _ lo hi W.pool _ _ _ (((Hp.out.below hB5).pool).below (Below.refl _ _).drew) HS.out.right hT2.out).mono ?_; rintro e w6 ⟨vn, rfl, hrn, hb6⟩; have hb6' := below_undrew hb6; obtain ⟨an, cn, rfl, -⟩ := owns_form hrn; obtain ⟨⟨z0, -⟩, ⟨z1, -⟩, ⟨z2, -⟩, ⟨z3, -⟩, ⟨z4, -⟩, ⟨z5, -⟩⟩ := HX5.out.below hb6'; have p5 := (hb6'.cell (p := ⟨b, off + k * 8 + 5, none⟩) (lt_of_cell q5)).trans q5; have p6 := (hb6'.cell (p := ⟨b, off + k * 8 + 6, none⟩) (lt_of_cell q6)).trans q6))
        have hn := hrn.atW (by have := treeL_len W.pool (W.snaps k).rs (W.snaps k).rb; omega)
        have ho := (Hro.out.atW (by have := treeL_len W.pool s sb; omega)).below hb6'
        have hB6 := below_next hB5 hb6'
        have HF := hideW (show writtenAns W x = cntNot (fun y => y ∈ treeL W.pool s sb) (treeL W.pool (W.snaps k).rs (W.snaps k).rb) by rw [writtenAns_yes HS.out, HO.out, HA.out])
        have hlen := treeL_len W.pool (W.snaps k).rs (W.snaps k).rb
        clear hrn hb6 hb6' z0 z1 z2 z3 z4 z5 p5 p6 q5 q6 x0 x1 x2 x3 x4 x5 HX5 Hro hB5 HO hTo hT2 HT
        generalize treeL W.pool (W.snaps k).rs (W.snaps k).rb = now at *
        generalize treeL W.pool s sb = old at *
        have Hn := hideW hn
        have Ho := hideW ho
        clear hn ho
        go_wp2
        go_loopw [10, 11] (fun c i wr => ∃ j : Nat, j ≤ now.length ∧ c = .int .i64 (cntNot (fun y => y ∈ old) (now.take j)) ∧ i = .int .i64 j ∧ Below w6.heap.size w6 wr) (fun _ i _ => now.length - (intOf i).toNat)
        case atStart => exact ⟨0, Nat.zero_le _, rfl, rfl, Below.refl _ _⟩
        case round =>
          obtain ⟨j, hj, rfl, rfl, hb⟩ := hrel
          by_cases hlt : j < now.length
          · have hlt' : (j : Int) < (now.length : Int) := by omega
            have hcl := cntNot_le (fun y => y ∈ old) (now.take j)
            rw [List.length_take] at hcl
            obtain ⟨b1, off1, rfl, q0, q1⟩ := (Hn.out.below hb).cellsD hlt
            have Hy := hideW (fun (h : ¬ (fstL now j, sndL now j) ∈ old) => (congrArg (cntNot (fun y => y ∈ old)) (take_next hlt)).trans (cntNot_yes h))
            have Hz := hideW (fun (h : (fstL now j, sndL now j) ∈ old) => (congrArg (cntNot (fun y => y ∈ old)) (take_next hlt)).trans (cntNot_no h))
            have hc0 : cntNot (fun y => y ∈ old) (now.take j) ≤ 1000 := by omega
            generalize cntNot (fun y => y ∈ old) (now.take j) = c at *
            go_wp2_with fail
            refine (l03In_any _ old.length _ _ (fstL old) (sndL old) (fstL now j) (sndL now j) wr (Ho.out.below hb)).mono ?_
            rintro e w7 ⟨⟨t7, rfl, ht7⟩, hb7⟩
            have hb8 := below_next hb hb7
            have Hin := hideW (ht7.trans pin_list)
            clear ht7 hb7 q0 q1
            cases t7
            · have Hc := hideW (Hy.out (fun h => absurd (Hin.out.2 h) (by simp)))
              go_wp2
              go_roundw
              case rel => exact ⟨j + 1, by omega, by rw [Hc.out]; go_num, by go_num, hb8⟩
              case measure => simp [intOf]; omega
            · have Hc := hideW (Hz.out (Hin.out.1 rfl))
              go_wp2
              go_roundw
              case rel => exact ⟨j + 1, by omega, by rw [Hc.out], by go_num, hb8⟩
              case measure => simp [intOf]; omega
          · obtain rfl : j = now.length := by omega
            go_wp2
            go_ret
            exact ⟨by rw [HF.out, List.take_length]; rfl, below_next hB6 hb⟩

end Go.Proofs.YtjpbmpjddbekgaaGreat
