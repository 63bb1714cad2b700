/- What spec.Alone answers. -/
import Derived.Test.YtjpbmpjddbekgaaGreatG50
namespace Go.Proofs.YtjpbmpjddbekgaaGreat
open Go.RowKit Go.Maps
set_option linter.unusedVariables false

set_option maxRecDepth 20000 in
set_option maxHeartbeats 1000000 in
theorem specAlone_any (v0 v1 v2 v3 : Value) (lo hi : Nat) (W : WorldD) (x : Int) (w : World) (h : WorldAt w lo hi v0 v1 v2 v3 W) (hh : hi ≤ w.heap.size) : Calls Tryz.prog 33 #[worldV v0 v1 v2 v3 W, .int .i64 x] w fun e w' => e = .returned (.int .i64 (aloneAns W x)) ∧ Below w.heap.size w w' := by
  have Hp := hideW h
  obtain ⟨m1, al, cl, rfl, ml, -⟩ := id h.snaps
  obtain ⟨-, a2, c2, rfl, -, -⟩ := id h.sets
  obtain ⟨⟨-, a0, c0, rfl, -, -⟩, ⟨-, a1, c1, rfl, -, -⟩⟩ := id h.pool
  clear h
  unfold maxLen at m1
  have hbw := below_alloc w (.cells #[.slice a0 W.pool.n c0, .slice a1 W.pool.hn c1, .int .i64 W.time, .int .i64 W.next, .slice a2 W.sn c2, .slice al W.pn cl] 38)
  have HX := hideW (Box6.new w (.slice a0 W.pool.n c0) (.slice a1 W.pool.hn c1) (.int .i64 W.time) (.int .i64 W.next) (.slice a2 W.sn c2) (.slice al W.pn cl) 38)
  obtain ⟨⟨x0, -⟩, ⟨x1, -⟩, ⟨x2, -⟩, ⟨x3, -⟩, ⟨x4, -⟩, ⟨x5, -⟩⟩ := HX.out
  go_enter Tryz.func33, Tryz.ntmps33
  go_wp2_with fail
  generalize w.alloc (.cells #[.slice a0 W.pool.n c0, .slice a1 W.pool.hn c1, .int .i64 W.time, .int .i64 W.next, .slice a2 W.sn c2, .slice al W.pn cl] 38) = W0 at HX hbw x0 x1 x2 x3 x4 x5 ⊢
  refine (l04Snap_any _ _ _ _ lo hi W x W0 (Hp.out.below hbw)).mono ?_
  rintro e w1 ⟨r, rfl, hr, hb1⟩
  have hB1 := below_next hbw hb1
  have HX1 := hideW (HX.out.below hb1)
  clear x0 x1 x2 x3 x4 x5 hb1 hbw HX
  rcases hr with ⟨k, hk, hke, hkl, rfl⟩ | ⟨hno, rfl⟩
  rotate_left
  · have HA := hideW (show aloneAns W x = 0 from aloneAns_none hno)
    clear hno
    go_wp2
    go_ret
    exact ⟨by rw [HA.out]; rfl, hB1⟩
  · have Hno := hideW (show SnapNo W x k from ⟨hk, hke, hkl⟩)
    have hk' : (k : Int) < (W.pn : Int) := by omega
    clear hke hkl
    obtain ⟨⟨x0, -⟩, ⟨x1, -⟩, ⟨x2, -⟩, ⟨x3, -⟩, ⟨x4, -⟩, ⟨x5, -⟩⟩ := HX1.out
    go_wp2_with fail
    refine (specWorldRight_any _ _ _ _ lo hi W w1 (Hp.out.below hB1)).mono ?_
    rintro e w2 ⟨⟨t, rfl, ht⟩, hb2⟩
    have Ht := hideW ht
    have hB2 := below_next hB1 hb2
    have HX2 := hideW (HX1.out.below hb2)
    clear ht x0 x1 x2 x3 x4 x5 hb2 hB1 HX1
    cases t
    · have HA := hideW (show aloneAns W x = 0 from aloneAns_no (fun h => absurd (Ht.out.2 h) (by simp)))
      go_wp2
      go_ret
      exact ⟨by rw [HA.out]; rfl, hB2⟩
    · have HS := hideW (Ht.out.1 rfl)
      have HA := hideW (show aheadOf W x = W.snaps k from aheadOf_at Hno.out)
      have hT2 := hideW (show TreeOk W.pool (W.snaps k).rs (W.snaps k).rb from HS.out.snaps k hk)
      have hpn := HS.out.names.2.2.2.1
      have hsn := HS.out.names.2.2.1
      -- the other world's variable
      obtain ⟨b, off, vd, rfl, hs⟩ := (Hp.out.snaps.below hB2).cells hk
      clear hs
      have ha3 := below_alloc w2 (.cells #[.slice a0 W.pool.n c0, .slice a1 W.pool.hn c1, .int .i64 W.time, .int .i64 W.next, .slice a2 W.sn c2, .slice (some ⟨b, off, none⟩) W.pn cl] 38)
      have HV3 := hideW (Box6.new w2 (.slice a0 W.pool.n c0) (.slice a1 W.pool.hn c1) (.int .i64 W.time) (.int .i64 W.next) (.slice a2 W.sn c2) (.slice (some ⟨b, off, none⟩) W.pn cl) 38)
      have HX3 := hideW (HX2.out.below ha3)
      have hB3 := below_next hB2 ha3
      have hz3 : (w2.alloc (.cells #[.slice a0 W.pool.n c0, .slice a1 W.pool.hn c1, .int .i64 W.time, .int .i64 W.next, .slice a2 W.sn c2, .slice (some ⟨b, off, none⟩) W.pn cl] 38)).heap.size = w2.heap.size + 1 := World.size_alloc _ _
      obtain ⟨⟨x0, -⟩, ⟨x1, -⟩, ⟨x2, -⟩, ⟨x3, -⟩, ⟨x4, -⟩, ⟨x5, -⟩⟩ := HX2.out
      go_wp2_with fail
      clear x0 x1 x2 x3 x4 x5
      generalize w2.alloc (.cells #[.slice a0 W.pool.n c0, .slice a1 W.pool.hn c1, .int .i64 W.time, .int .i64 W.next, .slice a2 W.sn c2, .slice (some ⟨b, off, none⟩) W.pn cl] 38) = W3 at HV3 HX3 hB3 hz3 ⊢
      clear ha3
      have hV : w.heap.size < w2.heap.size := lt_of_cell HX2.out.1.1
      generalize w2.heap.size = V at HV3 hz3 hV ⊢
      obtain ⟨G, hG⟩ := cells8 Hp.out.snaps
      have HG0 := hideW hG
      have HG := hideW (show ∀ j, j < W.pn * 8 → W3.drew.cell? ⟨b, off + j, none⟩ = some (G j) ∧ (G j).oneCell' = true from fun j hj => ⟨(hB3.cell (p := ⟨b, off + j, none⟩) (lt_of_cell (hG j hj).1)).trans (hG j hj).1, (hG j hj).2⟩)
      clear hG
      obtain ⟨⟨x0, -⟩, ⟨x1, -⟩, ⟨x2, -⟩, ⟨x3, -⟩, ⟨x4, -⟩, ⟨x5, -⟩⟩ := HX3.out
      obtain ⟨⟨y0, y0'⟩, ⟨y1, y1'⟩, ⟨y2, y2'⟩, ⟨y3, y3'⟩, ⟨y4, y4'⟩, ⟨y5, y5'⟩⟩ := HV3.out
      go_wp2_with fail
      have hkc : k ≤ cl := by omega
      have hkp : k + 1 ≤ W.pn := by omega
      have hkc1 : k + 1 ≤ cl := by omega
      have h01 : (0 : Int) ≤ (k : Int) + 1 := by omega
      have h02 : (k : Int) + 1 ≤ (W.pn : Int) := by omega
      have hwr : IntKind.i64.wrap ((k : Int) + 1) = ((k + 1 : Nat) : Int) := by rw [wrap_small (by omega) (by omega)]; rfl
      obtain ⟨A2, hA2, HA2⟩ : ∃ A2, (if cl = k + 1 then some (⟨b, off, none⟩ : Addr) else some ⟨b, off + (k + 1) * 8, none⟩) = A2 ∧ Hid (0 < W.pn - (k + 1) → A2 = some ⟨b, off + (k + 1) * 8, none⟩) := ⟨_, rfl, fun h => if_neg (by omega)⟩
      obtain ⟨r1, w4, r2, w5, hr1, hr2, hb4, hdr⟩ := run_drop8 W3.drew b off W.pn k cl (cl - (k + 1)) (some ⟨b, off, none⟩) A2 G HG.out hk (by omega) (fun _ => rfl) HA2.out 36 36
      rw [show W3.drew.heap.size = V + 1 from hz3] at hr1
      have HR1 := hideW (show (Builtin.append_ #[36, 36] 36 #[.slice (some ⟨V + 1, 0, none⟩) 0 0, .slice (some ⟨b, off, none⟩) k cl]).run Tryz.prog (W3.alloc (.cells #[] 46)).drew = .ok r1 w4 from hr1)
      obtain ⟨a3, cap3, rfl, -, -⟩ := id hdr.form
      have HR2 := hideW hr2
      have HDR := hideW hdr
      clear hr1 hr2 hdr
      have hb4' := below_undrew hb4
      have hb5' := below_undrew HDR.out.below
      obtain ⟨⟨z0, -⟩, ⟨z1, -⟩, ⟨z2, -⟩, ⟨z3, -⟩, ⟨z4, -⟩, ⟨z5, -⟩⟩ := HX3.out.below hb4'
      obtain ⟨⟨m0, -⟩, ⟨m1', -⟩, ⟨m2, -⟩, ⟨m3, -⟩, ⟨m4, -⟩, ⟨m5, -⟩⟩ := HX3.out.below hb5'
      obtain ⟨⟨p0, p0'⟩, ⟨p1, p1'⟩, ⟨p2, p2'⟩, ⟨p3, p3'⟩, ⟨p4, p4'⟩, ⟨p5, p5'⟩⟩ := HV3.out.below hb5'
      refine' join_ways (fun hfin => _) _
      rotate_left
      · go_region_law (first
          | (refine step_append_run rfl (.tmp 22) (.tmp 26) 36 rfl (.slice (some ⟨V + 1, 0, none⟩) 0 0) (.slice (some ⟨b, off, none⟩) k cl) r1 (by simp [Act.eval, Act.put]) (by simp [Act.eval, Act.put]) HR1.out ?_)
          | (refine step_append_run rfl (.tmp 27) (.tmp 32) 36 rfl r1 (.slice A2 (W.pn - (k + 1)) (cl - (k + 1))) (.slice a3 (W.pn - 1) cap3) (by simp [Act.eval, Act.put]) (by simp [Act.eval, Act.put]) HR2.out ?_))
        all_goals exact hfin
      have hD6 := HDR.out.set (V := V) (u := .slice a3 (W.pn - 1) cap3) hB3 (by omega) (by omega)
      have hv5 := HV3.out.below hb5'
      have HV6 := hideW (show Box6 (w5.setCell ⟨V, 5, none⟩ (.slice a3 (W.pn - 1) cap3)) V (.slice a0 W.pool.n c0) (.slice a1 W.pool.hn c1) (.int .i64 W.time) (.int .i64 W.next) (.slice a2 W.sn c2) (.slice a3 (W.pn - 1) cap3) from ⟨hv5.1.other _ (Or.inr (by decide)), hv5.2.1.other _ (Or.inr (by decide)), hv5.2.2.1.other _ (Or.inr (by decide)), hv5.2.2.2.1.other _ (Or.inr (by decide)), hv5.2.2.2.2.1.other _ (Or.inr (by decide)), hv5.2.2.2.2.2.set _⟩)
      have HX6 := hideW ((HX3.out.below hb5').turned (Turned.put w5 V 5 (.slice a3 (W.pn - 1) cap3)) (by omega))
      have HS6 := hideW (hD6.at Hp.out.snaps hh (fun j hj => (HG0.out j hj).1) hk)
      have hB6 := hD6.below
      have hi6 : hi ≤ (w5.setCell ⟨V, 5, none⟩ (.slice a3 (W.pn - 1) cap3)).heap.size := by have := hB6.size; omega
      have HW6 := hideW (show WorldAt (w5.setCell ⟨V, 5, none⟩ (.slice a3 (W.pn - 1) cap3)) 0 (w5.setCell ⟨V, 5, none⟩ (.slice a3 (W.pn - 1) cap3)).heap.size (.slice a0 W.pool.n c0) (.slice a1 W.pool.hn c1) (.slice a2 W.sn c2) (.slice a3 (W.pn - 1) cap3) (dropSnap W k) from ⟨((Hp.out.below hB6).wide (Nat.zero_le _) hi6).pool, ((Hp.out.below hB6).wide (Nat.zero_le _) hi6).sets, HS6.out⟩)
      clear hD6 hv5 HS6 HDR HR1 HR2 HV3 HX3 HG HG0 hb4 hb4' hb5' x0 x1 x2 x3 x4 x5 y0 y0' y1 y1' y2 y2' y3 y3' y4 y4' y5 y5' z0 z1 z2 z3 z4 z5 m0 m1' m2 m3 m4 m5 p0 p0' p1 p1' p2 p2' p3 p3' p4 p4' p5 p5' hi6
      generalize w5.setCell ⟨V, 5, none⟩ (.slice a3 (W.pn - 1) cap3) = w6 at HV6 HX6 HW6 hB6 ⊢
      obtain ⟨⟨x0, -⟩, ⟨x1, -⟩, ⟨x2, -⟩, ⟨x3, -⟩, ⟨x4, -⟩, ⟨x5, -⟩⟩ := HV6.out
      go_wp2_with fail
      have hTr := trees_of HS.out.right HS.out.names HS.out.snaps (fun i hi => (HS.out.sets i hi).1)
      have HTr := hideW hTr
      have hRe : Calls Tryz.prog 57 #[worldV (.slice a0 W.pool.n c0) (.slice a1 W.pool.hn c1) (.slice a2 W.sn c2) (.slice a3 (W.pn - 1) cap3) (dropSnap W k)] w6 (fun e w' => ∃ R f, e = .returned (.slice (some ⟨R, 0, none⟩) W.pool.n W.pool.n) ∧ w6.heap.size ≤ R ∧ BoolsC w' R W.pool.n f ∧ (∀ s, f s = true ↔ InSome (dropSnap W k) s) ∧ Below w6.heap.size w6 w') := l04Reach_any _ _ _ _ _ _ (dropSnap W k) w6 HW6.out (dropSnap_trees hTr hk) hsn (by show W.pn - 1 ≤ 20; omega)
      clear hTr
      refine hRe.mono ?_
      rintro e w7 ⟨R, f, rfl, hR, hF, hf, hb7⟩
      have HF := hideW hF
      have Hf := hideW hf
      have HX7 := hideW (HX6.out.below hb7)
      have hB7 := below_next hB6 hb7
      obtain ⟨b', off', vd', e', hs7⟩ := (Hp.out.snaps.below hB7).cells hk
      cases e'
      have q5 := hs7.c5
      have q6 := hs7.c6
      clear x0 x1 x2 x3 x4 x5 hF hf hb7 HV6 HX6 HW6 hB6 hs7
      obtain ⟨⟨x0, -⟩, ⟨x1, -⟩, ⟨x2, -⟩, ⟨x3, -⟩, ⟨x4, -⟩, ⟨x5, -⟩⟩ := HX7.out
      go_wp2_with fail
      go_region_held3 (fun w' => w'.cell? ⟨w.heap.size, 0, none⟩ = some (.slice a0 W.pool.n c0) ∧ w'.cell? ⟨w.heap.size, 1, none⟩ = some (.slice a1 W.pool.hn c1) ∧ w'.cell? ⟨w.heap.size, 5, none⟩ = some (.slice (some ⟨b, off, none⟩) W.pn cl) ∧ w'.cell? ⟨b, off + k * 8 + 5, none⟩ = some (.int .i64 (W.snaps k).rs) ∧ w'.cell? ⟨b, off + k * 8 + 5 + 1, none⟩ = some (.int .i64 (W.snaps k).rb)) (go_keep)
        (first
          | (go_at_call 93; refine (l02Ptrs_any _ _ lo hi W.pool _ _ _ (((Hp.out.below hB7).pool).below (Below.refl _ _).drew) HS.out.right hT2.out).mono ?_; rintro e w8 ⟨vn, rfl, hrn, hb8⟩; have hb8' := below_undrew hb8; obtain ⟨an, cn, rfl, -⟩ := owns_form hrn; obtain ⟨⟨z0, -⟩, ⟨z1, -⟩, ⟨z2, -⟩, ⟨z3, -⟩, ⟨z4, -⟩, ⟨z5, -⟩⟩ := HX7.out.below hb8'; have p5 := (hb8'.cell (p := ⟨b, off + k * 8 + 5, none⟩) (lt_of_cell q5)).trans q5; have p6 := (hb8'.cell (p := ⟨b, off + k * 8 + 6, none⟩) (lt_of_cell q6)).trans q6))
      have hn := hrn.atW (by have := treeL_len W.pool (W.snaps k).rs (W.snaps k).rb; omega)
      have HF8 := hideW (HF.out.below hb8')
      have hB8 := below_next hB7 hb8'
      have HE := hideW (show aloneAns W x = cntNot (OthHas W x) (treeL W.pool (W.snaps k).rs (W.snaps k).rb) by rw [aloneAns_yes HS.out, HA.out])
      have hlen := treeL_len W.pool (W.snaps k).rs (W.snaps k).rb
      have HQ := hideW (fun (j : Nat) (hj : j < (treeL W.pool (W.snaps k).rs (W.snaps k).rb).length) => slot_nat HS.out.right hT2.out hj)
      have HD := hideW (fun (s : Nat) (c : Int) (hy : ((s : Int), c) ∈ treeL W.pool (W.snaps k).rs (W.snaps k).rb) => (Hf.out s).trans (drop_reach HTr.out ((world_iff W).2 HS.out).names.dist hk Hno.out.2.1 hy))
      clear hrn hb8 hb8' z0 z1 z2 z3 z4 z5 p5 p6 q5 q6 x0 x1 x2 x3 x4 x5 HX7 hB7 HF hT2 hRe HTr Hf
      generalize treeL W.pool (W.snaps k).rs (W.snaps k).rb = now at *
      have Hn := hideW hn
      clear hn
      have hpl : W.pool.n ≤ 200 := HS.out.right.1
      go_wp2
      go_loopw [8, 10] (fun c i wr => ∃ j : Nat, j ≤ now.length ∧ c = .int .i64 (cntNot (OthHas W x) (now.take j)) ∧ i = .int .i64 j ∧ Below w8.heap.size w8 wr) (fun _ i _ => now.length - (intOf i).toNat)
      case atStart => exact ⟨0, Nat.zero_le _, rfl, rfl, Below.refl _ _⟩
      case round =>
        obtain ⟨j, hj, rfl, rfl, hb⟩ := hrel
        by_cases hlt : j < now.length
        · have hlt' : (j : Int) < (now.length : Int) := by omega
          have hcl := cntNot_le (OthHas W x) (now.take j)
          rw [List.length_take] at hcl
          obtain ⟨b1, off1, rfl, q0, q1⟩ := (Hn.out.below hb).cellsD hlt
          have Hy := hideW (fun (h : ¬ OthHas W x (fstL now j, sndL now j)) => (congrArg (cntNot (OthHas W x)) (take_next hlt)).trans (cntNot_yes h))
          have Hz := hideW (fun (h : OthHas W x (fstL now j, sndL now j)) => (congrArg (cntNot (OthHas W x)) (take_next hlt)).trans (cntNot_no h))
          have hc0 : cntNot (OthHas W x) (now.take j) ≤ 1000 := by omega
          obtain ⟨s, hs1, hs2⟩ := HQ.out j hlt
          have hm : ((s : Int), sndL now j) ∈ now := by rw [← hs1]; exact pin_list.1 ⟨j, hlt, rfl, rfl⟩
          have hd := HD.out s _ hm
          rw [hs1] at q0 Hy Hz
          have hs2' : (s : Int) < (W.pool.n : Int) := by omega
          obtain ⟨r0, -⟩ := (HF8.out.below hb) s hs2
          have Hdd := hideW hd
          generalize cntNot (OthHas W x) (now.take j) = c at *
          clear hd hm hs1
          cases hfs : f s
          · rw [hfs] at r0
            have Hc := hideW (Hy.out (fun h => absurd (Hdd.out.2 h) (by simp [hfs])))
            go_wp2
            go_roundw
            case rel => exact ⟨j + 1, by omega, by rw [Hc.out]; go_num, by go_num, hb⟩
            case measure => simp [intOf]; omega
          · rw [hfs] at r0
            have Hc := hideW (Hz.out (Hdd.out.1 hfs))
            go_wp2
            go_roundw
            case rel => exact ⟨j + 1, by omega, by rw [Hc.out], by go_num, hb⟩
            case measure => simp [intOf]; omega
        · obtain rfl : j = now.length := by omega
          go_wp2
          go_ret
          exact ⟨by rw [HE.out, List.take_length]; rfl, below_next hB8 hb⟩

end Go.Proofs.YtjpbmpjddbekgaaGreat
