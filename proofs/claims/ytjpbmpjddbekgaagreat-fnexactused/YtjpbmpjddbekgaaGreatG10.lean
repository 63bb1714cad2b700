/- What spec.l02Ptrs leaves of a right tree: a new row of all its pointers. -/
import Derived.Test.YtjpbmpjddbekgaaGreatG9
import Derived.Test.YtjpbmpjddbekgaaGreatG2
namespace Go.Proofs.YtjpbmpjddbekgaaGreat
open Go.RowKit
set_option linter.unusedVariables false

/-- The pointers ahead of the j-th Kid of the root, and ahead of the i-th Kid of that. -/
def topL (p : PoolD) (rs rb : Int) (s : SlotD) (j : Nat) : List (Int × Int) := (rs, rb) :: subUp p s j
def midP (p : PoolD) (rs rb : Int) (s : SlotD) (j i : Nat) : List (Int × Int) := topL p rs rb s j ++ ((kidS s j, kidB s j) :: kidsUp (kidS (p.s (kidS s j).toNat)) (kidB (p.s (kidS s j).toNat)) i)
theorem tree_top {p : PoolD} {rs rb : Int} (hz : ¬ Nil rs rb) : treeL p rs rb = topL p rs rb (p.s rs.toNat) 8 := if_neg hz
theorem top_next {p : PoolD} {rs rb : Int} {s : SlotD} {j : Nat} (hn : ¬ Nil (kidS s j) (kidB s j)) : topL p rs rb s (j + 1) = midP p rs rb s j 8 := by
  unfold topL midP topL
  rw [subUp, midL_yes hn]
  rfl
theorem top_stay {p : PoolD} {rs rb : Int} {s : SlotD} {j : Nat} (hn : Nil (kidS s j) (kidB s j)) : topL p rs rb s (j + 1) = topL p rs rb s j := by
  unfold topL
  rw [subUp, show midL p (kidS s j) (kidB s j) = [] from if_pos hn, List.append_nil]
theorem midP_start (p : PoolD) (rs rb : Int) (s : SlotD) (j : Nat) : midP p rs rb s j 0 = topL p rs rb s j ++ [(kidS s j, kidB s j)] := rfl
theorem midP_stay {p : PoolD} {rs rb : Int} {s : SlotD} {j i : Nat} (hn : Nil (kidS (p.s (kidS s j).toNat) i) (kidB (p.s (kidS s j).toNat) i)) : midP p rs rb s j (i + 1) = midP p rs rb s j i := by
  unfold midP
  rw [kidsUp, show one (kidS (p.s (kidS s j).toNat) i) (kidB (p.s (kidS s j).toNat) i) = [] from if_pos hn, List.append_nil]
theorem midP_next {p : PoolD} {rs rb : Int} {s : SlotD} {j i : Nat} (hn : ¬ Nil (kidS (p.s (kidS s j).toNat) i) (kidB (p.s (kidS s j).toNat) i)) : midP p rs rb s j (i + 1) = midP p rs rb s j i ++ [(kidS (p.s (kidS s j).toNat) i, kidB (p.s (kidS s j).toNat) i)] := by
  unfold midP
  rw [kidsUp, show one (kidS (p.s (kidS s j).toNat) i) (kidB (p.s (kidS s j).toNat) i) = [(kidS (p.s (kidS s j).toNat) i, kidB (p.s (kidS s j).toNat) i)] from if_neg hn, List.append_assoc]
  rfl
theorem top_len (p : PoolD) (rs rb : Int) (s : SlotD) {j : Nat} (hj : j ≤ 8) : (topL p rs rb s j).length ≤ 73 := by
  have := subUp_len p s j
  simp only [topL, List.length_cons]
  omega
theorem midP_len (p : PoolD) (rs rb : Int) (s : SlotD) {j i : Nat} (hj : j ≤ 8) (hi : i ≤ 8) : (midP p rs rb s j i).length ≤ 90 := by
  have h1 := top_len p rs rb s hj
  have h2 := kidsUp_len (kidS (p.s (kidS s j).toNat)) (kidB (p.s (kidS s j).toNat)) i
  simp only [midP, List.length_append, List.length_cons]
  omega
theorem RowL.next {w2 : World} {base g cap : Nat} {l : List (Int × Int)} {x y : Int} (h : w2.ownsRow base 43 2 (.slice (some ⟨g, 0, none⟩) (l.length + 1) cap) (l.length + 1) (pcl l ++ [.int .i64 x, .int .i64 y])) : RowL w2 base (.slice (some ⟨g, 0, none⟩) (l.length + 1) cap) (l ++ [(x, y)]) := by
  unfold RowL
  rw [pcl_append, List.length_append]
  exact h

set_option maxRecDepth 20000 in
set_option maxHeartbeats 8000000 in
theorem l02Ptrs_any (v0 v1 : Value) (lo hi : Nat) (p : PoolD) (xs xb : Int) (w : World) (h1 : PoolAt w lo hi v0 v1 p) (hR : Right p) (hT : TreeOk p xs xb) :
    Calls Tryz.prog 93 #[.agg #[v0, v1], .agg #[.int .i64 xs, .int .i64 xb]] w fun e w' => ∃ v, e = .returned v ∧ RowL w' w.heap.size v (treeL p xs xb) ∧ Below w.heap.size w w' := by
  have Hp := hideT h1
  have HR := hideT hR
  have HT := hideT hT
  obtain ⟨a, c, a', c', rfl, rfl⟩ : ∃ a c a' c', v0 = .slice a p.n c ∧ v1 = .slice a' p.hn c' := by
    obtain ⟨⟨_, a, c, h1, _⟩, ⟨_, a', c', h3, _⟩⟩ := h1
    exact ⟨a, c, a', c', h1, h3⟩
  clear h1 hR hT
  have hst := start22 w (.slice a p.n c) (.slice a' p.hn c') (.int .i64 xs) (.int .i64 xb) 34 43
  obtain ⟨i0, hi0, hzz⟩ := Option.map_eq_some_iff.1 infoPtrL
  simp only [Prod.mk.injEq] at hzz
  have HI := hideT (And.intro hi0 hzz)
  clear hi0 hzz
  go_enter Tryz.func93, Tryz.ntmps93
  have hlit := World.ownsRow_lit (e := 43) (size := 2) (base := w.heap.size + 2) ((w.alloc (.cells #[.slice a p.n c, .slice a' p.hn c'] 34)).alloc (.cells #[.int .i64 xs, .int .i64 xb] 43)) #[] 0 (by rw [hst.2.2.2]; omega) (by unfold maxLen; omega) rfl
  rw [hst.2.2.2] at hlit
  have HXn := hst.2.1.below (below_alloc _ (.cells #[] 43))
  obtain ⟨⟨y0, y1⟩, ⟨y2, y3⟩⟩ := HXn
  go_wp2_with fail
  clear y0 y1 y2 y3
  generalize (w.alloc (.cells #[.slice a p.n c, .slice a' p.hn c'] 34)).alloc (.cells #[.int .i64 xs, .int .i64 xb] 43) = W at hst hlit ⊢
  obtain ⟨hB, hX, hba, hz⟩ := hst
  have hal := below_alloc W (.cells #[] 43)
  have HS0 := hideT (show RowL (W.alloc (.cells #[] 43)) (w.heap.size + 2) (.slice (some ⟨w.heap.size + 2, 0, none⟩) 0 0) [] from hlit)
  have hB0 := hB.below hal
  have hX0 := hX.below hal
  have hb0 := below_next hba hal
  have hz0 : (W.alloc (.cells #[] 43)).heap.size = w.heap.size + 3 := by rw [World.size_alloc, hz]
  clear hlit hB hX hba hal
  generalize W.alloc (.cells #[] 43) = W0 at HS0 hB0 hX0 hb0 hz0 ⊢
  refine (l01None_any xs xb W0).mono ?_
  rintro e w1 ⟨⟨t, rfl, ht⟩, hb1⟩
  have HB1 := hideT (hB0.below hb1)
  have HX1 := hideT (hX0.below hb1)
  have HS1 := hideT (HS0.out.below hb1)
  have hB1 := below_next hb0 hb1
  have hz1 : w.heap.size + 3 ≤ w1.heap.size := by have := hb1.size; omega
  clear hB0 hX0 hb0 hb1 HS0 hz0 hz
  by_cases hn : Nil xs xb
  · have HN := hideT hn
    obtain rfl : t = true := ht.2 hn
    clear ht hn
    go_wp2
    go_ret
    refine ⟨_, rfl, ?_, hB1⟩
    rw [show treeL p xs xb = [] from if_pos HN.out]
    exact HS1.out.mono (by omega)
  · have HN := hideT hn
    obtain rfl : t = false := bool_no ht hn
    clear ht hn
    have hNd : NodeAt p xs xb := (HT.out.resolve_left HN.out).1
    have Hmid := hideT (HT.out.resolve_left HN.out).2.1.1
    have h8 : (p.s xs.toNat).kn = 8 := by rcases points_kn HR.out hNd.1 with h | h; (have := hNd.2.1; omega); exact h
    obtain ⟨k, rfl⟩ := Int.eq_ofNat_of_zero_le hNd.1.2.1
    have hk : k < p.n := by have := hNd.1.2.2.1; omega
    have hk' : (k : Int) < (p.n : Int) := by omega
    rw [Int.toNat_natCast] at h8 Hmid
    have H8 := hideT h8
    clear hNd
    obtain ⟨b, off, ka, kc, rfl, hsc⟩ := Hp.out.1.cells hk
    have Hkw : Hid (PtrsAt w lo hi (.slice ka 8 kc) 8 (p.s k).ks (p.s k).kb) := by have := hsc.slot.2.1; rw [h8] at this; exact this
    have Hscw := hideT hsc
    clear hsc h8
    obtain ⟨⟨x0, x1⟩, ⟨x2, x3⟩⟩ := HB1.out
    obtain ⟨⟨y0, y1⟩, ⟨y2, y3⟩⟩ := HX1.out
    -- the root
    have hal := below_alloc w1 (.cells #[.int .i64 (k : Int), .int .i64 xb] 43)
    have Hrb := hideT (HS1.out.below hal)
    have HBb := hideT (HB1.out.below hal)
    have HXb := hideT (HX1.out.below hal)
    have hBa := below_next hB1 hal
    have hza : (w1.alloc (.cells #[.int .i64 (k : Int), .int .i64 xb] 43)).heap.size = w1.heap.size + 1 := World.size_alloc _ _
    have HNw := hideT (World.news_of_block (heap_alloc_last w1 (.cells #[.int .i64 (k : Int), .int .i64 xb] 43)))
    clear hal HS1 HB1 HX1 hB1
    go_wp2_with (first
      | (at_builtin; refine wpList_append_lies _ rfl _ _ 44 rfl (w.heap.size + 2) 43 i0 (.agg #[.int .i64 0, .int .i64 0]) 2 16 (by kernel_rfl) HI.out.1 HI.out.2.1 HI.out.2.2.1 HI.out.2.2.2 rfl (by decide) (.slice (some ⟨w.heap.size + 2, 0, none⟩) 0 0) 0 [] rfl Hrb.out ⟨w1.heap.size, 0, none⟩ 1 1 [.int .i64 (k : Int), .int .i64 xb] rfl rfl HNw.out (by simp [Value.oneCell']) (by decide) (by unfold maxLen; omega) (by omega) (by omega) _ rfl ?_; intro g4 cap4 w4 hown4 hgrow4 hat4 hlt4; have hB4 : Below w.heap.size w w4 := hBa.grown hgrow4 hBa.size (fun q hq => (by have := (Hrb.out.lt hq).1; omega)); have HB4 := hideT (HBb.out.grownT hgrow4 (fun q hq => by have := (Hrb.out.lt hq).1; omega)); have HX4 := hideT (HXb.out.grownT hgrow4 (fun q hq => by have := (Hrb.out.lt hq).1; omega)); have z0 := HB4.out.1.1; have z1 := HX4.out.1.1; have z2 := (Hscw.out.below hB4).c1; rw [H8.out] at z2)
      | go_in)
    have Hr4 := hideT (show RowL w4 (w.heap.size + 2) (.slice (some ⟨g4, 0, none⟩) 1 cap4) (topL p k xb (p.s k) 0) from hown4)
    have hz4 : w.heap.size + 2 ≤ w4.heap.size := by have := hgrow4.size; omega
    clear hown4 hgrow4 hat4 hlt4 Hrb HBb HXb hBa HNw hza hz1
    go_loopw [5, 7] (fun sv i wr => ∃ (j : Nat) (sa : Option Addr) (sc : Nat), j ≤ 8 ∧ i = .int .i64 j ∧ sv = .slice sa (topL p k xb (p.s k) j).length sc ∧ RowL wr (w.heap.size + 2) sv (topL p k xb (p.s k) j) ∧ Box2 wr w.heap.size (.slice (some ⟨b, off, none⟩) p.n c) (.slice a' p.hn c') ∧ Below w.heap.size w wr ∧ w.heap.size + 2 ≤ wr.heap.size) (fun _ i _ => 8 - (intOf i).toNat)
    case atStart => exact ⟨0, some ⟨g4, 0, none⟩, cap4, Nat.zero_le _, rfl, rfl, Hr4.out, HB4.out, hB4, hz4⟩
    case round =>
      obtain ⟨j, sa, sc, hj, rfl, rfl, hrow, hbox, hbr, hzr⟩ := hrel
      have Hrow := hideT hrow
      have Hbox := hideT hbox
      have hlen := top_len p k xb (p.s k) hj
      clear hrow hbox Hr4 HB4 HX4 hB4 z0 z1 z2 x0 x1 x2 x3 y0 y1 y2 y3 hz4
      by_cases hlt : j < 8
      · have hlt' : (j : Int) < 8 := by omega
        obtain ⟨tb, tof, rfl, q0, q1⟩ := (Hkw.out.below hbr).cellsT hlt
        rw [← kidS_at H8.out hlt] at q0
        rw [← kidB_at H8.out hlt] at q1
        go_wp2_with fail
        refine (l01None_any (kidS (p.s k) j) (kidB (p.s k) j) wr).mono ?_
        rintro e W ⟨⟨t, rfl, ht⟩, hb⟩
        have hbW := below_next hbr hb
        have HBW := hideT (Hbox.out.below hb)
        have HsW := hideT (Hrow.out.below hb)
        have hzW : w.heap.size + 2 ≤ W.heap.size := by have := hb.size; omega
        have q0W := (hb.cell (lt_of_cell q0)).trans q0
        have q1W := (hb.cell (lt_of_cell q1)).trans q1
        clear q0 q1 hbr hb Hrow Hbox hzr
        by_cases hnl : Nil (kidS (p.s k) j) (kidB (p.s k) j)
        · have HNl := hideT hnl
          obtain rfl : t = true := ht.2 hnl
          clear ht hnl
          go_wp2
          go_roundw
          case rel => exact ⟨j + 1, sa, sc, by omega, by go_num, by rw [top_stay HNl.out], by rw [top_stay HNl.out]; exact HsW.out, HBW.out, hbW, hzW⟩
          case measure => simp [intOf]; omega
        · have HNl := hideT hnl
          obtain rfl : t = false := bool_no ht hnl
          clear ht hnl
          have hNo : NodeAt p (kidS (p.s k) j) (kidB (p.s k) j) := by
            rcases Hmid.out j hlt with h | h
            · exact absurd h HNl.out
            · exact h.1
          obtain ⟨m, hm⟩ := Int.eq_ofNat_of_zero_le hNo.1.2.1
          have hmp : m < p.n := by have := hNo.1.2.2.1; omega
          have hmp' : (m : Int) < (p.n : Int) := by omega
          have hmt : (kidS (p.s k) j).toNat = m := by rw [hm]; rfl
          have h8m : (p.s m).kn = 8 := by
            have h0 := hNo.2.1
            have h1 := points_kn HR.out hNo.1
            rw [hmt] at h0 h1
            rcases h1 with h | h
            · omega
            · exact h
          have H8m := hideT h8m
          obtain ⟨_, _, ua, uc, ha, hsm⟩ := Hp.out.1.cells hmp
          simp only [Option.some.injEq, Addr.mk.injEq, and_true] at ha
          obtain ⟨rfl, rfl⟩ := ha
          have Huw : Hid (PtrsAt w lo hi (.slice ua 8 uc) 8 (p.s m).ks (p.s m).kb) := by have := hsm.slot.2.1; rw [h8m] at this; exact this
          have Hsm := hideT hsm
          have Hm := hideT hm
          have Hmt := hideT hmt
          have hal := below_alloc W (.cells #[.int .i64 (kidS (p.s k) j), .int .i64 (kidB (p.s k) j)] 43)
          have Hrb := hideT (HsW.out.below hal)
          have HBb := hideT (HBW.out.below hal)
          have hBa := below_next hbW hal
          have hza : (W.alloc (.cells #[.int .i64 (kidS (p.s k) j), .int .i64 (kidB (p.s k) j)] 43)).heap.size = W.heap.size + 1 := World.size_alloc _ _
          have HNw := hideT (World.news_of_block (heap_alloc_last W (.cells #[.int .i64 (kidS (p.s k) j), .int .i64 (kidB (p.s k) j)] 43)))
          clear hsm h8m hm hmt hal HsW HBW hbW hNo
          go_wp2_with (first
            | (at_builtin; refine wpList_append_lies _ rfl _ _ 44 rfl (w.heap.size + 2) 43 i0 (.agg #[.int .i64 0, .int .i64 0]) 2 16 (by kernel_rfl) HI.out.1 HI.out.2.1 HI.out.2.2.1 HI.out.2.2.2 rfl (by decide) (.slice sa (topL p k xb (p.s k) j).length sc) (topL p k xb (p.s k) j).length (pcl (topL p k xb (p.s k) j)) rfl Hrb.out ⟨W.heap.size, 0, none⟩ 1 1 [.int .i64 (kidS (p.s k) j), .int .i64 (kidB (p.s k) j)] rfl rfl HNw.out (by simp [Value.oneCell']) (by decide) (by unfold maxLen; omega) (by omega) (by omega) _ rfl ?_; intro g4 cap4 w4 hown4 hgrow4 hat4 hlt4)
            | fail)
          have Hr4 : Hid (RowL w4 (w.heap.size + 2) (.slice (some ⟨g4, 0, none⟩) ((topL p k xb (p.s k) j).length + 1) cap4) (midP p k xb (p.s k) j 0)) := by
            rw [midP_start]
            exact RowL.next hown4
          have hB4 : Below w.heap.size w w4 := hBa.grown hgrow4 hBa.size (fun q hq => by have := (Hrb.out.lt hq).1; omega)
          have HB4 := hideT (HBb.out.grownT hgrow4 (fun q hq => by have := (Hrb.out.lt hq).1; omega))
          have hz4 : w.heap.size + 2 ≤ w4.heap.size := by have := hgrow4.size; omega
          clear hown4 hgrow4 hat4 hlt4 Hrb HBb hBa HNw q0W q1W hza
          obtain ⟨_, _, ha, q0, q1⟩ := (Hkw.out.below hB4).cellsT hlt
          simp only [Option.some.injEq, Addr.mk.injEq, and_true] at ha
          obtain ⟨rfl, rfl⟩ := ha
          rw [← kidS_at H8.out hlt, Hm.out] at q0
          obtain ⟨r0, r1, r2, _⟩ := Hsm.out.below hB4
          rw [H8m.out] at r1
          obtain ⟨⟨x0, x1⟩, ⟨x2, x3⟩⟩ := HB4.out
          go_quiet (fail)
          go_wp2
          go_loopw [5, 9] (fun sv i wr => ∃ (i' : Nat) (sa : Option Addr) (sc : Nat), i' ≤ 8 ∧ i = .int .i64 i' ∧ sv = .slice sa (midP p k xb (p.s k) j i').length sc ∧ RowL wr (w.heap.size + 2) sv (midP p k xb (p.s k) j i') ∧ Box2 wr w.heap.size (.slice (some ⟨b, off, none⟩) p.n c) (.slice a' p.hn c') ∧ Below w.heap.size w wr ∧ w.heap.size + 2 ≤ wr.heap.size) (fun _ i _ => 8 - (intOf i).toNat)
          case atStart => exact ⟨0, some ⟨g4, 0, none⟩, cap4, Nat.zero_le _, rfl, by rw [midP_start, List.length_append]; rfl, Hr4.out.below (below_drewN (Below.refl _ _) _), HB4.out.below (below_drewN (Below.refl _ _) _), below_drewN hB4 _, hz4⟩
          case round =>
            obtain ⟨i, sa, sc, hi8, rfl, rfl, hrow, hbox, hbr, hzr⟩ := hrel
            have Hrow := hideT hrow
            have Hbox := hideT hbox
            have hlen1 := midP_len p k xb (p.s k) (show j ≤ 8 by omega) hi8
            clear hrow hbox Hr4 HB4 hB4 x0 x1 x2 x3 q0 q1 r0 r1 r2 hz4
            by_cases hli : i < 8
            · have hli' : (i : Int) < 8 := by omega
              obtain ⟨ub, uof, rfl, q0, q1⟩ := (Huw.out.below hbr).cellsT hli
              rw [← kidS_at H8m.out hli] at q0
              rw [← kidB_at H8m.out hli] at q1
              go_wp2_with fail
              refine (l01None_any (kidS (p.s m) i) (kidB (p.s m) i) wr).mono ?_
              rintro e W ⟨⟨t, rfl, ht⟩, hb⟩
              have hbW := below_next hbr hb
              have HBW := hideT (Hbox.out.below hb)
              have HsW := hideT (Hrow.out.below hb)
              have hzW : w.heap.size + 2 ≤ W.heap.size := by have := hb.size; omega
              have q0W := (hb.cell (lt_of_cell q0)).trans q0
              have q1W := (hb.cell (lt_of_cell q1)).trans q1
              clear q0 q1 hbr hb Hrow Hbox hzr
              by_cases hnl : Nil (kidS (p.s m) i) (kidB (p.s m) i)
              · have HNi := hideT hnl
                obtain rfl : t = true := ht.2 hnl
                clear ht hnl
                have es : midP p k xb (p.s k) j (i + 1) = midP p k xb (p.s k) j i := midP_stay (by rw [Hmt.out]; exact HNi.out)
                have Hes := hideT es
                clear es
                go_wp2
                go_roundw
                case rel => exact ⟨i + 1, sa, sc, by omega, by go_num, by rw [Hes.out], by rw [Hes.out]; exact HsW.out, HBW.out, hbW, hzW⟩
                case measure => simp [intOf]; omega
              · have HNi := hideT hnl
                obtain rfl : t = false := bool_no ht hnl
                clear ht hnl
                have es : midP p k xb (p.s k) j (i + 1) = midP p k xb (p.s k) j i ++ [(kidS (p.s m) i, kidB (p.s m) i)] := by have := midP_next (p := p) (rs := (k : Int)) (rb := xb) (s := p.s k) (j := j) (i := i) (by rw [Hmt.out]; exact HNi.out); rw [Hmt.out] at this; exact this
                have Hes := hideT es
                clear es
                have hal := below_alloc W (.cells #[.int .i64 (kidS (p.s m) i), .int .i64 (kidB (p.s m) i)] 43)
                have Hrb := hideT (HsW.out.below hal)
                have HBb := hideT (HBW.out.below hal)
                have hBa := below_next hbW hal
                have hza : (W.alloc (.cells #[.int .i64 (kidS (p.s m) i), .int .i64 (kidB (p.s m) i)] 43)).heap.size = W.heap.size + 1 := World.size_alloc _ _
                have HNw := hideT (World.news_of_block (heap_alloc_last W (.cells #[.int .i64 (kidS (p.s m) i), .int .i64 (kidB (p.s m) i)] 43)))
                clear hal HsW HBW hbW
                go_wp2_with (first
                  | (at_builtin; refine wpList_append_lies _ rfl _ _ 44 rfl (w.heap.size + 2) 43 i0 (.agg #[.int .i64 0, .int .i64 0]) 2 16 (by kernel_rfl) HI.out.1 HI.out.2.1 HI.out.2.2.1 HI.out.2.2.2 rfl (by decide) (.slice sa (midP p k xb (p.s k) j i).length sc) (midP p k xb (p.s k) j i).length (pcl (midP p k xb (p.s k) j i)) rfl Hrb.out ⟨W.heap.size, 0, none⟩ 1 1 [.int .i64 (kidS (p.s m) i), .int .i64 (kidB (p.s m) i)] rfl rfl HNw.out (by simp [Value.oneCell']) (by decide) (by unfold maxLen; omega) (by omega) (by omega) _ rfl ?_; intro g4 cap4 w4 hown4 hgrow4 hat4 hlt4)
                  | go_in)
                go_roundw
                case rel => exact ⟨i + 1, some ⟨g4, 0, none⟩, cap4, by omega, by go_num, by rw [Hes.out, List.length_append]; rfl, by rw [Hes.out]; exact RowL.next hown4, HBb.out.grownT hgrow4 (fun q hq => by have := (Hrb.out.lt hq).1; omega), hBa.grown hgrow4 hBa.size (fun q hq => by have := (Hrb.out.lt hq).1; omega), by have := hgrow4.size; omega⟩
                case measure => simp [intOf]; omega
            · obtain rfl : i = 8 := by omega
              go_wp2
              go_roundw
              case rel => exact ⟨j + 1, sa, sc, by omega, by go_num, by rw [top_next HNl.out], by rw [top_next HNl.out]; exact Hrow.out, Hbox.out, hbr, hzr⟩
              case measure => simp [intOf]; omega
      · obtain rfl : j = 8 := by omega
        go_wp2
        go_ret
        exact ⟨_, rfl, by rw [tree_top HN.out]; exact Hrow.out.mono (by omega), hbr⟩

end Go.Proofs.YtjpbmpjddbekgaaGreat

namespace Go.Proofs.YtjpbmpjddbekgaaGreat
open Go.RowKit
set_option linter.unusedVariables false

open Classical in
/-- How many of the first k slots are free. -/
noncomputable def roomN (f : Nat → SlotD) : Nat → Nat
  | 0 => 0
  | k + 1 => roomN f k + (if Free (f k) then 1 else 0)

theorem roomN_yes {f : Nat → SlotD} {k : Nat} (h : Free (f k)) : roomN f (k + 1) = roomN f k + 1 := by simp [roomN, h]
theorem roomN_no {f : Nat → SlotD} {k : Nat} (h : ¬ Free (f k)) : roomN f (k + 1) = roomN f k := by simp [roomN, h]
theorem roomN_le (f : Nat → SlotD) : ∀ k, roomN f k ≤ k
  | 0 => Nat.le_refl _
  | k + 1 => by
    have := roomN_le f k
    by_cases h : Free (f k)
    · rw [roomN_yes h]; omega
    · rw [roomN_no h]; omega

open Classical in
/-- What PoolRoom tells. -/
noncomputable def roomP (p : PoolD) : Int := if Right p then (roomN p.s p.n : Int) else 0

end Go.Proofs.YtjpbmpjddbekgaaGreat
