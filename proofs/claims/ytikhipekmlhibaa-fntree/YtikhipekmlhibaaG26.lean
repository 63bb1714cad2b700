/- What spec.TreeWrite answers: a piece, open at its end (to be made a template, LayF.tpl, when it is whole). -/
import Derived.Test.YtikhipekmlhibaaG25
namespace Go.Proofs.Ytikhipekmlhibaa
open Go Go.RowKit
set_option linter.unusedVariables false

/-- A row of eight with one pointer set. -/
theorem row_set {w : World} {base g cp : Nat} {f h : Nat → Int} (hr : RowL w base (.slice (some ⟨g, 0, none⟩) 8 cp) (rowF f h 8)) {j : Nat} (hj : j < 8) (x y : Int) :
    PtrsOwn ((w.setCell ⟨g, j * 2, none⟩ (.int .i64 x)).setCell ⟨g, j * 2 + 1, none⟩ (.int .i64 y)) g (.slice (some ⟨g, 0, none⟩) 8 cp) 8 (fun i => if i = j then x else f i) (fun i => if i = j then y else h i) := by
  obtain ⟨b, cap, e, hcp, _, _, hcell⟩ := owns_cell hr (by rw [rowF_len]; omega)
  simp only [Value.slice.injEq, Option.some.injEq, Addr.mk.injEq, and_true] at e
  obtain ⟨rfl, _, rfl⟩ := e
  rw [rowF_len] at hcp
  refine ⟨by unfold maxLen; omega, _, cp, rfl, hcp, fun _ => ⟨0, rfl, fun i hi => ?_⟩⟩
  have h1 := hcell _ _ (pcl_get (rowF f h 8) i (by rw [rowF_len]; exact hi)).1
  have h2 := hcell _ _ (pcl_get (rowF f h 8) i (by rw [rowF_len]; exact hi)).2
  have := rowF_at f h hi
  unfold fstL sndL at this
  rw [this.1] at h1
  rw [this.2] at h2
  rw [Nat.zero_add]
  show Cell _ g (i * 2) (.int .i64 (if i = j then x else f i)) ∧ Cell _ g (i * 2 + 1) (.int .i64 (if i = j then y else h i))
  by_cases e : i = j
  · subst e
    rw [if_pos rfl, if_pos rfl]
    exact ⟨(h1.set _).other _ (Or.inr (by omega)), (h2.other _ (Or.inr (by omega))).set _⟩
  · rw [if_neg e, if_neg e]
    exact ⟨(h1.other _ (Or.inr (by omega))).other _ (Or.inr (by omega)), (h2.other _ (Or.inr (by omega))).other _ (Or.inr (by omega))⟩
/-- Where it lies, and that it may be written. -/
theorem row_cells {w : World} {base g cp : Nat} {f h : Nat → Int} (hr : RowL w base (.slice (some ⟨g, 0, none⟩) 8 cp) (rowF f h 8)) : base ≤ g ∧ g < w.heap.size ∧ 8 ≤ cp ∧ ∀ i, i < 8 → Cell w g (i * 2) (.int .i64 (f i)) ∧ Cell w g (i * 2 + 1) (.int .i64 (h i)) := by
  obtain ⟨b, cap, e, hcp, hb, hlt, hcell⟩ := owns_cell hr (by rw [rowF_len]; omega)
  simp only [Value.slice.injEq, Option.some.injEq, Addr.mk.injEq, and_true] at e
  obtain ⟨rfl, _, rfl⟩ := e
  rw [rowF_len] at hcp
  refine ⟨hb, hlt, hcp, fun i hi => ?_⟩
  have h1 := hcell _ _ (pcl_get (rowF f h 8) i (by rw [rowF_len]; exact hi)).1
  have h2 := hcell _ _ (pcl_get (rowF f h 8) i (by rw [rowF_len]; exact hi)).2
  have := rowF_at f h hi
  unfold fstL sndL at this
  rw [this.1] at h1
  rw [this.2] at h2
  exact ⟨h1, h2⟩
/-- The three that were met, page first, in a new row. -/
theorem old_row (w : World) (p : PoolD) (xs xb : Int) (n : Nat) (t : TypeId) : PtrsAt (w.alloc (.cells #[.int .i64 (pageS p xs xb n), .int .i64 (pageB p xs xb n), .int .i64 (nodeS p xs xb n), .int .i64 (nodeB p xs xb n), .int .i64 xs, .int .i64 xb] t)) 0 (w.heap.size + 1) (.slice (some ⟨w.heap.size, 0, none⟩) 3 3) 3 (fun i => metS p xs xb n (2 - i)) (fun i => metB p xs xb n (2 - i)) := by
  have hb : (w.alloc (.cells #[.int .i64 (pageS p xs xb n), .int .i64 (pageB p xs xb n), .int .i64 (nodeS p xs xb n), .int .i64 (nodeB p xs xb n), .int .i64 xs, .int .i64 xb] t)).heap[w.heap.size]? = some (.cells #[.int .i64 (pageS p xs xb n), .int .i64 (pageB p xs xb n), .int .i64 (nodeS p xs xb n), .int .i64 (nodeB p xs xb n), .int .i64 xs, .int .i64 xb] t) := heap_alloc_new _ _
  refine ⟨by unfold maxLen; omega, _, 3, rfl, Nat.le_refl _, fun _ => ⟨w.heap.size, 0, rfl, Nat.zero_le _, Nat.lt_succ_self _, fun i hi => ?_⟩⟩
  rcases i with _ | _ | _ | i
  · exact ⟨(cell_of_block hb rfl).1, (cell_of_block hb rfl).1⟩
  · exact ⟨(cell_of_block hb rfl).1, (cell_of_block hb rfl).1⟩
  · exact ⟨(cell_of_block hb rfl).1, (cell_of_block hb rfl).1⟩
  · omega
theorem no_kids (w : World) : PtrsOwn w 0 (.slice none 0 0) 0 (fun _ => 0) (fun _ => 0) := ⟨Nat.zero_le _, none, 0, rfl, Nat.le_refl _, fun h => absurd h (Nat.lt_irrefl _)⟩

set_option maxRecDepth 20000 in
set_option maxHeartbeats 4000000 in
theorem specTreeWrite_any (v0 v1 : Value) (lo hi : Nat) (p : PoolD) (xs xb page b : Int) (d : ByteArray) (w : World) (h1 : PoolAt w lo hi v0 v1 p) :
    Calls Try.prog 22 #[.agg #[v0, v1], .agg #[.int .i64 xs, .int .i64 xb], .int .i64 page, .string d, .int .i64 b] w (NewTree (writeT p xs xb page d b) w) := by
  have Hp := hideT h1
  obtain ⟨a, c, a', c', rfl, rfl⟩ := h1.form
  clear h1
  have hq : ∀ n : Nat, (n : Int).tdiv 8 = ((n / 8 : Nat) : Int) := fun n => (Int.ofNat_tdiv n 8).symm
  have hr : ∀ n : Nat, (n : Int).tmod 8 = ((n % 8 : Nat) : Int) := fun n => (Int.ofNat_tmod n 8).symm
  have hst := startT w (.slice a p.n c) (.slice a' p.hn c') (.int .i64 xs) (.int .i64 xb) 26 33 50
  go_enter Try.func22, Try.ntmps22
  go_upto_region 1 with fail
  generalize ((w.alloc (.cells #[.slice a p.n c, .slice a' p.hn c'] 26)).alloc (.cells #[.int .i64 xs, .int .i64 xb] 33)).alloc (.cells #[.slice none 0 0, .slice none 0 0, .int .i64 0, .int .i64 0, .slice none 0 0, .int .i64 0] 50) = W at hst ⊢
  obtain ⟨hB, hX, hR, hba, hz⟩ := hst
  by_cases hd0 : 8000 < d.size
  · have Hd0 := hideT hd0
    have hd1 : (8000 : Int) < (d.size : Int) := by omega
    have HR := hideT hR
    obtain ⟨⟨r0, r1⟩, ⟨r2, r3⟩, ⟨r4, r5⟩, ⟨r6, r7⟩, ⟨r8, r9⟩, ⟨r10, r11⟩⟩ := HR.out
    try go_wp2
    have HR8 := HR.out.put (.slice none 0 0) (.slice none 0 0) (.int .i64 0) (.int .i64 0) (.slice none 0 0) (.int .i64 2)
    have hpr := err_ret (R := w.heap.size + 1 + 1) (c := 2) (by omega) hba
    rw [write_size Hd0.out]
    exact bodyPost_ret (v := .agg #[.slice none 0 0, .slice none 0 0, .int .i64 0, .int .i64 0, .slice none 0 0, .int .i64 2]) (by simp [results, Try.results22, go_sem, HR8.1.1, HR8.2.1.1, HR8.2.2.1.1, HR8.2.2.2.1.1, HR8.2.2.2.2.1.1, HR8.2.2.2.2.2.1]) rfl hpr
  · have Hd0 := hideT hd0
    have hd1 : ¬ (8000 : Int) < (d.size : Int) := by omega
    clear hd0
    obtain ⟨⟨x0, x1⟩, ⟨x2, x3⟩⟩ := id hB
    obtain ⟨⟨y0, y1⟩, ⟨y2, y3⟩⟩ := id hX
    go_wp2_with fail
    refine (specTreeRight_any _ _ lo hi p xs xb W (Hp.out.below hba)).mono ?_
    rintro e w1 ⟨⟨t, rfl, ht⟩, hb1⟩
    have HB1 := hideT (hB.below hb1)
    have HX1 := hideT (hX.below hb1)
    have HR1 := hideT (hR.below hb1)
    have hB1 := below_next hba hb1
    have hz1 : w.heap.size + 3 ≤ w1.heap.size := by have := hb1.size; omega
    clear hB hX hR hba hb1 hz x0 x1 x2 x3 y0 y1 y2 y3
    by_cases hRt : TreeR p xs xb
    · have HRt := hideT hRt
      obtain rfl : t = true := ht.2 hRt
      clear ht hRt
      obtain ⟨⟨y0, y1⟩, ⟨y2, y3⟩⟩ := HX1.out
      obtain ⟨⟨x0, x1⟩, ⟨x2, x3⟩⟩ := HB1.out
      go_wp2_with fail
      refine (l02Born_any _ _ lo hi p xs xb b w1 (Hp.out.below hB1) HRt.out).mono ?_
      rintro e w2 ⟨⟨t, rfl, ht⟩, hb2⟩
      have HB2 := hideT (HB1.out.below hb2)
      have HX2 := hideT (HX1.out.below hb2)
      have HR2 := hideT (HR1.out.below hb2)
      have hB2 := below_next hB1 hb2
      have hz2 : w.heap.size + 3 ≤ w2.heap.size := by have := hb2.size; omega
      clear hb2 hB1 HB1 HX1 HR1 hz1 y0 y1 y2 y3 x0 x1 x2 x3
      by_cases hBo : BornOk xb b
      · have HTB := hideT (And.intro HRt.out hBo)
        obtain rfl : t = true := ht.2 hBo
        clear ht hBo
        obtain ⟨⟨r0, r1⟩, ⟨r2, r3⟩, ⟨r4, r5⟩, ⟨r6, r7⟩, ⟨r8, r9⟩, ⟨r10, r11⟩⟩ := HR2.out
        by_cases hN : PageNo page
        · have HNo := hideT hN
          obtain ⟨n, rfl⟩ := Int.eq_ofNat_of_zero_le hN.1
          have hn64 : n < 64 := by have := hN.2; omega
          have hq8 : ((n / 8 : Nat) : Int) < 8 := by omega
          have hr8 : ((n % 8 : Nat) : Int) < 8 := by omega
          have hn' : (n : Int) < 64 := by omega
          have hm0 : 0 ≤ (n : Int) % 8 := by omega
          have hm8 : (n : Int) % 8 < 8 := by omega
          have hmt : ((n : Int) % 8).toNat = n % 8 := by omega
          clear hN
          by_cases hd16 : d.size = 16
          · have HPD := hideT (And.intro HNo.out hd16)
            have hd2 : ((d.size : Int) != 16) = false := by simp; omega
            have Hd16 := hideT hd16
            clear hd16 r0 r1 r2 r3 r4 r5 r6 r7 r8 r9 r10 r11
            obtain ⟨⟨x0, x1⟩, ⟨x2, x3⟩⟩ := HB2.out
            go_wp2_with (first | (go_at_call 75; refine (l02Number_any _ _).mono ?_; rintro e w9 ⟨⟨t2, rfl, ht2⟩, rfl⟩; obtain rfl : t2 = true := ht2.2 HNo.out; clear ht2) | fail)
            go_wp2_with fail
            have hn200 := HRt.out.1.1
            refine (l01Room_any _ _ lo hi p w9 (Hp.out.below hB2) hn200).mono ?_
            rintro e w3 ⟨rfl, hb3⟩
            have HB3 := hideT (HB2.out.below hb3)
            have HX3 := hideT (HX2.out.below hb3)
            have HR3 := hideT (HR2.out.below hb3)
            have hB3 := below_next hB2 hb3
            have hz3 : w.heap.size + 3 ≤ w3.heap.size := by have := hb3.size; omega
            clear hb3 x0 x1 x2 x3 HB2 HX2 HR2 hB2
            by_cases hrm : roomN p.s p.n < 3
            · have hrm' : (roomN p.s p.n : Int) < 3 := by omega
              have HEl := hideT (write_full HRt.out hn64 HTB.out.2 Hd16.out hrm)
              clear hrm
              obtain ⟨⟨r0, r1⟩, ⟨r2, r3⟩, ⟨r4, r5⟩, ⟨r6, r7⟩, ⟨r8, r9⟩, ⟨r10, r11⟩⟩ := HR3.out
              try go_wp2
              have HR8 := HR3.out.put (.slice none 0 0) (.slice none 0 0) (.int .i64 0) (.int .i64 0) (.slice none 0 0) (.int .i64 6)
              have hpr := err_ret (R := w.heap.size + 1 + 1) (c := 6) (by omega) hB3
              rw [HEl.out]
              exact bodyPost_ret (v := .agg #[.slice none 0 0, .slice none 0 0, .int .i64 0, .int .i64 0, .slice none 0 0, .int .i64 6]) (by simp [results, Try.results22, go_sem, HR8.1.1, HR8.2.1.1, HR8.2.2.1.1, HR8.2.2.2.1.1, HR8.2.2.2.2.1.1, HR8.2.2.2.2.2.1]) rfl hpr
            · have hrm' : ¬ (roomN p.s p.n : Int) < 3 := by omega
              have Hrm := hideT hrm
              clear hrm
              obtain ⟨⟨x0, x1⟩, ⟨x2, x3⟩⟩ := HB3.out
              obtain ⟨⟨y0, y1⟩, ⟨y2, y3⟩⟩ := HX3.out
              go_wp2_with fail
              refine (l01Copy_any _ _ lo hi p w3 (Hp.out.below hB3) (by have := right_small HRt.out.1; omega)).mono ?_
              rintro e w4 ⟨s0, s1, rfl, ho4, hb4⟩
              obtain ⟨a5, c5, a6, c6, rfl, rfl⟩ := ho4.form
              have hal4 := below_alloc w4 (.cells #[.slice a5 p.n c5, .slice a6 p.hn c6] 26)
              have hC4 := below_next hb4 hal4
              have hcc5 : p.n ≤ c5 := by obtain ⟨_, _, _, _, ⟨_, _, _, e, h, _⟩, _⟩ := ho4; simp only [Value.slice.injEq, true_and] at e; omega
              have Ho5 := hideT ((ho4.below hal4).isIn (S := fun k => w3.heap.size ≤ k ∧ k < w4.heap.size) (fun k h1 h2 => ⟨h1, h2⟩))
              have HO5 := hideT (Box2.new w4 (.slice a5 p.n c5) (.slice a6 p.hn c6) 26)
              have HB5 := hideT (HB3.out.below hC4)
              have HX5 := hideT (HX3.out.below hC4)
              have HR5 := hideT (HR3.out.below hC4)
              have hB5 := below_next hB3 hC4
              have hzw4 := hb4.size
              have hz5 : (w4.alloc (.cells #[.slice a5 p.n c5, .slice a6 p.hn c6] 26)).heap.size = w4.heap.size + 1 := World.size_alloc _ _
              clear x0 x1 x2 x3 y0 y1 y2 y3 HB3 HX3 HR3 hb4 hal4 hC4 ho4
              go_upto_region 10 with fail
              generalize w4.alloc (.cells #[.slice a5 p.n c5, .slice a6 p.hn c6] 26) = w5 at Ho5 HO5 HB5 HX5 HR5 hB5 hz5 ⊢
              obtain ⟨⟨x0, x1⟩, ⟨x2, x3⟩⟩ := HB5.out
              obtain ⟨⟨y0, y1⟩, ⟨y2, y3⟩⟩ := HX5.out
              go_wp2_with fail
              refine (l02Path_any _ _ lo hi p xs xb n w5 (Hp.out.below hB5) HRt.out hn64).mono ?_
              rintro e w6 ⟨rfl, hb6⟩
              have b61 := below_alloc w6 (.cells #[.int .i64 (pageS p xs xb n), .int .i64 (pageB p xs xb n)] 33)
              have b62 := below_alloc (w6.alloc (.cells #[.int .i64 (pageS p xs xb n), .int .i64 (pageB p xs xb n)] 33)) (.cells #[.int .i64 (nodeS p xs xb n), .int .i64 (nodeB p xs xb n)] 33)
              have hC7 := below_next hb6 (below_next b61 b62)
              have HP7 := hideT ((Box2.new w6 (.int .i64 (pageS p xs xb n)) (.int .i64 (pageB p xs xb n)) 33).below b62)
              have hN7 := Box2.new (w6.alloc (.cells #[.int .i64 (pageS p xs xb n), .int .i64 (pageB p xs xb n)] 33)) (.int .i64 (nodeS p xs xb n)) (.int .i64 (nodeB p xs xb n)) 33
              rw [World.size_alloc] at hN7
              have HN7 := hideT hN7
              have Ho7 := hideT (Ho5.out.below hC7)
              have HO7 := hideT (HO5.out.below hC7)
              have HB7 := hideT (HB5.out.below hC7)
              have HX7 := hideT (HX5.out.below hC7)
              have HR7 := hideT (HR5.out.below hC7)
              have hB7 := below_next hB5 hC7
              have hz6 : w4.heap.size + 1 ≤ w6.heap.size := by have := hb6.size; omega
              have hz7 : ((w6.alloc (.cells #[.int .i64 (pageS p xs xb n), .int .i64 (pageB p xs xb n)] 33)).alloc (.cells #[.int .i64 (nodeS p xs xb n), .int .i64 (nodeB p xs xb n)] 33)).heap.size = w6.heap.size + 2 := by rw [World.size_alloc, World.size_alloc]
              clear b61 b62 hC7 hN7 Ho5 HO5 HB5 HX5 HR5 hB5 hz5 hb6 x0 x1 x2 x3 y0 y1 y2 y3
              go_upto_region 11 with fail
              generalize (w6.alloc (.cells #[.int .i64 (pageS p xs xb n), .int .i64 (pageB p xs xb n)] 33)).alloc (.cells #[.int .i64 (nodeS p xs xb n), .int .i64 (nodeB p xs xb n)] 33) = w7 at HP7 HN7 Ho7 HO7 HB7 HX7 HR7 hB7 hz7 ⊢
              generalize w6.heap.size = T12 at HP7 HN7 hz6 hz7 ⊢
              go_wp2_with fail
              refine (l01Take_in w4.heap.size 0 _ a5 c5 (.slice a6 p.hn c6) (.slice none 0 0) p (slotG b d) w7 HO7.out (by omega) (fun k hk => by omega) hcc5 Ho7.out (no_kids w7) (fun h => absurd h (Nat.lt_irrefl _)) (by show d.size ≤ maxLen; rw [Hd16.out]; unfold maxLen; omega)).mono ?_
              rintro e w8 (⟨i0, hF0, he8, hO8, ho8, ht8⟩ | ⟨hno, _, _⟩)
              rotate_left
              · obtain ⟨j, hj⟩ := room_first (f := p.s) (n := p.n) (by have := Hrm.out; omega)
                exact absurd hj.2.1 (hno j hj.1)
              have he8' : e = .returned (.tuple #[.agg #[.int .i64 (i0 : Int), .int .i64 b], .bool true]) := he8
              subst he8'
              clear he8
              have HF0 := hideT hF0
              have Ho8 := hideT (ho8.mono (T := fun k => w3.heap.size ≤ k ∧ k < w4.heap.size) (fun k hk => hk.elim id (fun h => absurd h.1 (Nat.lt_irrefl _))))
              have HO8 := hideT hO8
              have HP8 := hideT (HP7.out.turned ht8 (by omega))
              have HN8 := hideT (HN7.out.turned ht8 (by omega))
              have HB8 := hideT (HB7.out.turned ht8 (by omega))
              have HX8 := hideT (HX7.out.turned ht8 (by omega))
              have HR8 := hideT (HR7.out.turned ht8 (by omega))
              have hB8 := hB7.trans (ht8.below (B := w.heap.size) hB7.size (by intro k hk; omega))
              have hz8 : T12 + 2 ≤ w8.heap.size := by have := ht8.size; omega
              clear hF0 hO8 ho8 ht8 HP7 HN7 Ho7 HO7 HB7 HX7 HR7 hB7 hz7
              have hal8 := below_alloc w8 (.cells #[.int .i64 (i0 : Int), .int .i64 b] 33)
              have HT9 := hideT (Box2.new w8 (.int .i64 (i0 : Int)) (.int .i64 b) 33)
              have Ho9 := hideT (Ho8.out.below hal8)
              have HO9 := hideT (HO8.out.below hal8)
              have HP9 := hideT (HP8.out.below hal8)
              have HN9 := hideT (HN8.out.below hal8)
              have HB9 := hideT (HB8.out.below hal8)
              have HX9 := hideT (HX8.out.below hal8)
              have HR9 := hideT (HR8.out.below hal8)
              have hB9 := below_next hB8 hal8
              have hz9 : (w8.alloc (.cells #[.int .i64 (i0 : Int), .int .i64 b] 33)).heap.size = w8.heap.size + 1 := World.size_alloc _ _
              clear hal8 Ho8 HO8 HP8 HN8 HB8 HX8 HR8 hB8
              go_upto_region 12 with fail
              generalize w8.alloc (.cells #[.int .i64 (i0 : Int), .int .i64 b] 33) = w9 at HT9 Ho9 HO9 HP9 HN9 HB9 HX9 HR9 hB9 hz9 ⊢
              generalize w8.heap.size = T14 at HT9 hz8 hz9 ⊢
              obtain ⟨⟨x0, x1⟩, ⟨x2, x3⟩⟩ := HB9.out
              obtain ⟨⟨y0, y1⟩, ⟨y2, y3⟩⟩ := HN9.out
              go_wp2_with fail
              refine (l02Kids_any _ _ lo hi p (nodeS p xs xb n) (nodeB p xs xb n) w9 (Hp.out.below hB9) (node_ok HRt.out (by omega))).mono ?_
              rintro e wA ⟨g1, cp1, rfl, hrow1, hbA⟩
              have Hrow1 := hideT hrow1
              obtain ⟨hg1, hg1', hcp1, hcell1⟩ := row_cells hrow1
              have HTA := hideT (HT9.out.below hbA)
              have HoA := hideT (Ho9.out.below hbA)
              have HOA := hideT (HO9.out.below hbA)
              have HPA := hideT (HP9.out.below hbA)
              have HNA := hideT (HN9.out.below hbA)
              have HBA := hideT (HB9.out.below hbA)
              have HXA := hideT (HX9.out.below hbA)
              have HRA := hideT (HR9.out.below hbA)
              have hBA := below_next hB9 hbA
              clear hrow1 hbA x0 x1 x2 x3 y0 y1 y2 y3 HT9 Ho9 HO9 HP9 HN9 HB9 HX9 HR9 hB9
              obtain ⟨⟨q0, q1⟩, ⟨q2, q3⟩⟩ := hcell1 (n % 8) (by omega)
              obtain ⟨⟨x0, x1⟩, ⟨x2, x3⟩⟩ := HTA.out
              clear hcell1
              go_upto_region 14 with fail
              have tB := (Turned.put wA g1 (n % 8 * 2) (.int .i64 (i0 : Int))).trans (Turned.put _ g1 (n % 8 * 2 + 1) (.int .i64 b))
              have HKB := hideT (row_set Hrow1.out (show n % 8 < 8 by omega) (i0 : Int) b)
              have HOB := hideT (HOA.out.turned tB (by omega))
              have HoB := hideT (HoA.out.turned tB (fun k hk => by omega))
              have HPB := hideT (HPA.out.turned tB (by omega))
              have HNB := hideT (HNA.out.turned tB (by omega))
              have HBB := hideT (HBA.out.turned tB (by omega))
              have HXB := hideT (HXA.out.turned tB (by omega))
              have HRB := hideT (HRA.out.turned tB (by omega))
              have hBB := hBA.trans (tB.below (B := w.heap.size) hBA.size (by intro k hk; omega))
              have hzB := tB.size
              clear q0 q1 q2 q3 x0 x1 x2 x3 HTA HoA HOA HPA HNA HBA HXA HRA hBA tB Hrow1
              generalize (wA.setCell ⟨g1, n % 8 * 2, none⟩ (.int .i64 (i0 : Int))).setCell ⟨g1, n % 8 * 2 + 1, none⟩ (.int .i64 b) = wB at HKB HOB HoB HPB HNB HBB HXB HRB hBB hzB ⊢
              go_wp2_with fail
              refine (l01Take_in w4.heap.size g1 _ a5 c5 (.slice a6 p.hn c6) (.slice (some ⟨g1, 0, none⟩) 8 cp1) (page1 p b d i0) (slotK (kidX p xs xb n 1 (i0 : Int)) (kidY p xs xb n 1 b) b) wB HOB.out (by omega) (fun k hk => by omega) hcc5 HoB.out HKB.out (fun _ => ⟨by omega, by omega⟩) (by show (0 : Nat) ≤ maxLen; exact Nat.zero_le _)).mono ?_
              have hrm0 := Hrm.out
              have q0 : roomN (page1 p b d i0).s p.n + 1 = roomN p.s p.n := room_less (s := slotG b d) HF0.out (fits_page HTB.out.2.1 Hd16.out)
              rintro e wC (⟨i1, hF1, heC, hOC, hoC, htC⟩ | ⟨hno, _, _⟩)
              rotate_left
              · obtain ⟨j, hj⟩ := room_first (f := (page1 p b d i0).s) (n := p.n) (by omega)
                exact absurd hj.2.1 (hno j hj.1)
              have heC' : e = .returned (.tuple #[.agg #[.int .i64 (i1 : Int), .int .i64 b], .bool true]) := heC
              subst heC'
              clear heC
              have HF1 : Hid (First p.n (page1 p b d i0).s i1) := hF1
              have q1 : roomN (node2 p xs xb n b d i0 i1).s p.n + 1 = roomN (page1 p b d i0).s p.n := room_less (p := page1 p b d i0) HF1.out (low_fits HRt.out hn64 HTB.out.2 HF0.out)
              have HoC : Hid (PoolIn wC (fun k => (w3.heap.size ≤ k ∧ k < w4.heap.size) ∨ k = g1) (.slice a5 p.n c5) (.slice a6 p.hn c6) (node2 p xs xb n b d i0 i1)) := hoC.mono (fun k hk => hk.imp id And.right)
              have HOC : Hid (Box2 wC w4.heap.size (.slice a5 p.n c5) (.slice a6 p.hn c6)) := hOC
              have HPC := hideT (HPB.out.turned htC (by omega))
              have HNC := hideT (HNB.out.turned htC (by omega))
              have HBC := hideT (HBB.out.turned htC (by omega))
              have HXC := hideT (HXB.out.turned htC (by omega))
              have HRC := hideT (HRB.out.turned htC (by omega))
              have hBC := hBB.trans (htC.below (B := w.heap.size) hBB.size (by intro k hk; omega))
              have hzC : g1 < wC.heap.size := by have := htC.size; omega
              clear hF1 hOC hoC htC HPB HNB HBB HXB HRB hBB HKB HOB HoB hzB
              have halC := below_alloc wC (.cells #[.int .i64 (i1 : Int), .int .i64 b] 33)
              have HTD := hideT (Box2.new wC (.int .i64 (i1 : Int)) (.int .i64 b) 33)
              have HoD := hideT (HoC.out.below halC)
              have HOD := hideT (HOC.out.below halC)
              have HPD' := hideT (HPC.out.below halC)
              have HND := hideT (HNC.out.below halC)
              have HBD := hideT (HBC.out.below halC)
              have HXD := hideT (HXC.out.below halC)
              have HRD := hideT (HRC.out.below halC)
              have hBD := below_next hBC halC
              have hzD : (wC.alloc (.cells #[.int .i64 (i1 : Int), .int .i64 b] 33)).heap.size = wC.heap.size + 1 := World.size_alloc _ _
              clear halC HoC HOC HPC HNC HBC HXC HRC hBC
              go_upto_region 15 with fail
              generalize wC.alloc (.cells #[.int .i64 (i1 : Int), .int .i64 b] 33) = wD at HTD HoD HOD HPD' HND HBD HXD HRD hBD hzD ⊢
              generalize wC.heap.size = T17 at HTD hzC hzD ⊢
              obtain ⟨⟨x0, x1⟩, ⟨x2, x3⟩⟩ := HBD.out
              obtain ⟨⟨y0, y1⟩, ⟨y2, y3⟩⟩ := HXD.out
              go_wp2_with fail
              refine (l02Kids_any _ _ lo hi p xs xb wD (Hp.out.below hBD) (root_ok HRt.out)).mono ?_
              rintro e wE ⟨g2, cp2, rfl, hrow2, hbE⟩
              have Hrow2 := hideT hrow2
              obtain ⟨hg2, hg2', hcp2, hcell2⟩ := row_cells hrow2
              have HTE := hideT (HTD.out.below hbE)
              have HoE := hideT (HoD.out.below hbE)
              have HOE := hideT (HOD.out.below hbE)
              have HPE := hideT (HPD'.out.below hbE)
              have HNE := hideT (HND.out.below hbE)
              have HBE := hideT (HBD.out.below hbE)
              have HXE := hideT (HXD.out.below hbE)
              have HRE := hideT (HRD.out.below hbE)
              have hBE := below_next hBD hbE
              clear hrow2 hbE x0 x1 x2 x3 y0 y1 y2 y3 HTD HoD HOD HPD' HND HBD HXD HRD hBD
              obtain ⟨⟨u0, u1⟩, ⟨u2, u3⟩⟩ := hcell2 (n / 8) (by omega)
              obtain ⟨⟨x0, x1⟩, ⟨x2, x3⟩⟩ := HTE.out
              clear hcell2
              go_upto_region 17 with fail
              have tF := (Turned.put wE g2 (n / 8 * 2) (.int .i64 (i1 : Int))).trans (Turned.put _ g2 (n / 8 * 2 + 1) (.int .i64 b))
              have HKF := hideT (row_set Hrow2.out (show n / 8 < 8 by omega) (i1 : Int) b)
              have HOF := hideT (HOE.out.turned tF (by omega))
              have HoF := hideT (HoE.out.turned tF (fun k hk => by omega))
              have HPF := hideT (HPE.out.turned tF (by omega))
              have HNF := hideT (HNE.out.turned tF (by omega))
              have HXF := hideT (HXE.out.turned tF (by omega))
              have HRF := hideT (HRE.out.turned tF (by omega))
              have hBF := hBE.trans (tF.below (B := w.heap.size) hBE.size (by intro k hk; omega))
              have hzF := tF.size
              clear u0 u1 u2 u3 x0 x1 x2 x3 HTE HoE HOE HPE HNE HBE HXE HRE hBE tF Hrow2
              generalize (wE.setCell ⟨g2, n / 8 * 2, none⟩ (.int .i64 (i1 : Int))).setCell ⟨g2, n / 8 * 2 + 1, none⟩ (.int .i64 b) = wF at HKF HOF HoF HPF HNF HXF HRF hBF hzF ⊢
              go_wp2_with fail
              refine (l01Take_in w4.heap.size g2 _ a5 c5 (.slice a6 p.hn c6) (.slice (some ⟨g2, 0, none⟩) 8 cp2) (node2 p xs xb n b d i0 i1) (slotK (kidX p xs xb n 0 (i1 : Int)) (kidY p xs xb n 0 b) b) wF HOF.out (by omega) (fun k hk => by omega) hcc5 HoF.out HKF.out (fun _ => ⟨by omega, by omega⟩) (by show (0 : Nat) ≤ maxLen; exact Nat.zero_le _)).mono ?_
              rintro e wG (⟨i2, hF2, heG, hOG, hoG, htG⟩ | ⟨hno, _, _⟩)
              rotate_left
              · obtain ⟨j, hj⟩ := room_first (f := (node2 p xs xb n b d i0 i1).s) (n := p.n) (by omega)
                exact absurd hj.2.1 (hno j hj.1)
              have heG' : e = .returned (.tuple #[.agg #[.int .i64 (i2 : Int), .int .i64 b], .bool true]) := heG
              subst heG'
              clear heG
              have HEl := hideT (write_ok HRt.out hn64 HTB.out.2 Hd16.out HF0.out HF1.out hF2)
              have HoG : Hid (PoolOwn wG w3.heap.size wG.heap.size (.slice a5 p.n c5) (.slice a6 p.hn c6) (root3 p xs xb n b d i0 i1 i2)) := hoG.own (fun k hk => by have := htG.size; omega)
              have HOG : Hid (Box2 wG w4.heap.size (.slice a5 p.n c5) (.slice a6 p.hn c6)) := hOG
              have HPG := hideT (HPF.out.turned htG (by omega))
              have HNG := hideT (HNF.out.turned htG (by omega))
              have HXG := hideT (HXF.out.turned htG (by omega))
              have HRG := hideT (HRF.out.turned htG (by omega))
              have hBG := hBF.trans (htG.below (B := w.heap.size) hBF.size (by intro k hk; omega))
              have hzG : g2 < wG.heap.size := by have := htG.size; omega
              clear hF2 hOG hoG htG HPF HNF HXF HRF hBF HKF HOF HoF hzF
              have halG := below_alloc wG (.cells #[.int .i64 (i2 : Int), .int .i64 b] 33)
              have HTH := hideT (Box2.new wG (.int .i64 (i2 : Int)) (.int .i64 b) 33)
              have HoH := hideT (HoG.out.below halG)
              have HOH := hideT (HOG.out.below halG)
              have HPH := hideT (HPG.out.below halG)
              have HNH := hideT (HNG.out.below halG)
              have HXH := hideT (HXG.out.below halG)
              have HRH := hideT (HRG.out.below halG)
              have hBH := below_next hBG halG
              have hzH : (wG.alloc (.cells #[.int .i64 (i2 : Int), .int .i64 b] 33)).heap.size = wG.heap.size + 1 := World.size_alloc _ _
              clear halG HoG HOG HPG HNG HXG HRG hBG
              go_upto_region 18 with fail
              generalize wG.alloc (.cells #[.int .i64 (i2 : Int), .int .i64 b] 33) = wH at HTH HoH HOH HPH HNH HXH HRH hBH hzH ⊢
              generalize wG.heap.size = T20 at HTH HoH hzG hzH ⊢
              obtain ⟨⟨x0, x1⟩, ⟨x2, x3⟩⟩ := HOH.out
              obtain ⟨⟨y0, y1⟩, ⟨y2, y3⟩⟩ := HTH.out
              obtain ⟨⟨z0, z1⟩, ⟨z2, z3⟩⟩ := HPH.out
              obtain ⟨⟨u0, u1⟩, ⟨u2, u3⟩⟩ := HNH.out
              obtain ⟨⟨v0, v1⟩, ⟨v2, v3⟩⟩ := HXH.out
              have n0 : w.heap.size + 1 + 1 ≠ w4.heap.size := by omega
              have n1 : w.heap.size + 1 + 1 ≠ T20 := by omega
              have n2 : w.heap.size + 1 + 1 ≠ T12 := by omega
              have n3 : w.heap.size + 1 + 1 ≠ T12 + 1 := by omega
              have n3' : w.heap.size + 1 ≠ T12 := by omega
              have n4 : w.heap.size + 1 + 1 ≠ w.heap.size + 1 := by omega
              have m0 : wH.heap.size ≠ w4.heap.size := by omega
              have m1 : wH.heap.size ≠ T20 := by omega
              have m2 : wH.heap.size ≠ T12 := by omega
              have m3 : wH.heap.size ≠ T12 + 1 := by omega
              have m4 : wH.heap.size ≠ w.heap.size + 1 := by omega
              have hL : PtrsAt (wH.alloc (.cells #[.int .i64 (pageS p xs xb n), .int .i64 (pageB p xs xb n), .int .i64 (nodeS p xs xb n), .int .i64 (nodeB p xs xb n), .int .i64 xs, .int .i64 xb] 33)) 0 (wH.heap.size + 1) (.slice (some ⟨wH.heap.size, 0, none⟩) 3 3) 3 (fun i => metS p xs xb n (2 - i)) (fun i => metB p xs xb n (2 - i)) := old_row wH p xs xb n 33
              rw [hzH] at hL
              have HL := hideT hL
              have HbL := hideT (below_alloc wH (.cells #[.int .i64 (pageS p xs xb n), .int .i64 (pageB p xs xb n), .int .i64 (nodeS p xs xb n), .int .i64 (nodeB p xs xb n), .int .i64 xs, .int .i64 xb] 33))
              clear hL
              go_region_held3 (fun w' => w'.cell? ⟨w4.heap.size, 0, none⟩ = some (.slice a5 p.n c5) ∧ w'.cell? ⟨w4.heap.size, 1, none⟩ = some (.slice a6 p.hn c6) ∧ w'.cell? ⟨T20, 0, none⟩ = some (.int .i64 (i2 : Int)) ∧ w'.cell? ⟨T20, 1, none⟩ = some (.int .i64 b) ∧ w'.cell? ⟨T12, 0, none⟩ = some (.int .i64 (pageS p xs xb n)) ∧ w'.cell? ⟨T12, 1, none⟩ = some (.int .i64 (pageB p xs xb n)) ∧ w'.cell? ⟨T12 + 1, 0, none⟩ = some (.int .i64 (nodeS p xs xb n)) ∧ w'.cell? ⟨T12 + 1, 1, none⟩ = some (.int .i64 (nodeB p xs xb n)) ∧ w'.cell? ⟨w.heap.size + 1, 0, none⟩ = some (.int .i64 xs) ∧ w'.cell? ⟨w.heap.size + 1, 1, none⟩ = some (.int .i64 xb)) (go_keep)
                (first
                  | (go_at_call 79; refine (l02Old_any _ 3 0 (T20 + 1 + 1) (fun i => metS p xs xb n (2 - i)) (fun i => metB p xs xb n (2 - i)) _ ?_ (by omega)).mono ?_; (exact HL.out.below (Below.refl _ _).drew); rintro e wI ⟨v', rfl, hrI, hbI⟩; obtain ⟨oa, oc, rfl, _⟩ := owns_form hrI; have hbI' := below_next HbL.out (below_undrew hbI); obtain ⟨⟨x0, _⟩, ⟨x2, _⟩⟩ := HOH.out.below hbI'; obtain ⟨⟨y0, _⟩, ⟨y2, _⟩⟩ := HTH.out.below hbI'; obtain ⟨⟨z0, _⟩, ⟨z2, _⟩⟩ := HPH.out.below hbI'; obtain ⟨⟨u0, _⟩, ⟨u2, _⟩⟩ := HNH.out.below hbI'; obtain ⟨⟨v0, _⟩, ⟨v2, _⟩⟩ := HXH.out.below hbI'; obtain ⟨⟨r0, r1⟩, ⟨r2, r3⟩, ⟨r4, r5⟩, ⟨r6, r7⟩, ⟨r8, r9⟩, ⟨r10, r11⟩⟩ := HRH.out.below hbI'))
              have HRI := hideT (HRH.out.below hbI')
              have HoI := hideT (HoH.out.below hbI')
              have hBI := below_next hBH hbI'
              have hbL : wH.heap.size ≤ wI.heap.size := hbI'.size
              have HrI : Hid (RowL wI (T20 + 1) (.slice oa (oldW p xs xb n 3).length oc) (oldW p xs xb n 3)) := hrI.mono (by show T20 + 1 ≤ (World.alloc _ _).heap.size; rw [World.size_alloc, hzH]; omega)
              have hzR : w.heap.size + 2 < T20 := by omega
              rw [show kidsUp (fun i => metS p xs xb n (2 - i)) (fun i => metB p xs xb n (2 - i)) 3 = oldW p xs xb n 3 from rfl]
              clear hbI hbI' hrI x0 x2 y0 y2 z0 z2 u0 u2 v0 v2 r0 r1 r2 r3 r4 r5 r6 r7 r8 r9 r10 r11
              have HR8 := HRI.out.put (.slice a5 p.n c5) (.slice a6 p.hn c6) (.int .i64 (i2 : Int)) (.int .i64 b) (.slice oa (oldW p xs xb n 3).length oc) (.int .i64 0)
              have htp := Turned.put6 wI (w.heap.size + 1 + 1) (.slice a5 p.n c5) (.slice a6 p.hn c6) (.int .i64 (i2 : Int)) (.int .i64 b) (.slice oa (oldW p xs xb n 3).length oc) (.int .i64 0)
              have hzI : T20 + 1 ≤ wI.heap.size := by have := hBI.size; have := hbL; omega
              go_wp2
              rw [HEl.out]
              exact bodyPost_ret (v := .agg #[.slice a5 p.n c5, .slice a6 p.hn c6, .int .i64 (i2 : Int), .int .i64 b, .slice oa (oldW p xs xb n 3).length oc, .int .i64 0]) (by simp [results, Try.results22, go_sem, HR8.1.1, HR8.2.1.1, HR8.2.2.1.1, HR8.2.2.2.1.1, HR8.2.2.2.2.1.1, HR8.2.2.2.2.2.1]) rfl ⟨_, _, _, w3.heap.size, T20, rfl, by omega, Nat.le_trans (show T20 ≤ wI.heap.size by omega) htp.size, HoI.out.turned htp (by intro k hk; omega), ((((((HrI.out.put (by omega) _).put (by omega) _).put (by omega) _).put (by omega) _).put (by omega) _).put (by omega) _).mono (by omega), fun k hk => Or.inr (by have := (HrI.out.lt hk).1; omega), hBI.trans (htp.below (B := w.heap.size) hBI.size (by intro k hk; omega))⟩
          · have HPD : Hid (¬ (PageNo (n : Int) ∧ d.size = 16)) := fun h => hd16 h.2
            have hd2 : ((d.size : Int) != 16) = true := by simp; omega
            clear hd16
            go_wp2_with (first | (go_at_call 75; refine (l02Number_any _ _).mono ?_; rintro e w9 ⟨⟨t2, rfl, ht2⟩, rfl⟩; obtain rfl : t2 = true := ht2.2 HNo.out; clear ht2) | fail)
            obtain ⟨⟨r0, r1⟩, ⟨r2, r3⟩, ⟨r4, r5⟩, ⟨r6, r7⟩, ⟨r8, r9⟩, ⟨r10, r11⟩⟩ := HR2.out
            try go_wp2
            have HR8 := HR2.out.put (.slice none 0 0) (.slice none 0 0) (.int .i64 0) (.int .i64 0) (.slice none 0 0) (.int .i64 8)
            have hpr := err_ret (R := w.heap.size + 1 + 1) (c := 8) (by omega) hB2
            rw [write_range Hd0.out HTB.out HPD.out]
            exact bodyPost_ret (v := .agg #[.slice none 0 0, .slice none 0 0, .int .i64 0, .int .i64 0, .slice none 0 0, .int .i64 8]) (by simp [results, Try.results22, go_sem, HR8.1.1, HR8.2.1.1, HR8.2.2.1.1, HR8.2.2.2.1.1, HR8.2.2.2.2.1.1, HR8.2.2.2.2.2.1]) rfl hpr
        · have HNo := hideT hN
          clear hN
          go_wp2_with (first | (go_at_call 75; refine (l02Number_any _ _).mono ?_; rintro e w9 ⟨⟨t2, rfl, ht2⟩, rfl⟩; obtain rfl : t2 = false := bool_no ht2 HNo.out; clear ht2) | fail)
          obtain ⟨⟨r0, r1⟩, ⟨r2, r3⟩, ⟨r4, r5⟩, ⟨r6, r7⟩, ⟨r8, r9⟩, ⟨r10, r11⟩⟩ := HR2.out
          try go_wp2
          have HR8 := HR2.out.put (.slice none 0 0) (.slice none 0 0) (.int .i64 0) (.int .i64 0) (.slice none 0 0) (.int .i64 8)
          have hpr := err_ret (R := w.heap.size + 1 + 1) (c := 8) (by omega) hB2
          rw [write_range Hd0.out HTB.out (fun h => HNo.out h.1)]
          exact bodyPost_ret (v := .agg #[.slice none 0 0, .slice none 0 0, .int .i64 0, .int .i64 0, .slice none 0 0, .int .i64 8]) (by simp [results, Try.results22, go_sem, HR8.1.1, HR8.2.1.1, HR8.2.2.1.1, HR8.2.2.2.1.1, HR8.2.2.2.2.1.1, HR8.2.2.2.2.2.1]) rfl hpr
      · have HBo := hideT hBo
        obtain rfl : t = false := bool_no ht hBo
        clear ht hBo
        obtain ⟨⟨r0, r1⟩, ⟨r2, r3⟩, ⟨r4, r5⟩, ⟨r6, r7⟩, ⟨r8, r9⟩, ⟨r10, r11⟩⟩ := HR2.out
        try go_wp2
        have HR8 := HR2.out.put (.slice none 0 0) (.slice none 0 0) (.int .i64 0) (.int .i64 0) (.slice none 0 0) (.int .i64 1)
        have hpr := err_ret (R := w.heap.size + 1 + 1) (c := 1) (by omega) hB2
        rw [write_form Hd0.out (fun h => HBo.out h.2)]
        exact bodyPost_ret (v := .agg #[.slice none 0 0, .slice none 0 0, .int .i64 0, .int .i64 0, .slice none 0 0, .int .i64 1]) (by simp [results, Try.results22, go_sem, HR8.1.1, HR8.2.1.1, HR8.2.2.1.1, HR8.2.2.2.1.1, HR8.2.2.2.2.1.1, HR8.2.2.2.2.2.1]) rfl hpr
    · have HRt := hideT hRt
      obtain rfl : t = false := bool_no ht hRt
      clear ht hRt
      obtain ⟨⟨r0, r1⟩, ⟨r2, r3⟩, ⟨r4, r5⟩, ⟨r6, r7⟩, ⟨r8, r9⟩, ⟨r10, r11⟩⟩ := HR1.out
      try go_wp2
      have HR8 := HR1.out.put (.slice none 0 0) (.slice none 0 0) (.int .i64 0) (.int .i64 0) (.slice none 0 0) (.int .i64 1)
      have hpr := err_ret (R := w.heap.size + 1 + 1) (c := 1) (by omega) hB1
      rw [write_form Hd0.out (fun h => HRt.out h.1)]
      exact bodyPost_ret (v := .agg #[.slice none 0 0, .slice none 0 0, .int .i64 0, .int .i64 0, .slice none 0 0, .int .i64 1]) (by simp [results, Try.results22, go_sem, HR8.1.1, HR8.2.1.1, HR8.2.2.1.1, HR8.2.2.2.1.1, HR8.2.2.2.2.1.1, HR8.2.2.2.2.2.1]) rfl hpr

end Go.Proofs.Ytikhipekmlhibaa
