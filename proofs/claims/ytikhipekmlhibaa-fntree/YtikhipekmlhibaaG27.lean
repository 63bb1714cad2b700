/- What spec.TreeTrim answers. -/
import Derived.Test.YtikhipekmlhibaaG26
namespace Go.Proofs.Ytikhipekmlhibaa
open Go Go.RowKit
set_option linter.unusedVariables false

theorem trim_end {p q : PoolD} {xs xb x y b : Int} {n : Nat} (h1 : layS p xs xb n b ⟨p, 0, 0, 0⟩ 1 = ⟨q, x, y, 0⟩) (hN : AllNil (kidX p xs xb n 0 x) (kidY p xs xb n 0 y)) : layP p xs xb n b ⟨p, 0, 0, 0⟩ = ⟨q, 0, 0, oldW p xs xb n 3, 0⟩ := by
  have e2 : layS p xs xb n b ⟨p, 0, 0, 0⟩ 2 = ⟨q, 0, 0, 0⟩ := by
    show nodeL p xs xb n b (layS p xs xb n b ⟨p, 0, 0, 0⟩ 1) 0 = _
    rw [h1]
    exact if_pos hN
  rw [lay_done (fun j hj => by
    rcases j with _ | _ | _ | j
    · rfl
    · rw [h1]
    · rw [e2]
    · omega), e2]
theorem trim_top {p q : PoolD} {xs xb x y b : Int} {n i : Nat} (h1 : layS p xs xb n b ⟨p, 0, 0, 0⟩ 1 = ⟨q, x, y, 0⟩) (hN : ¬ AllNil (kidX p xs xb n 0 x) (kidY p xs xb n 0 y)) (hR : Right q) (hF : Fits q (slotK (kidX p xs xb n 0 x) (kidY p xs xb n 0 y) b)) (hi : First q.n q.s i) :
    layP p xs xb n b ⟨p, 0, 0, 0⟩ = ⟨setS q i (slotK (kidX p xs xb n 0 x) (kidY p xs xb n 0 y) b), (i : Int), b, oldW p xs xb n 3, 0⟩ := by
  have e2 : layS p xs xb n b ⟨p, 0, 0, 0⟩ 2 = ⟨setS q i (slotK (kidX p xs xb n 0 x) (kidY p xs xb n 0 y) b), (i : Int), b, 0⟩ := by
    show nodeL p xs xb n b (layS p xs xb n b ⟨p, 0, 0, 0⟩ 1) 0 = _
    rw [h1]
    exact (if_neg hN).trans (take_ok ⟨hR, fits_not_free hF, hF⟩ hi)
  rw [lay_done (fun j hj => by
    rcases j with _ | _ | _ | j
    · rfl
    · rw [h1]
    · rw [e2]
    · omega), e2]
theorem trim_full {p q : PoolD} {xs xb x y b : Int} {n : Nat} (h1 : layS p xs xb n b ⟨p, 0, 0, 0⟩ 1 = ⟨q, x, y, 0⟩) (hN : ¬ AllNil (kidX p xs xb n 0 x) (kidY p xs xb n 0 y)) (hR : Right q) (hF : Fits q (slotK (kidX p xs xb n 0 x) (kidY p xs xb n 0 y) b)) (hno : ∀ j, j < q.n → ¬ Free (q.s j)) :
    layP p xs xb n b ⟨p, 0, 0, 0⟩ = treeErr 6 := by
  have e2 : layS p xs xb n b ⟨p, 0, 0, 0⟩ 2 = ⟨newP 0, 0, 0, 6⟩ := by
    show nodeL p xs xb n b (layS p xs xb n b ⟨p, 0, 0, 0⟩ 1) 0 = _
    rw [h1]
    exact (if_neg hN).trans (take_full ⟨hR, fits_not_free hF, hF⟩ hno)
  rw [lay_err (k := 1) (by omega) (fun j hj => by
        rcases j with _ | _ | j
        · rfl
        · rw [h1]
        · omega) (by rw [e2]; decide), e2]
theorem low0 {p : PoolD} {xs xb b : Int} {n : Nat} (hN : AllNil (kidX p xs xb n 1 0) (kidY p xs xb n 1 0)) : layS p xs xb n b ⟨p, 0, 0, 0⟩ 1 = ⟨p, 0, 0, 0⟩ := if_pos hN
theorem low1 {p : PoolD} {xs xb b : Int} {n i : Nat} (hT : TreeR p xs xb) (hn : n < 64) (hB : BornOk xb b) (hN : ¬ AllNil (kidX p xs xb n 1 0) (kidY p xs xb n 1 0)) (hi : First p.n p.s i) :
    layS p xs xb n b ⟨p, 0, 0, 0⟩ 1 = ⟨setS p i (slotK (kidX p xs xb n 1 0) (kidY p xs xb n 1 0) b), (i : Int), b, 0⟩ := by
  have hF : Fits p (slotK (kidX p xs xb n 1 0) (kidY p xs xb n 1 0) b) := fits_kid hT hn (by omega) hB (fun s t h => h) (Or.inl ⟨rfl, rfl⟩)
  exact (if_neg hN).trans (take_ok ⟨hT.1, fits_not_free hF, hF⟩ hi)
theorem low_full {p : PoolD} {xs xb b : Int} {n : Nat} (hT : TreeR p xs xb) (hn : n < 64) (hB : BornOk xb b) (hN : ¬ AllNil (kidX p xs xb n 1 0) (kidY p xs xb n 1 0)) (hno : ∀ j, j < p.n → ¬ Free (p.s j)) : layP p xs xb n b ⟨p, 0, 0, 0⟩ = treeErr 6 := by
  have hF : Fits p (slotK (kidX p xs xb n 1 0) (kidY p xs xb n 1 0) b) := fits_kid hT hn (by omega) hB (fun s t h => h) (Or.inl ⟨rfl, rfl⟩)
  have e1 : layS p xs xb n b ⟨p, 0, 0, 0⟩ 1 = ⟨newP 0, 0, 0, 6⟩ := (if_neg hN).trans (take_full ⟨hT.1, fits_not_free hF, hF⟩ hno)
  rw [lay_err (k := 0) (by omega) (fun j hj => by obtain rfl : j = 0 := by omega
                                                  rfl) (by rw [e1]; decide), e1]
/-- A pointer of a row that is owned is set; it may be. -/
theorem own_cell8 {w : World} {g cp : Nat} {f h : Nat → Int} (hp : PtrsOwn w g (.slice (some ⟨g, 0, none⟩) 8 cp) 8 f h) {i : Nat} (hi : i < 8) : Cell w g (i * 2) (.int .i64 (f i)) ∧ Cell w g (i * 2 + 1) (.int .i64 (h i)) := by
  obtain ⟨_, a, c, e, hc, hx⟩ := hp
  simp only [Value.slice.injEq, true_and] at e
  obtain ⟨rfl, rfl⟩ := e
  obtain ⟨off, ha, hcell⟩ := hx (by omega)
  simp only [Option.some.injEq, Addr.mk.injEq, and_true, true_and] at ha
  subst ha
  have := hcell i hi
  rw [Nat.zero_add] at this
  exact this
theorem own_set {w : World} {g cp n L : Nat} {p : PoolD} {xs xb x0 y0 : Int} (hp : PtrsOwn w g (.slice (some ⟨g, 0, none⟩) 8 cp) 8 (kidX p xs xb n L x0) (kidY p xs xb n L y0)) (hn : plc n L < 8) (x y : Int) :
    PtrsOwn ((w.setCell ⟨g, plc n L * 2, none⟩ (.int .i64 x)).setCell ⟨g, plc n L * 2 + 1, none⟩ (.int .i64 y)) g (.slice (some ⟨g, 0, none⟩) 8 cp) 8 (kidX p xs xb n L x) (kidY p xs xb n L y) := by
  have hc : 8 ≤ cp := by
    obtain ⟨_, a, c, e, hc, hx⟩ := hp
    simp only [Value.slice.injEq, true_and] at e
    omega
  refine ⟨by unfold maxLen; omega, _, cp, rfl, hc, fun _ => ⟨0, rfl, fun i hi => ?_⟩⟩
  obtain ⟨h1, h2⟩ := own_cell8 hp hi
  rw [Nat.zero_add]
  by_cases e : i = plc n L
  · subst e
    rw [show kidX p xs xb n L x (plc n L) = x from if_pos rfl, show kidY p xs xb n L y (plc n L) = y from if_pos rfl]
    exact ⟨(h1.set _).other _ (Or.inr (by omega)), (h2.other _ (Or.inr (by omega))).set _⟩
  · rw [show kidX p xs xb n L x i = kidX p xs xb n L x0 i from (if_neg e).trans (if_neg e).symm, show kidY p xs xb n L y i = kidY p xs xb n L y0 i from (if_neg e).trans (if_neg e).symm]
    exact ⟨(h1.other _ (Or.inr (by omega))).other _ (Or.inr (by omega)), (h2.other _ (Or.inr (by omega))).other _ (Or.inr (by omega))⟩
theorem some_iff {f g : Nat → Int} : (∃ i, i < 8 ∧ ¬ Nil (f i) (g i)) ↔ ¬ AllNil f g := by
  constructor
  · rintro ⟨i, hi, h⟩ hA
    exact h (hA i hi)
  · intro h
    apply Classical.byContradiction
    intro hx
    exact h fun i hi => Classical.byContradiction fun hn => hx ⟨i, hi, hn⟩

set_option maxRecDepth 20000 in
set_option maxHeartbeats 4000000 in
theorem specTreeTrim_any (v0 v1 : Value) (lo hi : Nat) (p : PoolD) (xs xb page b : Int) (w : World) (h1 : PoolAt w lo hi v0 v1 p) :
    Calls Try.prog 30 #[.agg #[v0, v1], .agg #[.int .i64 xs, .int .i64 xb], .int .i64 page, .int .i64 b] w (NewTree (trimT p xs xb page b) w) := by
  have Hp := hideT h1
  obtain ⟨a, c, a', c', rfl, rfl⟩ := h1.form
  clear h1
  have hq : ∀ n : Nat, (n : Int).tdiv 8 = ((n / 8 : Nat) : Int) := fun n => (Int.ofNat_tdiv n 8).symm
  have hr : ∀ n : Nat, (n : Int).tmod 8 = ((n % 8 : Nat) : Int) := fun n => (Int.ofNat_tmod n 8).symm
  have hst := startT w (.slice a p.n c) (.slice a' p.hn c') (.int .i64 xs) (.int .i64 xb) 26 33 50
  go_enter Try.func30, Try.ntmps30
  go_wp2_with fail
  generalize ((w.alloc (.cells #[.slice a p.n c, .slice a' p.hn c'] 26)).alloc (.cells #[.int .i64 xs, .int .i64 xb] 33)).alloc (.cells #[.slice none 0 0, .slice none 0 0, .int .i64 0, .int .i64 0, .slice none 0 0, .int .i64 0] 50) = W at hst ⊢
  obtain ⟨hB, hX, hR, hba, hz⟩ := hst
  refine (specTreeRight_any _ _ lo hi p xs xb W (Hp.out.below hba)).mono ?_
  rintro e w1 ⟨⟨t, rfl, ht⟩, hb1⟩
  have HB1 := hideT (hB.below hb1)
  have HX1 := hideT (hX.below hb1)
  have HR1 := hideT (hR.below hb1)
  have hB1 := below_next hba hb1
  have hz1 : w.heap.size + 3 ≤ w1.heap.size := by have := hb1.size; omega
  clear hB hX hR hba hb1 hz
  by_cases hRt : TreeR p xs xb
  · have HRt := hideT hRt
    obtain rfl : t = true := ht.2 hRt
    clear ht hRt
    obtain ⟨⟨y0, y1⟩, ⟨y2, y3⟩⟩ := HX1.out
    obtain ⟨⟨x0, x1⟩, ⟨x2, x3⟩⟩ := HB1.out
    go_wp2_with fail
    refine (l02Born_any _ _ lo hi p xs xb b w1 (Hp.out.below hB1) HRt.out).mono ?_
    rintro e w2 ⟨⟨t, rfl, ht⟩, hb2⟩
    have HB2 := hideT (HB1.out.below hb2)
    have HX2 := hideT (HX1.out.below hb2)
    have HR2 := hideT (HR1.out.below hb2)
    have hB2 := below_next hB1 hb2
    have hz2 : w.heap.size + 3 ≤ w2.heap.size := by have := hb2.size; omega
    clear hb2 hB1 HB1 HX1 HR1 hz1 y0 y1 y2 y3 x0 x1 x2 x3
    by_cases hBo : BornOk xb b
    · have HTB := hideT (And.intro HRt.out hBo)
      obtain rfl : t = true := ht.2 hBo
      clear ht hBo
      by_cases hN : PageNo page
      · have HNo := hideT hN
        obtain ⟨n, rfl⟩ := Int.eq_ofNat_of_zero_le hN.1
        have hn64 : n < 64 := by have := hN.2; omega
        have hq8 : ((n / 8 : Nat) : Int) < 8 := by omega
        have hr8 : ((n % 8 : Nat) : Int) < 8 := by omega
        have hn' : (n : Int) < 64 := by omega
        have hm0 : 0 ≤ (n : Int) % 8 := by omega
        have hm8 : (n : Int) % 8 < 8 := by omega
        have hmt : ((n : Int) % 8).toNat = n % 8 := by omega
        clear hN
        obtain ⟨⟨x0, x1⟩, ⟨x2, x3⟩⟩ := HB2.out
        obtain ⟨⟨y0, y1⟩, ⟨y2, y3⟩⟩ := HX2.out
        go_wp2_with (first | (go_at_call 75; refine (l02Number_any _ _).mono ?_; rintro e w9 ⟨⟨t2, rfl, ht2⟩, rfl⟩; obtain rfl : t2 = true := ht2.2 HNo.out; clear ht2) | fail)
        refine (l02Path_any _ _ lo hi p xs xb n w9 (Hp.out.below hB2) HRt.out hn64).mono ?_
        rintro e w3 ⟨rfl, hb3⟩
        have b61 := below_alloc w3 (.cells #[.int .i64 (pageS p xs xb n), .int .i64 (pageB p xs xb n)] 33)
        have b62 := below_alloc (w3.alloc (.cells #[.int .i64 (pageS p xs xb n), .int .i64 (pageB p xs xb n)] 33)) (.cells #[.int .i64 (nodeS p xs xb n), .int .i64 (nodeB p xs xb n)] 33)
        have hC4 := below_next hb3 (below_next b61 b62)
        have HP4 := hideT ((Box2.new w3 (.int .i64 (pageS p xs xb n)) (.int .i64 (pageB p xs xb n)) 33).below b62)
        have hN4 := Box2.new (w3.alloc (.cells #[.int .i64 (pageS p xs xb n), .int .i64 (pageB p xs xb n)] 33)) (.int .i64 (nodeS p xs xb n)) (.int .i64 (nodeB p xs xb n)) 33
        rw [World.size_alloc] at hN4
        have HN4 := hideT hN4
        have HB4 := hideT (HB2.out.below hC4)
        have HX4 := hideT (HX2.out.below hC4)
        have HR4 := hideT (HR2.out.below hC4)
        have hB4 := below_next hB2 hC4
        have hz3 : w.heap.size + 3 ≤ w3.heap.size := by have := hb3.size; omega
        have hz4 : ((w3.alloc (.cells #[.int .i64 (pageS p xs xb n), .int .i64 (pageB p xs xb n)] 33)).alloc (.cells #[.int .i64 (nodeS p xs xb n), .int .i64 (nodeB p xs xb n)] 33)).heap.size = w3.heap.size + 2 := by rw [World.size_alloc, World.size_alloc]
        clear b61 b62 hC4 hN4 HB2 HX2 HR2 hB2 hb3 x0 x1 x2 x3 y0 y1 y2 y3
        go_upto_region 6 with fail
        generalize (w3.alloc (.cells #[.int .i64 (pageS p xs xb n), .int .i64 (pageB p xs xb n)] 33)).alloc (.cells #[.int .i64 (nodeS p xs xb n), .int .i64 (nodeB p xs xb n)] 33) = w4 at HP4 HN4 HB4 HX4 HR4 hB4 hz4 ⊢
        generalize w3.heap.size = T9 at HP4 HN4 hz3 hz4 ⊢
        obtain ⟨⟨x0, x1⟩, ⟨x2, x3⟩⟩ := HP4.out
        go_wp2_with fail
        refine (l01None_any (pageS p xs xb n) (pageB p xs xb n) w4).mono ?_
        rintro e w5 ⟨⟨t, rfl, ht⟩, hb5⟩
        have HP5 := hideT (HP4.out.below hb5)
        have HN5 := hideT (HN4.out.below hb5)
        have HB5 := hideT (HB4.out.below hb5)
        have HX5 := hideT (HX4.out.below hb5)
        have HR5 := hideT (HR4.out.below hb5)
        have hB5 := below_next hB4 hb5
        have hz5 : T9 + 2 ≤ w5.heap.size := by have := hb5.size; omega
        clear hb5 x0 x1 x2 x3 HP4 HN4 HB4 HX4 HR4 hB4 hz4
        by_cases hnl : Nil (pageS p xs xb n) (pageB p xs xb n)
        · obtain rfl : t = true := ht.2 hnl
          have HEl := hideT (trim_none (page := (n : Int)) HTB.out HNo.out hnl)
          clear ht hnl
          obtain ⟨⟨r0, r1⟩, ⟨r2, r3⟩, ⟨r4, r5⟩, ⟨r6, r7⟩, ⟨r8, r9⟩, ⟨r10, r11⟩⟩ := HR5.out
          try go_wp2
          have HR8 := HR5.out.put (.slice none 0 0) (.slice none 0 0) (.int .i64 0) (.int .i64 0) (.slice none 0 0) (.int .i64 4)
          have hpr := err_ret (R := w.heap.size + 1 + 1) (c := 4) (by omega) hB5
          rw [HEl.out]
          exact bodyPost_ret (v := .agg #[.slice none 0 0, .slice none 0 0, .int .i64 0, .int .i64 0, .slice none 0 0, .int .i64 4]) (by simp [results, Try.results30, go_sem, HR8.1.1, HR8.2.1.1, HR8.2.2.1.1, HR8.2.2.2.1.1, HR8.2.2.2.2.1.1, HR8.2.2.2.2.2.1]) rfl hpr
        · obtain rfl : t = false := bool_no ht hnl
          have HE := hideT (trim_lay (page := (n : Int)) HTB.out HNo.out hnl)
          have HEl : Hid (trimT p xs xb (n : Int) b = layP p xs xb n b ⟨p, 0, 0, 0⟩) := HE.out
          clear ht hnl HE
          obtain ⟨⟨x0, x1⟩, ⟨x2, x3⟩⟩ := HB5.out
          go_wp2_with fail
          refine (l01Copy_any _ _ lo hi p w5 (Hp.out.below hB5) (by have := right_small HRt.out.1; omega)).mono ?_
          rintro e w6 ⟨s0, s1, rfl, ho6, hb6⟩
          obtain ⟨a5, c5, a6, c6, rfl, rfl⟩ := ho6.form
          have hal6 := below_alloc w6 (.cells #[.slice a5 p.n c5, .slice a6 p.hn c6] 26)
          have hC6 := below_next hb6 hal6
          have hcc5 : p.n ≤ c5 := by obtain ⟨_, _, _, _, ⟨_, _, _, e, h, _⟩, _⟩ := ho6; simp only [Value.slice.injEq, true_and] at e; omega
          have Ho7 := hideT ((ho6.below hal6).isIn (S := fun k => w5.heap.size ≤ k ∧ k < w6.heap.size) (fun k h1 h2 => ⟨h1, h2⟩))
          have HO7 := hideT (Box2.new w6 (.slice a5 p.n c5) (.slice a6 p.hn c6) 26)
          have HP7 := hideT (HP5.out.below hC6)
          have HN7 := hideT (HN5.out.below hC6)
          have HB7 := hideT (HB5.out.below hC6)
          have HX7 := hideT (HX5.out.below hC6)
          have HR7 := hideT (HR5.out.below hC6)
          have hB7 := below_next hB5 hC6
          have hz6 := hb6.size
          have hz7 : (w6.alloc (.cells #[.slice a5 p.n c5, .slice a6 p.hn c6] 26)).heap.size = w6.heap.size + 1 := World.size_alloc _ _
          clear x0 x1 x2 x3 HP5 HN5 HB5 HX5 HR5 hb6 hal6 hC6 ho6
          go_upto_region 9 with fail
          generalize w6.alloc (.cells #[.slice a5 p.n c5, .slice a6 p.hn c6] 26) = w7 at Ho7 HO7 HP7 HN7 HB7 HX7 HR7 hB7 hz7 ⊢
          obtain ⟨⟨x0, x1⟩, ⟨x2, x3⟩⟩ := HB7.out
          obtain ⟨⟨y0, y1⟩, ⟨y2, y3⟩⟩ := HN7.out
          go_wp2_with fail
          refine (l02Kids_any _ _ lo hi p (nodeS p xs xb n) (nodeB p xs xb n) w7 (Hp.out.below hB7) (node_ok HRt.out (by omega))).mono ?_
          rintro e w8 ⟨g1, cp1, rfl, hrow1, hb8⟩
          have Hrow1 := hideT hrow1
          obtain ⟨hg1, hg1', hcp1, hcell1⟩ := row_cells hrow1
          have Ho8 := hideT (Ho7.out.below hb8)
          have HO8 := hideT (HO7.out.below hb8)
          have HP8 := hideT (HP7.out.below hb8)
          have HN8 := hideT (HN7.out.below hb8)
          have HB8 := hideT (HB7.out.below hb8)
          have HX8 := hideT (HX7.out.below hb8)
          have HR8 := hideT (HR7.out.below hb8)
          have hB8 := below_next hB7 hb8
          clear hrow1 hb8 x0 x1 x2 x3 y0 y1 y2 y3 Ho7 HO7 HP7 HN7 HB7 HX7 HR7 hB7
          obtain ⟨⟨q0, q1⟩, ⟨q2, q3⟩⟩ := hcell1 (n % 8) (by omega)
          clear hcell1
          go_upto_region 11 with fail
          have t9 := (Turned.put w8 g1 (n % 8 * 2) (.int .i64 0)).trans (Turned.put _ g1 (n % 8 * 2 + 1) (.int .i64 0))
          have HK9 := hideT (row_set Hrow1.out (show n % 8 < 8 by omega) 0 0)
          have HO9 := hideT (HO8.out.turned t9 (by omega))
          have Ho9 := hideT (Ho8.out.turned t9 (fun k hk => by omega))
          have HP9 := hideT (HP8.out.turned t9 (by omega))
          have HN9 := hideT (HN8.out.turned t9 (by omega))
          have HB9 := hideT (HB8.out.turned t9 (by omega))
          have HX9 := hideT (HX8.out.turned t9 (by omega))
          have HR9 := hideT (HR8.out.turned t9 (by omega))
          have hB9 := hB8.trans (t9.below (B := w.heap.size) hB8.size (by intro k hk; omega))
          have hz9 := t9.size
          clear q0 q1 q2 q3 Ho8 HO8 HP8 HN8 HB8 HX8 HR8 hB8 t9 Hrow1
          generalize (w8.setCell ⟨g1, n % 8 * 2, none⟩ (.int .i64 0)).setCell ⟨g1, n % 8 * 2 + 1, none⟩ (.int .i64 0) = w10 at HK9 HO9 Ho9 HP9 HN9 HB9 HX9 HR9 hB9 hz9 ⊢
          obtain ⟨⟨x0, x1⟩, ⟨x2, x3⟩⟩ := HB9.out
          obtain ⟨⟨y0, y1⟩, ⟨y2, y3⟩⟩ := HX9.out
          go_wp2_with fail
          refine (l02Kids_any _ _ lo hi p xs xb w10 (Hp.out.below hB9) (root_ok HRt.out)).mono ?_
          rintro e w11 ⟨g2, cp2, rfl, hrow2, hb11⟩
          have Hrow2 := hideT hrow2
          obtain ⟨hg2, hg2', hcp2, hcell2⟩ := row_cells hrow2
          have HK11 := hideT (HK9.out.below hb11)
          have Ho11 := hideT (Ho9.out.below hb11)
          have HO11 := hideT (HO9.out.below hb11)
          have HP11 := hideT (HP9.out.below hb11)
          have HN11 := hideT (HN9.out.below hb11)
          have HX11 := hideT (HX9.out.below hb11)
          have HR11 := hideT (HR9.out.below hb11)
          have hB11 := below_next hB9 hb11
          clear hrow2 hb11 x0 x1 x2 x3 y0 y1 y2 y3 HK9 Ho9 HO9 HP9 HN9 HB9 HX9 HR9 hB9
          obtain ⟨⟨q0, q1⟩, ⟨q2, q3⟩⟩ := hcell2 (n / 8) (by omega)
          clear hcell2
          go_upto_region 13 with fail
          have t12 := (Turned.put w11 g2 (n / 8 * 2) (.int .i64 0)).trans (Turned.put _ g2 (n / 8 * 2 + 1) (.int .i64 0))
          have HT12 := hideT (row_set Hrow2.out (show n / 8 < 8 by omega) 0 0)
          have HK12 : Hid (PtrsOwn ((w11.setCell ⟨g2, n / 8 * 2, none⟩ (.int .i64 0)).setCell ⟨g2, n / 8 * 2 + 1, none⟩ (.int .i64 0)) g1 (.slice (some ⟨g1, 0, none⟩) 8 cp1) 8 (kidX p xs xb n 1 0) (kidY p xs xb n 1 0)) := HK11.out.turned t12 (fun _ => by omega)
          have HO12 := hideT (HO11.out.turned t12 (by omega))
          have Ho12 := hideT (Ho11.out.turned t12 (fun k hk => by omega))
          have HP12 := hideT (HP11.out.turned t12 (by omega))
          have HN12 := hideT (HN11.out.turned t12 (by omega))
          have HX12 := hideT (HX11.out.turned t12 (by omega))
          have HR12 := hideT (HR11.out.turned t12 (by omega))
          have hB12 := hB11.trans (t12.below (B := w.heap.size) hB11.size (by intro k hk; omega))
          have hz12 := t12.size
          clear q0 q1 q2 q3 HK11 Ho11 HO11 HP11 HN11 HX11 HR11 hB11 t12 Hrow2
          generalize (w11.setCell ⟨g2, n / 8 * 2, none⟩ (.int .i64 0)).setCell ⟨g2, n / 8 * 2 + 1, none⟩ (.int .i64 0) = w12 at HT12 HK12 HO12 Ho12 HP12 HN12 HX12 HR12 hB12 hz12 ⊢
          have hgg : g1 < g2 := by omega
          go_wp2_with fail
          refine (l02Some_any _ 8 0 (g1 + 1) (kidX p xs xb n 1 0) (kidY p xs xb n 1 0) w12 (HK12.out.at (fun _ => ⟨Nat.zero_le _, by omega⟩)) (by omega)).mono ?_
          rintro e w13 ⟨⟨t, rfl, ht⟩, hb13⟩
          have HK13 := hideT (HK12.out.below hb13)
          have HT13 : Hid (PtrsOwn w13 g2 (.slice (some ⟨g2, 0, none⟩) 8 cp2) 8 (kidX p xs xb n 0 0) (kidY p xs xb n 0 0)) := HT12.out.below hb13
          have HO13 := hideT (HO12.out.below hb13)
          have Ho13 := hideT (Ho12.out.below hb13)
          have HP13 := hideT (HP12.out.below hb13)
          have HN13 := hideT (HN12.out.below hb13)
          have HX13 := hideT (HX12.out.below hb13)
          have HR13 := hideT (HR12.out.below hb13)
          have hB13 := below_next hB12 hb13
          have hz13 := hb13.size
          clear hb13 HK12 HT12 HO12 Ho12 HP12 HN12 HX12 HR12 hB12
          have HTb : Hid (Right p) := HRt.out.1
          by_cases hA : AllNil (kidX p xs xb n 1 0) (kidY p xs xb n 1 0)
          · obtain rfl : t = false := bool_no ht (fun h => (some_iff.1 h) hA)
            have HL1 := hideT (low0 (b := b) hA)
            have HRq : Hid (Right p) := HRt.out.1
            have HFq : Hid (Fits p (slotK (kidX p xs xb n 0 0) (kidY p xs xb n 0 0) b)) := fits_kid HRt.out hn64 (by omega) HTB.out.2 (fun s t h => h) (Or.inl ⟨rfl, rfl⟩)
            have HOt := HO13
            have Hot := Ho13
            have HTt := HT13
            have HPt := HP13
            have HNt := HN13
            have HXt := HX13
            have HRr := HR13
            have hBt := hB13
            have hzt : g2 < w13.heap.size := by omega
            clear ht hA HO13 Ho13 HT13 HP13 HN13 HX13 HR13 hB13 HK13
            have hal := below_alloc w13 (.cells #[.int .i64 0, .int .i64 0] 33)
            have HVv := hideT (Box2.new w13 (.int .i64 0) (.int .i64 0) 33)
            have HOv := hideT (HOt.out.below hal)
            have Hov := hideT (Hot.out.below hal)
            have HTv := hideT (HTt.out.below hal)
            have HPv := hideT (HPt.out.below hal)
            have HNv := hideT (HNt.out.below hal)
            have HXv := hideT (HXt.out.below hal)
            have HRv := hideT (HRr.out.below hal)
            have hBv := below_next hBt hal
            have hzv : (w13.alloc (.cells #[.int .i64 0, .int .i64 0] 33)).heap.size = w13.heap.size + 1 := World.size_alloc _ _
            clear hal HOt Hot HTt HPt HNt HXt HRr hBt
            go_upto_region 17 with fail
            generalize w13.alloc (.cells #[.int .i64 0, .int .i64 0] 33) = wv at HVv HOv Hov HTv HPv HNv HXv HRv hBv hzv ⊢
            generalize w13.heap.size = T16 at HVv hzt hzv ⊢
            go_wp2_with fail
            refine (l02Some_any _ 8 0 (g2 + 1) (kidX p xs xb n 0 0) (kidY p xs xb n 0 0) wv (HTv.out.at (fun _ => ⟨Nat.zero_le _, by omega⟩)) (by omega)).mono ?_
            rintro e wu ⟨⟨t, rfl, ht⟩, hbu⟩
            have HVu := hideT (HVv.out.below hbu)
            have HOu := hideT (HOv.out.below hbu)
            have Hou := hideT (Hov.out.below hbu)
            have HTu := hideT (HTv.out.below hbu)
            have HPu := hideT (HPv.out.below hbu)
            have HNu := hideT (HNv.out.below hbu)
            have HXu := hideT (HXv.out.below hbu)
            have HRu := hideT (HRv.out.below hbu)
            have hBu := below_next hBv hbu
            have hzu : T16 + 1 ≤ wu.heap.size := by have := hbu.size; omega
            clear hbu HVv HOv Hov HTv HPv HNv HXv HRv hBv hzv
            by_cases hE : AllNil (kidX p xs xb n 0 0) (kidY p xs xb n 0 0)
            · obtain rfl : t = false := bool_no ht (fun h => (some_iff.1 h) hE)
              have HEe := hideT (HEl.out.trans (trim_end HL1.out hE))
              have HPO : Hid (PoolOwn wu w5.heap.size wu.heap.size (.slice a5 p.n c5) (.slice a6 p.hn c6) p) := Hou.out.own (fun k hk => by omega)
              clear ht hE
              go_upto_region 21 with fail
              obtain ⟨⟨x0, x1⟩, ⟨x2, x3⟩⟩ := HOu.out
              obtain ⟨⟨y0, y1⟩, ⟨y2, y3⟩⟩ := HVu.out
              obtain ⟨⟨z0, z1⟩, ⟨z2, z3⟩⟩ := HPu.out
              obtain ⟨⟨u0, u1⟩, ⟨u2, u3⟩⟩ := HNu.out
              obtain ⟨⟨v0, v1⟩, ⟨v2, v3⟩⟩ := HXu.out
              have n0 : w.heap.size + 1 + 1 ≠ w6.heap.size := by omega
              have n1 : w.heap.size + 1 + 1 ≠ T16 := by omega
              have n2 : w.heap.size + 1 + 1 ≠ T9 := by omega
              have n3 : w.heap.size + 1 ≠ T9 := by omega
              have n4 : w.heap.size + 1 + 1 ≠ w.heap.size + 1 := by omega
              have m0 : wu.heap.size ≠ w6.heap.size := by omega
              have m1 : wu.heap.size ≠ T16 := by omega
              have m2 : wu.heap.size ≠ T9 := by omega
              have m3 : wu.heap.size ≠ T9 + 1 := by omega
              have m4 : wu.heap.size ≠ w.heap.size + 1 := by omega
              have HL := hideT (old_row wu p xs xb n 33)
              have HbL := hideT (below_alloc wu (.cells #[.int .i64 (pageS p xs xb n), .int .i64 (pageB p xs xb n), .int .i64 (nodeS p xs xb n), .int .i64 (nodeB p xs xb n), .int .i64 xs, .int .i64 xb] 33))
              go_region_held3 (fun w' => w'.cell? ⟨w6.heap.size, 0, none⟩ = some (.slice a5 p.n c5) ∧ w'.cell? ⟨w6.heap.size, 1, none⟩ = some (.slice a6 p.hn c6) ∧ w'.cell? ⟨T16, 0, none⟩ = some (.int .i64 0) ∧ w'.cell? ⟨T16, 1, none⟩ = some (.int .i64 0) ∧ w'.cell? ⟨T9, 0, none⟩ = some (.int .i64 (pageS p xs xb n)) ∧ w'.cell? ⟨T9, 1, none⟩ = some (.int .i64 (pageB p xs xb n)) ∧ w'.cell? ⟨T9 + 1, 0, none⟩ = some (.int .i64 (nodeS p xs xb n)) ∧ w'.cell? ⟨T9 + 1, 1, none⟩ = some (.int .i64 (nodeB p xs xb n)) ∧ w'.cell? ⟨w.heap.size + 1, 0, none⟩ = some (.int .i64 xs) ∧ w'.cell? ⟨w.heap.size + 1, 1, none⟩ = some (.int .i64 xb)) (go_keep)
                (first
                  | (go_at_call 79; refine (l02Old_any _ 3 0 (wu.heap.size + 1) (fun i => metS p xs xb n (2 - i)) (fun i => metB p xs xb n (2 - i)) _ ?_ (by omega)).mono ?_; (exact HL.out.below (Below.refl _ _).drew); rintro e wI ⟨v', rfl, hrI, hbI⟩; obtain ⟨oa, oc, rfl, _⟩ := owns_form hrI; have hbI' := below_next HbL.out (below_undrew hbI); obtain ⟨⟨x0, _⟩, ⟨x2, _⟩⟩ := HOu.out.below hbI'; obtain ⟨⟨y0, _⟩, ⟨y2, _⟩⟩ := HVu.out.below hbI'; obtain ⟨⟨z0, _⟩, ⟨z2, _⟩⟩ := HPu.out.below hbI'; obtain ⟨⟨u0, _⟩, ⟨u2, _⟩⟩ := HNu.out.below hbI'; obtain ⟨⟨v0, _⟩, ⟨v2, _⟩⟩ := HXu.out.below hbI'; obtain ⟨⟨r0, r1⟩, ⟨r2, r3⟩, ⟨r4, r5⟩, ⟨r6, r7⟩, ⟨r8, r9⟩, ⟨r10, r11⟩⟩ := HRu.out.below hbI'))
              have HRI := hideT (HRu.out.below hbI')
              have HoI := hideT (HPO.out.below hbI')
              have hBI := below_next hBu hbI'
              have hbL : wu.heap.size ≤ wI.heap.size := hbI'.size
              have HrI : Hid (RowL wI (wu.heap.size + 1) (.slice oa (oldW p xs xb n 3).length oc) (oldW p xs xb n 3)) := hrI.mono (by show wu.heap.size + 1 ≤ (World.alloc _ _).heap.size; rw [World.size_alloc]; omega)
              rw [show kidsUp (fun i => metS p xs xb n (2 - i)) (fun i => metB p xs xb n (2 - i)) 3 = oldW p xs xb n 3 from rfl]
              clear hbI hbI' hrI x0 x2 y0 y2 z0 z2 u0 u2 v0 v2 r0 r1 r2 r3 r4 r5 r6 r7 r8 r9 r10 r11
              have HR8 := HRI.out.put (.slice a5 p.n c5) (.slice a6 p.hn c6) (.int .i64 0) (.int .i64 0) (.slice oa (oldW p xs xb n 3).length oc) (.int .i64 0)
              have htp := Turned.put6 wI (w.heap.size + 1 + 1) (.slice a5 p.n c5) (.slice a6 p.hn c6) (.int .i64 0) (.int .i64 0) (.slice oa (oldW p xs xb n 3).length oc) (.int .i64 0)
              go_wp2
              rw [HEe.out]
              exact bodyPost_ret (v := .agg #[.slice a5 p.n c5, .slice a6 p.hn c6, .int .i64 0, .int .i64 0, .slice oa (oldW p xs xb n 3).length oc, .int .i64 0]) (by simp [results, Try.results30, go_sem, HR8.1.1, HR8.2.1.1, HR8.2.2.1.1, HR8.2.2.2.1.1, HR8.2.2.2.2.1.1, HR8.2.2.2.2.2.1]) rfl ⟨_, _, _, w5.heap.size, wu.heap.size, rfl, by omega, Nat.le_trans (show wu.heap.size ≤ wI.heap.size by omega) htp.size, HoI.out.turned htp (by intro k hk; omega), ((((((HrI.out.put (by omega) _).put (by omega) _).put (by omega) _).put (by omega) _).put (by omega) _).put (by omega) _).mono (by omega), fun k hk => Or.inr (by have := (HrI.out.lt hk).1; omega), hBI.trans (htp.below (B := w.heap.size) hBI.size (by intro k hk; omega))⟩
            · obtain rfl : t = true := ht.2 (some_iff.2 hE)
              have HnE := hideT hE
              clear ht hE
              go_wp2_with fail
              refine (l01Take_in w6.heap.size g2 _ a5 c5 (.slice a6 p.hn c6) (.slice (some ⟨g2, 0, none⟩) 8 cp2) p (slotK (kidX p xs xb n 0 0) (kidY p xs xb n 0 0) b) wu HOu.out (by omega) (fun k hk => by omega) hcc5 Hou.out HTu.out (fun _ => ⟨by omega, by omega⟩) (by show (0 : Nat) ≤ maxLen; exact Nat.zero_le _)).mono ?_
              rintro e wx (⟨i2, hF2, hex, hOx, hox, htx⟩ | ⟨hno, hex, hbx⟩)
              · have hex' : e = .returned (.tuple #[.agg #[.int .i64 (i2 : Int), .int .i64 b], .bool true]) := hex
                subst hex'
                clear hex
                have HEe := hideT (HEl.out.trans (trim_top HL1.out HnE.out HRq.out HFq.out hF2))
                have HPI := hideT hox
                have HOx : Hid (Box2 wx w6.heap.size (.slice a5 p.n c5) (.slice a6 p.hn c6)) := hOx
                have HVx := hideT (HVu.out.turned htx (by omega))
                have HPx := hideT (HPu.out.turned htx (by omega))
                have HNx := hideT (HNu.out.turned htx (by omega))
                have HXx := hideT (HXu.out.turned htx (by omega))
                have HRx := hideT (HRu.out.turned htx (by omega))
                have hBx := hBu.trans (htx.below (B := w.heap.size) hBu.size (by intro k hk; omega))
                have hzx : T16 + 1 ≤ wx.heap.size := by have := htx.size; omega
                clear hF2 hOx hox htx HVu HOu Hou HTu HPu HNu HXu HRu hBu
                have tY := two_put wx T16 (.int .i64 (i2 : Int)) (.int .i64 b)
                have HVy := hideT (HVx.out.put (.int .i64 (i2 : Int)) (.int .i64 b))
                have HOy := hideT (HOx.out.turned tY (by omega))
                have HPOy : Hid (PoolOwn ((wx.setCell ⟨T16, 0, none⟩ (.int .i64 (i2 : Int))).setCell ⟨T16, 1, none⟩ (.int .i64 b)) w5.heap.size wx.heap.size (.slice a5 p.n c5) (.slice a6 p.hn c6) (setS p i2 (slotK (kidX p xs xb n 0 0) (kidY p xs xb n 0 0) b))) := (HPI.out.turned tY (fun k hk => by omega)).own (fun k hk => by omega)
                have HPy := hideT (HPx.out.turned tY (by omega))
                have HNy := hideT (HNx.out.turned tY (by omega))
                have HXy := hideT (HXx.out.turned tY (by omega))
                have HRy := hideT (HRx.out.turned tY (by omega))
                have hBy := hBx.trans (tY.below (B := w.heap.size) hBx.size (by intro k hk; omega))
                have hzy : wx.heap.size ≤ ((wx.setCell ⟨T16, 0, none⟩ (.int .i64 (i2 : Int))).setCell ⟨T16, 1, none⟩ (.int .i64 b)).heap.size := tY.size
                obtain ⟨⟨x0, x1⟩, ⟨x2, x3⟩⟩ := HVx.out
                clear HOx HPI HPx HNx HXx HRx hBx tY HVx
                go_upto_region 21 with fail
                clear x0 x1 x2 x3
                generalize (wx.setCell ⟨T16, 0, none⟩ (.int .i64 (i2 : Int))).setCell ⟨T16, 1, none⟩ (.int .i64 b) = wy at HVy HOy HPOy HPy HNy HXy HRy hBy hzy ⊢
                obtain ⟨⟨x0, x1⟩, ⟨x2, x3⟩⟩ := HOy.out
                obtain ⟨⟨y0, y1⟩, ⟨y2, y3⟩⟩ := HVy.out
                obtain ⟨⟨z0, z1⟩, ⟨z2, z3⟩⟩ := HPy.out
                obtain ⟨⟨u0, u1⟩, ⟨u2, u3⟩⟩ := HNy.out
                obtain ⟨⟨v0, v1⟩, ⟨v2, v3⟩⟩ := HXy.out
                have n0 : w.heap.size + 1 + 1 ≠ w6.heap.size := by omega
                have n1 : w.heap.size + 1 + 1 ≠ T16 := by omega
                have n2 : w.heap.size + 1 + 1 ≠ T9 := by omega
                have n3 : w.heap.size + 1 ≠ T9 := by omega
                have n4 : w.heap.size + 1 + 1 ≠ w.heap.size + 1 := by omega
                have m0 : wy.heap.size ≠ w6.heap.size := by omega
                have m1 : wy.heap.size ≠ T16 := by omega
                have m2 : wy.heap.size ≠ T9 := by omega
                have m3 : wy.heap.size ≠ T9 + 1 := by omega
                have m4 : wy.heap.size ≠ w.heap.size + 1 := by omega
                have HL := hideT (old_row wy p xs xb n 33)
                have HbL := hideT (below_alloc wy (.cells #[.int .i64 (pageS p xs xb n), .int .i64 (pageB p xs xb n), .int .i64 (nodeS p xs xb n), .int .i64 (nodeB p xs xb n), .int .i64 xs, .int .i64 xb] 33))
                go_region_held3 (fun w' => w'.cell? ⟨w6.heap.size, 0, none⟩ = some (.slice a5 p.n c5) ∧ w'.cell? ⟨w6.heap.size, 1, none⟩ = some (.slice a6 p.hn c6) ∧ w'.cell? ⟨T16, 0, none⟩ = some (.int .i64 (i2 : Int)) ∧ w'.cell? ⟨T16, 1, none⟩ = some (.int .i64 b) ∧ w'.cell? ⟨T9, 0, none⟩ = some (.int .i64 (pageS p xs xb n)) ∧ w'.cell? ⟨T9, 1, none⟩ = some (.int .i64 (pageB p xs xb n)) ∧ w'.cell? ⟨T9 + 1, 0, none⟩ = some (.int .i64 (nodeS p xs xb n)) ∧ w'.cell? ⟨T9 + 1, 1, none⟩ = some (.int .i64 (nodeB p xs xb n)) ∧ w'.cell? ⟨w.heap.size + 1, 0, none⟩ = some (.int .i64 xs) ∧ w'.cell? ⟨w.heap.size + 1, 1, none⟩ = some (.int .i64 xb)) (go_keep)
                  (first
                    | (go_at_call 79; refine (l02Old_any _ 3 0 (wy.heap.size + 1) (fun i => metS p xs xb n (2 - i)) (fun i => metB p xs xb n (2 - i)) _ ?_ (by omega)).mono ?_; (exact HL.out.below (Below.refl _ _).drew); rintro e wI ⟨v', rfl, hrI, hbI⟩; obtain ⟨oa, oc, rfl, _⟩ := owns_form hrI; have hbI' := below_next HbL.out (below_undrew hbI); obtain ⟨⟨x0, _⟩, ⟨x2, _⟩⟩ := HOy.out.below hbI'; obtain ⟨⟨y0, _⟩, ⟨y2, _⟩⟩ := HVy.out.below hbI'; obtain ⟨⟨z0, _⟩, ⟨z2, _⟩⟩ := HPy.out.below hbI'; obtain ⟨⟨u0, _⟩, ⟨u2, _⟩⟩ := HNy.out.below hbI'; obtain ⟨⟨v0, _⟩, ⟨v2, _⟩⟩ := HXy.out.below hbI'; obtain ⟨⟨r0, r1⟩, ⟨r2, r3⟩, ⟨r4, r5⟩, ⟨r6, r7⟩, ⟨r8, r9⟩, ⟨r10, r11⟩⟩ := HRy.out.below hbI'))
                have HRI := hideT (HRy.out.below hbI')
                have HoI := hideT (HPOy.out.below hbI')
                have hBI := below_next hBy hbI'
                have hbL : wy.heap.size ≤ wI.heap.size := hbI'.size
                have HrI : Hid (RowL wI (wy.heap.size + 1) (.slice oa (oldW p xs xb n 3).length oc) (oldW p xs xb n 3)) := hrI.mono (by show wy.heap.size + 1 ≤ (World.alloc _ _).heap.size; rw [World.size_alloc]; omega)
                rw [show kidsUp (fun i => metS p xs xb n (2 - i)) (fun i => metB p xs xb n (2 - i)) 3 = oldW p xs xb n 3 from rfl]
                clear hbI hbI' hrI x0 x2 y0 y2 z0 z2 u0 u2 v0 v2 r0 r1 r2 r3 r4 r5 r6 r7 r8 r9 r10 r11
                have HR8 := HRI.out.put (.slice a5 p.n c5) (.slice a6 p.hn c6) (.int .i64 (i2 : Int)) (.int .i64 b) (.slice oa (oldW p xs xb n 3).length oc) (.int .i64 0)
                have htp := Turned.put6 wI (w.heap.size + 1 + 1) (.slice a5 p.n c5) (.slice a6 p.hn c6) (.int .i64 (i2 : Int)) (.int .i64 b) (.slice oa (oldW p xs xb n 3).length oc) (.int .i64 0)
                go_wp2
                rw [HEe.out]
                exact bodyPost_ret (v := .agg #[.slice a5 p.n c5, .slice a6 p.hn c6, .int .i64 (i2 : Int), .int .i64 b, .slice oa (oldW p xs xb n 3).length oc, .int .i64 0]) (by simp [results, Try.results30, go_sem, HR8.1.1, HR8.2.1.1, HR8.2.2.1.1, HR8.2.2.2.1.1, HR8.2.2.2.2.1.1, HR8.2.2.2.2.2.1]) rfl ⟨_, _, _, w5.heap.size, wx.heap.size, rfl, by omega, Nat.le_trans (show wx.heap.size ≤ wI.heap.size by omega) htp.size, HoI.out.turned htp (by intro k hk; omega), ((((((HrI.out.put (by omega) _).put (by omega) _).put (by omega) _).put (by omega) _).put (by omega) _).put (by omega) _).mono (by omega), fun k hk => Or.inr (by have := (HrI.out.lt hk).1; omega), hBI.trans (htp.below (B := w.heap.size) hBI.size (by intro k hk; omega))⟩
              · have hex' : e = .returned (.tuple #[.agg #[.int .i64 0, .int .i64 0], .bool false]) := hex
                subst hex'
                clear hex
                have HEe := hideT (HEl.out.trans (trim_full HL1.out HnE.out HRq.out HFq.out hno))
                have HVx := hideT (HVu.out.below hbx)
                have HRx := hideT (HRu.out.below hbx)
                have hBx := below_next hBu hbx
                clear hno hbx HVu HOu Hou HTu HPu HNu HXu HRu hBu
                have tY := two_put wx T16 (.int .i64 0) (.int .i64 0)
                have HRy := hideT (HRx.out.turned tY (by omega))
                have hBy := hBx.trans (tY.below (B := w.heap.size) hBx.size (by intro k hk; omega))
                obtain ⟨⟨x0, x1⟩, ⟨x2, x3⟩⟩ := HVx.out
                clear HRx hBx tY HVx
                go_upto_region 20 with fail
                clear x0 x1 x2 x3
                generalize (wx.setCell ⟨T16, 0, none⟩ (.int .i64 0)).setCell ⟨T16, 1, none⟩ (.int .i64 0) = wy at HRy hBy ⊢
                obtain ⟨⟨r0, r1⟩, ⟨r2, r3⟩, ⟨r4, r5⟩, ⟨r6, r7⟩, ⟨r8, r9⟩, ⟨r10, r11⟩⟩ := HRy.out
                try go_wp2
                have HR8 := HRy.out.put (.slice none 0 0) (.slice none 0 0) (.int .i64 0) (.int .i64 0) (.slice none 0 0) (.int .i64 6)
                have hpr := err_ret (R := w.heap.size + 1 + 1) (c := 6) (by omega) hBy
                rw [HEe.out]
                exact bodyPost_ret (v := .agg #[.slice none 0 0, .slice none 0 0, .int .i64 0, .int .i64 0, .slice none 0 0, .int .i64 6]) (by simp [results, Try.results30, go_sem, HR8.1.1, HR8.2.1.1, HR8.2.2.1.1, HR8.2.2.2.1.1, HR8.2.2.2.2.1.1, HR8.2.2.2.2.2.1]) rfl hpr
          · obtain rfl : t = true := ht.2 (some_iff.2 hA)
            have HnA := hideT hA
            have HFl : Hid (Fits p (slotK (kidX p xs xb n 1 0) (kidY p xs xb n 1 0) b)) := fits_kid HRt.out hn64 (by omega) HTB.out.2 (fun s t h => h) (Or.inl ⟨rfl, rfl⟩)
            clear ht hA
            go_wp2_with fail
            refine (l01Take_in w6.heap.size g1 _ a5 c5 (.slice a6 p.hn c6) (.slice (some ⟨g1, 0, none⟩) 8 cp1) p (slotK (kidX p xs xb n 1 0) (kidY p xs xb n 1 0) b) w13 HO13.out (by omega) (fun k hk => by omega) hcc5 Ho13.out HK13.out (fun _ => ⟨by omega, by omega⟩) (by show (0 : Nat) ≤ maxLen; exact Nat.zero_le _)).mono ?_
            rintro e w14 (⟨i1, hF1, hex, hO14, ho14, ht14⟩ | ⟨hno, hex, hb14⟩)
            · have hex' : e = .returned (.tuple #[.agg #[.int .i64 (i1 : Int), .int .i64 b], .bool true]) := hex
              subst hex'
              clear hex
              have HL1 := hideT (low1 HRt.out hn64 HTB.out.2 HnA.out hF1)
              have HRq : Hid (Right (setS p i1 (slotK (kidX p xs xb n 1 0) (kidY p xs xb n 1 0) b))) := right_set HRt.out.1 hF1 HFl.out
              have HFq : Hid (Fits (setS p i1 (slotK (kidX p xs xb n 1 0) (kidY p xs xb n 1 0) b)) (slotK (kidX p xs xb n 0 (i1 : Int)) (kidY p xs xb n 0 b) b)) := fits_kid HRt.out hn64 (by omega) HTB.out.2 (fun s t h => points_set hF1.2.1 h) (Or.inr ⟨new_points (s := slotK (kidX p xs xb n 1 0) (kidY p xs xb n 1 0) b) hF1 HTB.out.2.1.1, Int.le_refl _⟩)
              have HO14 : Hid (Box2 w14 w6.heap.size (.slice a5 p.n c5) (.slice a6 p.hn c6)) := hO14
              have Ho14 : Hid (PoolIn w14 (fun k => (w5.heap.size ≤ k ∧ k < w6.heap.size) ∨ k = g1) (.slice a5 p.n c5) (.slice a6 p.hn c6) (setS p i1 (slotK (kidX p xs xb n 1 0) (kidY p xs xb n 1 0) b))) := ho14.mono (fun k hk => hk.imp id And.right)
              have HT14 := hideT (HT13.out.turned ht14 (fun _ => by omega))
              have HP14 := hideT (HP13.out.turned ht14 (by omega))
              have HN14 := hideT (HN13.out.turned ht14 (by omega))
              have HX14 := hideT (HX13.out.turned ht14 (by omega))
              have HR14 := hideT (HR13.out.turned ht14 (by omega))
              have hB14 := hB13.trans (ht14.below (B := w.heap.size) hB13.size (by intro k hk; omega))
              have hz14 : g2 < w14.heap.size := by have := ht14.size; omega
              clear hF1 hO14 ho14 ht14 HO13 Ho13 HT13 HP13 HN13 HX13 HR13 hB13 HK13
              obtain ⟨q0, q1⟩ := own_cell8 HT14.out (show n / 8 < 8 by omega)
              obtain ⟨⟨q2, q3⟩, ⟨q4, q5⟩⟩ := And.intro q0 q1
              go_upto_region 16 with fail
              clear q0 q1 q2 q3 q4 q5
              have t15 := (Turned.put w14 g2 (n / 8 * 2) (.int .i64 (i1 : Int))).trans (Turned.put _ g2 (n / 8 * 2 + 1) (.int .i64 b))
              have HTt : Hid (PtrsOwn ((w14.setCell ⟨g2, n / 8 * 2, none⟩ (.int .i64 (i1 : Int))).setCell ⟨g2, n / 8 * 2 + 1, none⟩ (.int .i64 b)) g2 (.slice (some ⟨g2, 0, none⟩) 8 cp2) 8 (kidX p xs xb n 0 (i1 : Int)) (kidY p xs xb n 0 b)) := own_set HT14.out (plc_lt hn64) _ _
              have HOt := hideT (HO14.out.turned t15 (by omega))
              have Hot := hideT (Ho14.out.turned t15 (fun k hk => by omega))
              have HPt := hideT (HP14.out.turned t15 (by omega))
              have HNt := hideT (HN14.out.turned t15 (by omega))
              have HXt := hideT (HX14.out.turned t15 (by omega))
              have HRr := hideT (HR14.out.turned t15 (by omega))
              have hBt := hB14.trans (t15.below (B := w.heap.size) hB14.size (by intro k hk; omega))
              have hzt : g2 < ((w14.setCell ⟨g2, n / 8 * 2, none⟩ (.int .i64 (i1 : Int))).setCell ⟨g2, n / 8 * 2 + 1, none⟩ (.int .i64 b)).heap.size := by have := t15.size; omega
              clear t15 HT14 HO14 Ho14 HP14 HN14 HX14 HR14 hB14
              generalize (w14.setCell ⟨g2, n / 8 * 2, none⟩ (.int .i64 (i1 : Int))).setCell ⟨g2, n / 8 * 2 + 1, none⟩ (.int .i64 b) = w15 at HTt HOt Hot HPt HNt HXt HRr hBt hzt ⊢
              have hal := below_alloc w15 (.cells #[.int .i64 0, .int .i64 0] 33)
              have HVv := hideT (Box2.new w15 (.int .i64 0) (.int .i64 0) 33)
              have HOv := hideT (HOt.out.below hal)
              have Hov := hideT (Hot.out.below hal)
              have HTv := hideT (HTt.out.below hal)
              have HPv := hideT (HPt.out.below hal)
              have HNv := hideT (HNt.out.below hal)
              have HXv := hideT (HXt.out.below hal)
              have HRv := hideT (HRr.out.below hal)
              have hBv := below_next hBt hal
              have hzv : (w15.alloc (.cells #[.int .i64 0, .int .i64 0] 33)).heap.size = w15.heap.size + 1 := World.size_alloc _ _
              clear hal HOt Hot HTt HPt HNt HXt HRr hBt
              go_upto_region 17 with fail
              generalize w15.alloc (.cells #[.int .i64 0, .int .i64 0] 33) = wv at HVv HOv Hov HTv HPv HNv HXv HRv hBv hzv ⊢
              generalize w15.heap.size = T16 at HVv hzt hzv ⊢
              go_wp2_with fail
              refine (l02Some_any _ 8 0 (g2 + 1) (kidX p xs xb n 0 (i1 : Int)) (kidY p xs xb n 0 b) wv (HTv.out.at (fun _ => ⟨Nat.zero_le _, by omega⟩)) (by omega)).mono ?_
              rintro e wu ⟨⟨t, rfl, ht⟩, hbu⟩
              have HVu := hideT (HVv.out.below hbu)
              have HOu := hideT (HOv.out.below hbu)
              have Hou := hideT (Hov.out.below hbu)
              have HTu := hideT (HTv.out.below hbu)
              have HPu := hideT (HPv.out.below hbu)
              have HNu := hideT (HNv.out.below hbu)
              have HXu := hideT (HXv.out.below hbu)
              have HRu := hideT (HRv.out.below hbu)
              have hBu := below_next hBv hbu
              have hzu : T16 + 1 ≤ wu.heap.size := by have := hbu.size; omega
              clear hbu HVv HOv Hov HTv HPv HNv HXv HRv hBv hzv
              by_cases hE : AllNil (kidX p xs xb n 0 (i1 : Int)) (kidY p xs xb n 0 b)
              · obtain rfl : t = false := bool_no ht (fun h => (some_iff.1 h) hE)
                have HEe := hideT (HEl.out.trans (trim_end HL1.out hE))
                have HPO : Hid (PoolOwn wu w5.heap.size wu.heap.size (.slice a5 p.n c5) (.slice a6 p.hn c6) (setS p i1 (slotK (kidX p xs xb n 1 0) (kidY p xs xb n 1 0) b))) := Hou.out.own (fun k hk => by omega)
                clear ht hE
                go_upto_region 21 with fail
                obtain ⟨⟨x0, x1⟩, ⟨x2, x3⟩⟩ := HOu.out
                obtain ⟨⟨y0, y1⟩, ⟨y2, y3⟩⟩ := HVu.out
                obtain ⟨⟨z0, z1⟩, ⟨z2, z3⟩⟩ := HPu.out
                obtain ⟨⟨u0, u1⟩, ⟨u2, u3⟩⟩ := HNu.out
                obtain ⟨⟨v0, v1⟩, ⟨v2, v3⟩⟩ := HXu.out
                have n0 : w.heap.size + 1 + 1 ≠ w6.heap.size := by omega
                have n1 : w.heap.size + 1 + 1 ≠ T16 := by omega
                have n2 : w.heap.size + 1 + 1 ≠ T9 := by omega
                have n3 : w.heap.size + 1 ≠ T9 := by omega
                have n4 : w.heap.size + 1 + 1 ≠ w.heap.size + 1 := by omega
                have m0 : wu.heap.size ≠ w6.heap.size := by omega
                have m1 : wu.heap.size ≠ T16 := by omega
                have m2 : wu.heap.size ≠ T9 := by omega
                have m3 : wu.heap.size ≠ T9 + 1 := by omega
                have m4 : wu.heap.size ≠ w.heap.size + 1 := by omega
                have HL := hideT (old_row wu p xs xb n 33)
                have HbL := hideT (below_alloc wu (.cells #[.int .i64 (pageS p xs xb n), .int .i64 (pageB p xs xb n), .int .i64 (nodeS p xs xb n), .int .i64 (nodeB p xs xb n), .int .i64 xs, .int .i64 xb] 33))
                go_region_held3 (fun w' => w'.cell? ⟨w6.heap.size, 0, none⟩ = some (.slice a5 p.n c5) ∧ w'.cell? ⟨w6.heap.size, 1, none⟩ = some (.slice a6 p.hn c6) ∧ w'.cell? ⟨T16, 0, none⟩ = some (.int .i64 0) ∧ w'.cell? ⟨T16, 1, none⟩ = some (.int .i64 0) ∧ w'.cell? ⟨T9, 0, none⟩ = some (.int .i64 (pageS p xs xb n)) ∧ w'.cell? ⟨T9, 1, none⟩ = some (.int .i64 (pageB p xs xb n)) ∧ w'.cell? ⟨T9 + 1, 0, none⟩ = some (.int .i64 (nodeS p xs xb n)) ∧ w'.cell? ⟨T9 + 1, 1, none⟩ = some (.int .i64 (nodeB p xs xb n)) ∧ w'.cell? ⟨w.heap.size + 1, 0, none⟩ = some (.int .i64 xs) ∧ w'.cell? ⟨w.heap.size + 1, 1, none⟩ = some (.int .i64 xb)) (go_keep)
                  (first
                    | (go_at_call 79; refine (l02Old_any _ 3 0 (wu.heap.size + 1) (fun i => metS p xs xb n (2 - i)) (fun i => metB p xs xb n (2 - i)) _ ?_ (by omega)).mono ?_; (exact HL.out.below (Below.refl _ _).drew); rintro e wI ⟨v', rfl, hrI, hbI⟩; obtain ⟨oa, oc, rfl, _⟩ := owns_form hrI; have hbI' := below_next HbL.out (below_undrew hbI); obtain ⟨⟨x0, _⟩, ⟨x2, _⟩⟩ := HOu.out.below hbI'; obtain ⟨⟨y0, _⟩, ⟨y2, _⟩⟩ := HVu.out.below hbI'; obtain ⟨⟨z0, _⟩, ⟨z2, _⟩⟩ := HPu.out.below hbI'; obtain ⟨⟨u0, _⟩, ⟨u2, _⟩⟩ := HNu.out.below hbI'; obtain ⟨⟨v0, _⟩, ⟨v2, _⟩⟩ := HXu.out.below hbI'; obtain ⟨⟨r0, r1⟩, ⟨r2, r3⟩, ⟨r4, r5⟩, ⟨r6, r7⟩, ⟨r8, r9⟩, ⟨r10, r11⟩⟩ := HRu.out.below hbI'))
                have HRI := hideT (HRu.out.below hbI')
                have HoI := hideT (HPO.out.below hbI')
                have hBI := below_next hBu hbI'
                have hbL : wu.heap.size ≤ wI.heap.size := hbI'.size
                have HrI : Hid (RowL wI (wu.heap.size + 1) (.slice oa (oldW p xs xb n 3).length oc) (oldW p xs xb n 3)) := hrI.mono (by show wu.heap.size + 1 ≤ (World.alloc _ _).heap.size; rw [World.size_alloc]; omega)
                rw [show kidsUp (fun i => metS p xs xb n (2 - i)) (fun i => metB p xs xb n (2 - i)) 3 = oldW p xs xb n 3 from rfl]
                clear hbI hbI' hrI x0 x2 y0 y2 z0 z2 u0 u2 v0 v2 r0 r1 r2 r3 r4 r5 r6 r7 r8 r9 r10 r11
                have HR8 := HRI.out.put (.slice a5 p.n c5) (.slice a6 p.hn c6) (.int .i64 0) (.int .i64 0) (.slice oa (oldW p xs xb n 3).length oc) (.int .i64 0)
                have htp := Turned.put6 wI (w.heap.size + 1 + 1) (.slice a5 p.n c5) (.slice a6 p.hn c6) (.int .i64 0) (.int .i64 0) (.slice oa (oldW p xs xb n 3).length oc) (.int .i64 0)
                go_wp2
                rw [HEe.out]
                exact bodyPost_ret (v := .agg #[.slice a5 p.n c5, .slice a6 p.hn c6, .int .i64 0, .int .i64 0, .slice oa (oldW p xs xb n 3).length oc, .int .i64 0]) (by simp [results, Try.results30, go_sem, HR8.1.1, HR8.2.1.1, HR8.2.2.1.1, HR8.2.2.2.1.1, HR8.2.2.2.2.1.1, HR8.2.2.2.2.2.1]) rfl ⟨_, _, _, w5.heap.size, wu.heap.size, rfl, by omega, Nat.le_trans (show wu.heap.size ≤ wI.heap.size by omega) htp.size, HoI.out.turned htp (by intro k hk; omega), ((((((HrI.out.put (by omega) _).put (by omega) _).put (by omega) _).put (by omega) _).put (by omega) _).put (by omega) _).mono (by omega), fun k hk => Or.inr (by have := (HrI.out.lt hk).1; omega), hBI.trans (htp.below (B := w.heap.size) hBI.size (by intro k hk; omega))⟩
              · obtain rfl : t = true := ht.2 (some_iff.2 hE)
                have HnE := hideT hE
                clear ht hE
                go_wp2_with fail
                refine (l01Take_in w6.heap.size g2 _ a5 c5 (.slice a6 p.hn c6) (.slice (some ⟨g2, 0, none⟩) 8 cp2) (setS p i1 (slotK (kidX p xs xb n 1 0) (kidY p xs xb n 1 0) b)) (slotK (kidX p xs xb n 0 (i1 : Int)) (kidY p xs xb n 0 b) b) wu HOu.out (by omega) (fun k hk => by omega) hcc5 Hou.out HTu.out (fun _ => ⟨by omega, by omega⟩) (by show (0 : Nat) ≤ maxLen; exact Nat.zero_le _)).mono ?_
                rintro e wx (⟨i2, hF2, hex, hOx, hox, htx⟩ | ⟨hno, hex, hbx⟩)
                · have hex' : e = .returned (.tuple #[.agg #[.int .i64 (i2 : Int), .int .i64 b], .bool true]) := hex
                  subst hex'
                  clear hex
                  have HEe := hideT (HEl.out.trans (trim_top HL1.out HnE.out HRq.out HFq.out hF2))
                  have HPI := hideT hox
                  have HOx : Hid (Box2 wx w6.heap.size (.slice a5 p.n c5) (.slice a6 p.hn c6)) := hOx
                  have HVx := hideT (HVu.out.turned htx (by omega))
                  have HPx := hideT (HPu.out.turned htx (by omega))
                  have HNx := hideT (HNu.out.turned htx (by omega))
                  have HXx := hideT (HXu.out.turned htx (by omega))
                  have HRx := hideT (HRu.out.turned htx (by omega))
                  have hBx := hBu.trans (htx.below (B := w.heap.size) hBu.size (by intro k hk; omega))
                  have hzx : T16 + 1 ≤ wx.heap.size := by have := htx.size; omega
                  clear hF2 hOx hox htx HVu HOu Hou HTu HPu HNu HXu HRu hBu
                  have tY := two_put wx T16 (.int .i64 (i2 : Int)) (.int .i64 b)
                  have HVy := hideT (HVx.out.put (.int .i64 (i2 : Int)) (.int .i64 b))
                  have HOy := hideT (HOx.out.turned tY (by omega))
                  have HPOy : Hid (PoolOwn ((wx.setCell ⟨T16, 0, none⟩ (.int .i64 (i2 : Int))).setCell ⟨T16, 1, none⟩ (.int .i64 b)) w5.heap.size wx.heap.size (.slice a5 p.n c5) (.slice a6 p.hn c6) (setS (setS p i1 (slotK (kidX p xs xb n 1 0) (kidY p xs xb n 1 0) b)) i2 (slotK (kidX p xs xb n 0 (i1 : Int)) (kidY p xs xb n 0 b) b))) := (HPI.out.turned tY (fun k hk => by omega)).own (fun k hk => by omega)
                  have HPy := hideT (HPx.out.turned tY (by omega))
                  have HNy := hideT (HNx.out.turned tY (by omega))
                  have HXy := hideT (HXx.out.turned tY (by omega))
                  have HRy := hideT (HRx.out.turned tY (by omega))
                  have hBy := hBx.trans (tY.below (B := w.heap.size) hBx.size (by intro k hk; omega))
                  have hzy : wx.heap.size ≤ ((wx.setCell ⟨T16, 0, none⟩ (.int .i64 (i2 : Int))).setCell ⟨T16, 1, none⟩ (.int .i64 b)).heap.size := tY.size
                  obtain ⟨⟨x0, x1⟩, ⟨x2, x3⟩⟩ := HVx.out
                  clear HOx HPI HPx HNx HXx HRx hBx tY HVx
                  go_upto_region 21 with fail
                  clear x0 x1 x2 x3
                  generalize (wx.setCell ⟨T16, 0, none⟩ (.int .i64 (i2 : Int))).setCell ⟨T16, 1, none⟩ (.int .i64 b) = wy at HVy HOy HPOy HPy HNy HXy HRy hBy hzy ⊢
                  obtain ⟨⟨x0, x1⟩, ⟨x2, x3⟩⟩ := HOy.out
                  obtain ⟨⟨y0, y1⟩, ⟨y2, y3⟩⟩ := HVy.out
                  obtain ⟨⟨z0, z1⟩, ⟨z2, z3⟩⟩ := HPy.out
                  obtain ⟨⟨u0, u1⟩, ⟨u2, u3⟩⟩ := HNy.out
                  obtain ⟨⟨v0, v1⟩, ⟨v2, v3⟩⟩ := HXy.out
                  have n0 : w.heap.size + 1 + 1 ≠ w6.heap.size := by omega
                  have n1 : w.heap.size + 1 + 1 ≠ T16 := by omega
                  have n2 : w.heap.size + 1 + 1 ≠ T9 := by omega
                  have n3 : w.heap.size + 1 ≠ T9 := by omega
                  have n4 : w.heap.size + 1 + 1 ≠ w.heap.size + 1 := by omega
                  have m0 : wy.heap.size ≠ w6.heap.size := by omega
                  have m1 : wy.heap.size ≠ T16 := by omega
                  have m2 : wy.heap.size ≠ T9 := by omega
                  have m3 : wy.heap.size ≠ T9 + 1 := by omega
                  have m4 : wy.heap.size ≠ w.heap.size + 1 := by omega
                  have HL := hideT (old_row wy p xs xb n 33)
                  have HbL := hideT (below_alloc wy (.cells #[.int .i64 (pageS p xs xb n), .int .i64 (pageB p xs xb n), .int .i64 (nodeS p xs xb n), .int .i64 (nodeB p xs xb n), .int .i64 xs, .int .i64 xb] 33))
                  go_region_held3 (fun w' => w'.cell? ⟨w6.heap.size, 0, none⟩ = some (.slice a5 p.n c5) ∧ w'.cell? ⟨w6.heap.size, 1, none⟩ = some (.slice a6 p.hn c6) ∧ w'.cell? ⟨T16, 0, none⟩ = some (.int .i64 (i2 : Int)) ∧ w'.cell? ⟨T16, 1, none⟩ = some (.int .i64 b) ∧ w'.cell? ⟨T9, 0, none⟩ = some (.int .i64 (pageS p xs xb n)) ∧ w'.cell? ⟨T9, 1, none⟩ = some (.int .i64 (pageB p xs xb n)) ∧ w'.cell? ⟨T9 + 1, 0, none⟩ = some (.int .i64 (nodeS p xs xb n)) ∧ w'.cell? ⟨T9 + 1, 1, none⟩ = some (.int .i64 (nodeB p xs xb n)) ∧ w'.cell? ⟨w.heap.size + 1, 0, none⟩ = some (.int .i64 xs) ∧ w'.cell? ⟨w.heap.size + 1, 1, none⟩ = some (.int .i64 xb)) (go_keep)
                    (first
                      | (go_at_call 79; refine (l02Old_any _ 3 0 (wy.heap.size + 1) (fun i => metS p xs xb n (2 - i)) (fun i => metB p xs xb n (2 - i)) _ ?_ (by omega)).mono ?_; (exact HL.out.below (Below.refl _ _).drew); rintro e wI ⟨v', rfl, hrI, hbI⟩; obtain ⟨oa, oc, rfl, _⟩ := owns_form hrI; have hbI' := below_next HbL.out (below_undrew hbI); obtain ⟨⟨x0, _⟩, ⟨x2, _⟩⟩ := HOy.out.below hbI'; obtain ⟨⟨y0, _⟩, ⟨y2, _⟩⟩ := HVy.out.below hbI'; obtain ⟨⟨z0, _⟩, ⟨z2, _⟩⟩ := HPy.out.below hbI'; obtain ⟨⟨u0, _⟩, ⟨u2, _⟩⟩ := HNy.out.below hbI'; obtain ⟨⟨v0, _⟩, ⟨v2, _⟩⟩ := HXy.out.below hbI'; obtain ⟨⟨r0, r1⟩, ⟨r2, r3⟩, ⟨r4, r5⟩, ⟨r6, r7⟩, ⟨r8, r9⟩, ⟨r10, r11⟩⟩ := HRy.out.below hbI'))
                  have HRI := hideT (HRy.out.below hbI')
                  have HoI := hideT (HPOy.out.below hbI')
                  have hBI := below_next hBy hbI'
                  have hbL : wy.heap.size ≤ wI.heap.size := hbI'.size
                  have HrI : Hid (RowL wI (wy.heap.size + 1) (.slice oa (oldW p xs xb n 3).length oc) (oldW p xs xb n 3)) := hrI.mono (by show wy.heap.size + 1 ≤ (World.alloc _ _).heap.size; rw [World.size_alloc]; omega)
                  rw [show kidsUp (fun i => metS p xs xb n (2 - i)) (fun i => metB p xs xb n (2 - i)) 3 = oldW p xs xb n 3 from rfl]
                  clear hbI hbI' hrI x0 x2 y0 y2 z0 z2 u0 u2 v0 v2 r0 r1 r2 r3 r4 r5 r6 r7 r8 r9 r10 r11
                  have HR8 := HRI.out.put (.slice a5 p.n c5) (.slice a6 p.hn c6) (.int .i64 (i2 : Int)) (.int .i64 b) (.slice oa (oldW p xs xb n 3).length oc) (.int .i64 0)
                  have htp := Turned.put6 wI (w.heap.size + 1 + 1) (.slice a5 p.n c5) (.slice a6 p.hn c6) (.int .i64 (i2 : Int)) (.int .i64 b) (.slice oa (oldW p xs xb n 3).length oc) (.int .i64 0)
                  go_wp2
                  rw [HEe.out]
                  exact bodyPost_ret (v := .agg #[.slice a5 p.n c5, .slice a6 p.hn c6, .int .i64 (i2 : Int), .int .i64 b, .slice oa (oldW p xs xb n 3).length oc, .int .i64 0]) (by simp [results, Try.results30, go_sem, HR8.1.1, HR8.2.1.1, HR8.2.2.1.1, HR8.2.2.2.1.1, HR8.2.2.2.2.1.1, HR8.2.2.2.2.2.1]) rfl ⟨_, _, _, w5.heap.size, wx.heap.size, rfl, by omega, Nat.le_trans (show wx.heap.size ≤ wI.heap.size by omega) htp.size, HoI.out.turned htp (by intro k hk; omega), ((((((HrI.out.put (by omega) _).put (by omega) _).put (by omega) _).put (by omega) _).put (by omega) _).put (by omega) _).mono (by omega), fun k hk => Or.inr (by have := (HrI.out.lt hk).1; omega), hBI.trans (htp.below (B := w.heap.size) hBI.size (by intro k hk; omega))⟩
                · have hex' : e = .returned (.tuple #[.agg #[.int .i64 0, .int .i64 0], .bool false]) := hex
                  subst hex'
                  clear hex
                  have HEe := hideT (HEl.out.trans (trim_full HL1.out HnE.out HRq.out HFq.out hno))
                  have HVx := hideT (HVu.out.below hbx)
                  have HRx := hideT (HRu.out.below hbx)
                  have hBx := below_next hBu hbx
                  clear hno hbx HVu HOu Hou HTu HPu HNu HXu HRu hBu
                  have tY := two_put wx T16 (.int .i64 0) (.int .i64 0)
                  have HRy := hideT (HRx.out.turned tY (by omega))
                  have hBy := hBx.trans (tY.below (B := w.heap.size) hBx.size (by intro k hk; omega))
                  obtain ⟨⟨x0, x1⟩, ⟨x2, x3⟩⟩ := HVx.out
                  clear HRx hBx tY HVx
                  go_upto_region 20 with fail
                  clear x0 x1 x2 x3
                  generalize (wx.setCell ⟨T16, 0, none⟩ (.int .i64 0)).setCell ⟨T16, 1, none⟩ (.int .i64 0) = wy at HRy hBy ⊢
                  obtain ⟨⟨r0, r1⟩, ⟨r2, r3⟩, ⟨r4, r5⟩, ⟨r6, r7⟩, ⟨r8, r9⟩, ⟨r10, r11⟩⟩ := HRy.out
                  try go_wp2
                  have HR8 := HRy.out.put (.slice none 0 0) (.slice none 0 0) (.int .i64 0) (.int .i64 0) (.slice none 0 0) (.int .i64 6)
                  have hpr := err_ret (R := w.heap.size + 1 + 1) (c := 6) (by omega) hBy
                  rw [HEe.out]
                  exact bodyPost_ret (v := .agg #[.slice none 0 0, .slice none 0 0, .int .i64 0, .int .i64 0, .slice none 0 0, .int .i64 6]) (by simp [results, Try.results30, go_sem, HR8.1.1, HR8.2.1.1, HR8.2.2.1.1, HR8.2.2.2.1.1, HR8.2.2.2.2.1.1, HR8.2.2.2.2.2.1]) rfl hpr
            · have hex' : e = .returned (.tuple #[.agg #[.int .i64 0, .int .i64 0], .bool false]) := hex
              subst hex'
              clear hex
              have HEe := hideT (HEl.out.trans (low_full HRt.out hn64 HTB.out.2 HnA.out hno))
              have Hno := hideT hno
              have HO14 := hideT (HO13.out.below hb14)
              have Ho14 := hideT (Ho13.out.below hb14)
              have HT14 := hideT (HT13.out.below hb14)
              have HR14 := hideT (HR13.out.below hb14)
              have hB14 := below_next hB13 hb14
              have hz14 : g2 < w14.heap.size := by have := hb14.size; omega
              clear hno hb14 HO13 Ho13 HT13 HP13 HN13 HX13 HR13 hB13 HK13
              obtain ⟨q0, q1⟩ := own_cell8 HT14.out (show n / 8 < 8 by omega)
              obtain ⟨⟨q2, q3⟩, ⟨q4, q5⟩⟩ := And.intro q0 q1
              go_upto_region 16 with fail
              clear q0 q1 q2 q3 q4 q5
              have t15 := (Turned.put w14 g2 (n / 8 * 2) (.int .i64 0)).trans (Turned.put _ g2 (n / 8 * 2 + 1) (.int .i64 0))
              have HT15 : Hid (PtrsOwn ((w14.setCell ⟨g2, n / 8 * 2, none⟩ (.int .i64 0)).setCell ⟨g2, n / 8 * 2 + 1, none⟩ (.int .i64 0)) g2 (.slice (some ⟨g2, 0, none⟩) 8 cp2) 8 (kidX p xs xb n 0 0) (kidY p xs xb n 0 0)) := own_set HT14.out (plc_lt hn64) _ _
              have HO15 := hideT (HO14.out.turned t15 (by omega))
              have Ho15 := hideT (Ho14.out.turned t15 (fun k hk => by omega))
              have HR15 := hideT (HR14.out.turned t15 (by omega))
              have hB15 := hB14.trans (t15.below (B := w.heap.size) hB14.size (by intro k hk; omega))
              have hz15 : g2 < ((w14.setCell ⟨g2, n / 8 * 2, none⟩ (.int .i64 0)).setCell ⟨g2, n / 8 * 2 + 1, none⟩ (.int .i64 0)).heap.size := by have := t15.size; omega
              clear t15 HT14 HO14 Ho14 HR14 hB14
              generalize (w14.setCell ⟨g2, n / 8 * 2, none⟩ (.int .i64 0)).setCell ⟨g2, n / 8 * 2 + 1, none⟩ (.int .i64 0) = w15 at HT15 HO15 Ho15 HR15 hB15 hz15 ⊢
              have hal := below_alloc w15 (.cells #[.int .i64 0, .int .i64 0] 33)
              have HVv := hideT (Box2.new w15 (.int .i64 0) (.int .i64 0) 33)
              have HOv := hideT (HO15.out.below hal)
              have Hov := hideT (Ho15.out.below hal)
              have HTv := hideT (HT15.out.below hal)
              have HRv := hideT (HR15.out.below hal)
              have hBv := below_next hB15 hal
              have hzv : (w15.alloc (.cells #[.int .i64 0, .int .i64 0] 33)).heap.size = w15.heap.size + 1 := World.size_alloc _ _
              clear hal HO15 Ho15 HT15 HR15 hB15
              go_upto_region 17 with fail
              generalize w15.alloc (.cells #[.int .i64 0, .int .i64 0] 33) = wv at HVv HOv Hov HTv HRv hBv hzv ⊢
              generalize w15.heap.size = T16 at HVv hz15 hzv ⊢
              go_wp2_with fail
              refine (l02Some_any _ 8 0 (g2 + 1) (kidX p xs xb n 0 0) (kidY p xs xb n 0 0) wv (HTv.out.at (fun _ => ⟨Nat.zero_le _, by omega⟩)) (by omega)).mono ?_
              rintro e wu ⟨⟨t, rfl, ht⟩, hbu⟩
              have HVu := hideT (HVv.out.below hbu)
              have HOu := hideT (HOv.out.below hbu)
              have Hou := hideT (Hov.out.below hbu)
              have HTu := hideT (HTv.out.below hbu)
              have HRu := hideT (HRv.out.below hbu)
              have hBu := below_next hBv hbu
              have hzu : T16 + 1 ≤ wu.heap.size := by have := hbu.size; omega
              clear ht hbu HVv HOv Hov HTv HRv hBv hzv
              cases t
              all_goals
                go_wp2_with fail
                refine (l01Take_in w6.heap.size g2 _ a5 c5 (.slice a6 p.hn c6) (.slice (some ⟨g2, 0, none⟩) 8 cp2) p (slotK (kidX p xs xb n 0 0) (kidY p xs xb n 0 0) b) wu HOu.out (by omega) (fun k hk => by omega) hcc5 Hou.out HTu.out (fun _ => ⟨by omega, by omega⟩) (by show (0 : Nat) ≤ maxLen; exact Nat.zero_le _)).mono ?_
                rintro e wx (⟨i2, hF2, hex, hOx, hox, htx⟩ | ⟨hno, hex, hbx⟩)
                · exact absurd hF2.2.1 (Hno.out i2 hF2.1)
                have hex' : e = .returned (.tuple #[.agg #[.int .i64 0, .int .i64 0], .bool false]) := hex
                subst hex'
                clear hex
                have HVx := hideT (HVu.out.below hbx)
                have HRx := hideT (HRu.out.below hbx)
                have hBx := below_next hBu hbx
                clear hno hbx HVu HOu Hou HTu HRu hBu
                have tY := two_put wx T16 (.int .i64 0) (.int .i64 0)
                have HRy := hideT (HRx.out.turned tY (by omega))
                have hBy := hBx.trans (tY.below (B := w.heap.size) hBx.size (by intro k hk; omega))
                obtain ⟨⟨x0, x1⟩, ⟨x2, x3⟩⟩ := HVx.out
                clear HRx hBx tY HVx
                go_upto_region 20 with fail
                clear x0 x1 x2 x3
                generalize (wx.setCell ⟨T16, 0, none⟩ (.int .i64 0)).setCell ⟨T16, 1, none⟩ (.int .i64 0) = wy at HRy hBy ⊢
                obtain ⟨⟨r0, r1⟩, ⟨r2, r3⟩, ⟨r4, r5⟩, ⟨r6, r7⟩, ⟨r8, r9⟩, ⟨r10, r11⟩⟩ := HRy.out
                try go_wp2
                have HR8 := HRy.out.put (.slice none 0 0) (.slice none 0 0) (.int .i64 0) (.int .i64 0) (.slice none 0 0) (.int .i64 6)
                have hpr := err_ret (R := w.heap.size + 1 + 1) (c := 6) (by omega) hBy
                rw [HEe.out]
                exact bodyPost_ret (v := .agg #[.slice none 0 0, .slice none 0 0, .int .i64 0, .int .i64 0, .slice none 0 0, .int .i64 6]) (by simp [results, Try.results30, go_sem, HR8.1.1, HR8.2.1.1, HR8.2.2.1.1, HR8.2.2.2.1.1, HR8.2.2.2.2.1.1, HR8.2.2.2.2.2.1]) rfl hpr
      · have HNo := hideT hN
        clear hN
        obtain ⟨⟨r0, r1⟩, ⟨r2, r3⟩, ⟨r4, r5⟩, ⟨r6, r7⟩, ⟨r8, r9⟩, ⟨r10, r11⟩⟩ := HR2.out
        go_wp2_with (first | (go_at_call 75; refine (l02Number_any _ _).mono ?_; rintro e w9 ⟨⟨t2, rfl, ht2⟩, rfl⟩; obtain rfl : t2 = false := bool_no ht2 HNo.out; clear ht2) | fail)
        obtain ⟨⟨r0, r1⟩, ⟨r2, r3⟩, ⟨r4, r5⟩, ⟨r6, r7⟩, ⟨r8, r9⟩, ⟨r10, r11⟩⟩ := HR2.out
        try go_wp2
        have HR8 := HR2.out.put (.slice none 0 0) (.slice none 0 0) (.int .i64 0) (.int .i64 0) (.slice none 0 0) (.int .i64 8)
        have hpr := err_ret (R := w.heap.size + 1 + 1) (c := 8) (by omega) hB2
        rw [trim_range HTB.out HNo.out]
        exact bodyPost_ret (v := .agg #[.slice none 0 0, .slice none 0 0, .int .i64 0, .int .i64 0, .slice none 0 0, .int .i64 8]) (by simp [results, Try.results30, go_sem, HR8.1.1, HR8.2.1.1, HR8.2.2.1.1, HR8.2.2.2.1.1, HR8.2.2.2.2.1.1, HR8.2.2.2.2.2.1]) rfl hpr
    · have HBo := hideT hBo
      obtain rfl : t = false := bool_no ht hBo
      clear ht hBo
      obtain ⟨⟨r0, r1⟩, ⟨r2, r3⟩, ⟨r4, r5⟩, ⟨r6, r7⟩, ⟨r8, r9⟩, ⟨r10, r11⟩⟩ := HR2.out
      try go_wp2
      have HR8 := HR2.out.put (.slice none 0 0) (.slice none 0 0) (.int .i64 0) (.int .i64 0) (.slice none 0 0) (.int .i64 1)
      have hpr := err_ret (R := w.heap.size + 1 + 1) (c := 1) (by omega) hB2
      rw [trim_form (fun h => HBo.out h.2)]
      exact bodyPost_ret (v := .agg #[.slice none 0 0, .slice none 0 0, .int .i64 0, .int .i64 0, .slice none 0 0, .int .i64 1]) (by simp [results, Try.results30, go_sem, HR8.1.1, HR8.2.1.1, HR8.2.2.1.1, HR8.2.2.2.1.1, HR8.2.2.2.2.1.1, HR8.2.2.2.2.2.1]) rfl hpr
  · have HRt := hideT hRt
    obtain rfl : t = false := bool_no ht hRt
    clear ht hRt
    obtain ⟨⟨r0, r1⟩, ⟨r2, r3⟩, ⟨r4, r5⟩, ⟨r6, r7⟩, ⟨r8, r9⟩, ⟨r10, r11⟩⟩ := HR1.out
    try go_wp2
    have HR8 := HR1.out.put (.slice none 0 0) (.slice none 0 0) (.int .i64 0) (.int .i64 0) (.slice none 0 0) (.int .i64 1)
    have hpr := err_ret (R := w.heap.size + 1 + 1) (c := 1) (by omega) hB1
    rw [trim_form (fun h => HRt.out h.1)]
    exact bodyPost_ret (v := .agg #[.slice none 0 0, .slice none 0 0, .int .i64 0, .int .i64 0, .slice none 0 0, .int .i64 1]) (by simp [results, Try.results30, go_sem, HR8.1.1, HR8.2.1.1, HR8.2.2.1.1, HR8.2.2.2.1.1, HR8.2.2.2.2.1.1, HR8.2.2.2.2.2.1]) rfl hpr

end Go.Proofs.Ytikhipekmlhibaa
