/- The variables with which PoolTake begins (no law is proved here). -/
import Derived.Test.YtikhipekmlhibaaG10
import Derived.Test.YtikhipekmlhibaaG5
import Derived.Test.YtikhipekmlhibaaG8
namespace Go.Proofs.Ytikhipekmlhibaa
open Go.RowKit
set_option linter.unusedVariables false

/-- The three variables with which the calls begin. -/
theorem start53 (w : World) (a0 a1 x0 x1 x2 : Value) (t1 t2 t3 : TypeId) :
    Box2 (((w.alloc (.cells #[a0, a1] t1)).alloc (.cells #[x0, x1, x2] t2)).alloc (.cells #[.slice none 0 0, .slice none 0 0, .int .i64 0, .int .i64 0, .int .i64 0] t3)) w.heap.size a0 a1 ∧
    Box3 (((w.alloc (.cells #[a0, a1] t1)).alloc (.cells #[x0, x1, x2] t2)).alloc (.cells #[.slice none 0 0, .slice none 0 0, .int .i64 0, .int .i64 0, .int .i64 0] t3)) (w.heap.size + 1) x0 x1 x2 ∧
    Box5 (((w.alloc (.cells #[a0, a1] t1)).alloc (.cells #[x0, x1, x2] t2)).alloc (.cells #[.slice none 0 0, .slice none 0 0, .int .i64 0, .int .i64 0, .int .i64 0] t3)) (w.heap.size + 1 + 1) (.slice none 0 0) (.slice none 0 0) (.int .i64 0) (.int .i64 0) (.int .i64 0) ∧
    Below w.heap.size w (((w.alloc (.cells #[a0, a1] t1)).alloc (.cells #[x0, x1, x2] t2)).alloc (.cells #[.slice none 0 0, .slice none 0 0, .int .i64 0, .int .i64 0, .int .i64 0] t3)) ∧
    (((w.alloc (.cells #[a0, a1] t1)).alloc (.cells #[x0, x1, x2] t2)).alloc (.cells #[.slice none 0 0, .slice none 0 0, .int .i64 0, .int .i64 0, .int .i64 0] t3)).heap.size = w.heap.size + 3 := by
  refine ⟨((Box2.new w a0 a1 t1).below (below_alloc _ _)).below (below_alloc _ _), ?_, ?_, below_next (below_next (below_alloc _ _) (below_alloc _ _)) (below_alloc _ _), by simp⟩
  · have := (Box3.new (w.alloc (.cells #[a0, a1] t1)) x0 x1 x2 t2).below (below_alloc _ (.cells #[.slice none 0 0, .slice none 0 0, .int .i64 0, .int .i64 0, .int .i64 0] t3))
    rw [World.size_alloc] at this
    exact this
  · have := Box5.new ((w.alloc (.cells #[a0, a1] t1)).alloc (.cells #[x0, x1, x2] t2)) (.slice none 0 0) (.slice none 0 0) (.int .i64 0) (.int .i64 0) (.int .i64 0) t3
    rw [World.size_alloc, World.size_alloc] at this
    exact this

end Go.Proofs.Ytikhipekmlhibaa

namespace Go.Proofs.Ytikhipekmlhibaa
open Go.RowKit
set_option linter.unusedVariables false

set_option maxRecDepth 20000 in
set_option maxHeartbeats 2000000 in
theorem specPoolTake_any (v0 v1 kv : Value) (lo hi lo' hi' : Nat) (p : PoolD) (s : SlotD) (w : World) (h1 : PoolAt w lo hi v0 v1 p) (h2 : SlotAt w lo' hi' (.int .i64 s.birth) kv (.string s.data) s) (hn : poolN p + slotN s ≤ 1048576) :
    Calls Try.prog 8 #[.agg #[v0, v1], .agg #[.int .i64 s.birth, kv, .string s.data]] w (NewOut (takeP p s) w) := by
  have Hp := hide h1
  have Hs := hide h2
  have Hn := hide hn
  obtain ⟨a, c, a', c', rfl, rfl⟩ := h1.form
  obtain ⟨ka, kc, rfl⟩ := h2.form
  have hkn : s.kn ≤ 1048576 := by unfold slotN at hn; omega
  have hm1 : p.n ≤ 1048576 := by unfold poolN at hn; omega
  have hst := start53 w (.slice a p.n c) (.slice a' p.hn c') (.int .i64 s.birth) (.slice ka s.kn kc) (.string s.data) 26 29 35
  clear h1 h2 hn
  go_enter Try.func8, Try.ntmps8
  go_wp2_with fail
  generalize ((w.alloc (.cells #[.slice a p.n c, .slice a' p.hn c'] 26)).alloc (.cells #[.int .i64 s.birth, .slice ka s.kn kc, .string s.data] 29)).alloc (.cells #[.slice none 0 0, .slice none 0 0, .int .i64 0, .int .i64 0, .int .i64 0] 35) = W at hst ⊢
  obtain ⟨hB, hX, hR, hba, hz⟩ := hst
  refine (specPoolRight_any _ _ lo hi p _ (Hp.out.below hba)).mono ?_
  rintro e w1 ⟨⟨t, rfl, ht⟩, hb1⟩
  have HB1 := hide (hB.below hb1)
  have HX1 := hide (hX.below hb1)
  have HR1 := hide (hR.below hb1)
  have hB1 := below_next hba hb1
  have hz1 : w.heap.size + 3 ≤ w1.heap.size := by have := hb1.size; omega
  clear hB hX hR hba hb1 hz
  by_cases hRt : Right p
  · have HRt := hide hRt
    obtain rfl : t = true := ht.2 hRt
    clear ht hRt
    obtain ⟨⟨y0, y1⟩, ⟨y2, y3⟩, ⟨y4, y5⟩⟩ := HX1.out
    go_wp2_with fail
    refine (l01Free_any _ _ _ lo' hi' s _ (Hs.out.below hB1)).mono ?_
    rintro e w2 ⟨⟨t, rfl, ht⟩, hb2⟩
    have HB2 := hide (HB1.out.below hb2)
    have HX2 := hide (HX1.out.below hb2)
    have HR2 := hide (HR1.out.below hb2)
    have hB2 := below_next hB1 hb2
    have hz2 : w.heap.size + 3 ≤ w2.heap.size := by have := hb2.size; omega
    clear hb2 hB1 HB1 HX1 HR1 hz1 y0 y1 y2 y3 y4 y5
    by_cases hF : Free s
    · have HF := hide hF
      obtain rfl : t = true := ht.2 hF
      clear ht hF
      obtain ⟨⟨u0, u1⟩, ⟨u2, u3⟩, ⟨u4, u5⟩, ⟨u6, u7⟩, ⟨u8, u9⟩⟩ := HR2.out
      go_wp2
      have HR6 := HR2.out.put (.slice none 0 0) (.slice none 0 0) (.int .i64 0) (.int .i64 0) (.int .i64 1)
      have hpr := none_ret (R := w.heap.size + 1 + 1) (u2 := .int .i64 0) (u3 := .int .i64 0) (u4 := .int .i64 1) (by omega) hB2
      rw [take_form (fun h => h.2.1 HF.out)]
      exact bodyPost_ret (v := .agg #[.slice none 0 0, .slice none 0 0, .int .i64 0, .int .i64 0, .int .i64 1]) (by simp [results, Try.results8, go_sem, HR6.1.1, HR6.2.1.1, HR6.2.2.1.1, HR6.2.2.2.1.1, HR6.2.2.2.2.1]) rfl ⟨_, _, rfl, hpr.1, hpr.2⟩
    · have HF := hide hF
      obtain rfl : t = false := bool_no ht hF
      clear ht hF
      obtain ⟨⟨x0, x1⟩, ⟨x2, x3⟩⟩ := HB2.out
      obtain ⟨⟨y0, y1⟩, ⟨y2, y3⟩, ⟨y4, y5⟩⟩ := HX2.out
      go_wp2_with fail
      refine (l01Fits_any _ _ _ _ _ lo hi lo' hi' p s _ (Hp.out.below hB2) (Hs.out.below hB2)).mono ?_
      rintro e w3 ⟨⟨t, rfl, ht⟩, hb3⟩
      have HB3 := hide (HB2.out.below hb3)
      have HX3 := hide (HX2.out.below hb3)
      have HR3 := hide (HR2.out.below hb3)
      have hB3 := below_next hB2 hb3
      have hz3 : w.heap.size + 3 ≤ w3.heap.size := by have := hb3.size; omega
      clear hb3 hB2 HB2 HX2 HR2 hz2 x0 x1 x2 x3 y0 y1 y2 y3 y4 y5
      by_cases hT : Fits p s
      · have HT := hide (And.intro HRt.out (And.intro HF.out hT))
        obtain rfl : t = true := ht.2 hT
        clear ht hT
        obtain ⟨⟨x0, x1⟩, ⟨x2, x3⟩⟩ := HB3.out
        go_wp2_with fail
        refine (l01Copy_any _ _ lo hi p _ (Hp.out.below hB3) (by have := Hn.out; omega)).mono ?_
        rintro e w4 ⟨s0, s1, rfl, ho4, hb4⟩
        obtain ⟨a4, c4, a5, c5, rfl, rfl⟩ := ho4.form
        have mc4 : p.n ≤ c4 := by obtain ⟨⟨_, _, _, e, h, _⟩, _⟩ := ho4.at; simp only [Value.slice.injEq, true_and] at e; omega
        have hnv := poolVar_new (t := 26) ho4 hb4
        have HX4 := hide (HX3.out.below hnv.2.2.2)
        have HR4 := hide (HR3.out.below hnv.2.2.2)
        have hB4 := below_next hB3 hnv.2.2.2
        clear ho4 hb4 x0 x1 x2 x3 HB3 HX3 HR3 hB3
        obtain ⟨⟨y0, y1⟩, ⟨y2, y3⟩, ⟨y4, y5⟩⟩ := HX4.out
        go_wp2_with fail
        clear y0 y1 y2 y3 y4 y5
        generalize w4.alloc (.cells #[.slice a4 p.n c4, .slice a5 p.hn c5] 26) = wO at hnv HX4 HR4 hB4 ⊢
        generalize w4.heap.size = OUT at hnv ⊢
        obtain ⟨hO, hO1, hO2, hO3⟩ := hnv
        have HO := hide hO
        clear hO
        refine (l01Slot_any _ _ _ lo' hi' s _ (Hs.out.below hB4) hkn).mono ?_
        rintro e w5 ⟨nv, nb, rfl, hp5, hpl5, hb5⟩
        obtain ⟨_, na, nc, rfl, _⟩ := id hp5
        have HO5 := hide (HO.out.below hb5)
        have HR5 := hide (HR4.out.below hb5)
        have hB5 := below_next hB4 hb5
        have hz5 := hb5.size
        have Hp5 := hide hp5
        have Hpl5 := hide hpl5
        clear hp5 hpl5 hb5 HX4 HR4 hB4 HO
        go_wp2_with fail
        refine (l01Take_any OUT w3.heap.size OUT nb a4 c4 (.slice a5 p.hn c5) (.slice na s.kn nc) p s _ HO5.out.box (Nat.le_refl _) mc4 HO5.out.own Hp5.out (fun h0 => by have := Hpl5.out h0; omega) Hs.out.2.2.2 hO1).mono ?_
        rintro e w6 (⟨i, hi6, rfl, hbx6, ho6, ht6⟩ | ⟨hno, rfl, hb6⟩)
        · have HR6 := hide (HR5.out.turned ht6 (by omega))
          have hB6 : Below w.heap.size w w6 := hB5.trans (ht6.below (by have := hB5.size; omega) (fun k hk => by omega))
          have hal := below_alloc w6 (.cells #[.int .i64 (i : Int), .int .i64 s.birth] 33)
          have hB7 := below_next hB6 hal
          have HR7 := hide (HR6.out.below hal)
          have Ho7 := hide (ho6.below hal)
          have Hbx7 := hide (hbx6.below hal)
          have hP7 := Box2.new w6 (.int .i64 (i : Int)) (.int .i64 s.birth) 33
          have hz7 := hal.size
          clear hbx6 ho6 ht6 HR6 HR5 hB5 hB6 hal HO5 Hp5 Hpl5
          obtain ⟨⟨x0, x1⟩, ⟨x2, x3⟩⟩ := Hbx7.out
          obtain ⟨⟨y0, y1⟩, ⟨y2, y3⟩⟩ := hP7
          obtain ⟨⟨u0, u1⟩, ⟨u2, u3⟩, ⟨u4, u5⟩, ⟨u6, u7⟩, ⟨u8, u9⟩⟩ := HR7.out
          go_wp2
          have HR8 := HR7.out.put (.slice a4 p.n c4) (.slice a5 p.hn c5) (.int .i64 (i : Int)) (.int .i64 s.birth) (.int .i64 0)
          have hpr := out_ret (R := w.heap.size + 1 + 1) (u2 := .int .i64 (i : Int)) (u3 := .int .i64 s.birth) (u4 := .int .i64 0) Ho7.out (by omega) (by omega) hz7 hB7
          rw [take_ok HT.out hi6]
          exact bodyPost_ret (v := .agg #[.slice a4 p.n c4, .slice a5 p.hn c5, .int .i64 (i : Int), .int .i64 s.birth, .int .i64 0]) (by simp [results, Try.results8, go_sem, HR8.1.1, HR8.2.1.1, HR8.2.2.1.1, HR8.2.2.2.1.1, HR8.2.2.2.2.1]) rfl ⟨_, _, rfl, hpr.1, hpr.2⟩
        · have hal := below_next hb6 (below_alloc w6 (.cells #[.int .i64 0, .int .i64 0] 33))
          have HR7 := hide (HR5.out.below hal)
          have hB7 := below_next hB5 hal
          clear HO5 Hp5 Hpl5 HR5 hB5 hb6
          obtain ⟨⟨u0, u1⟩, ⟨u2, u3⟩, ⟨u4, u5⟩, ⟨u6, u7⟩, ⟨u8, u9⟩⟩ := HR7.out
          go_wp2
          have HR6 := HR7.out.put (.slice none 0 0) (.slice none 0 0) (.int .i64 0) (.int .i64 0) (.int .i64 6)
          have hpr := none_ret (R := w.heap.size + 1 + 1) (u2 := .int .i64 0) (u3 := .int .i64 0) (u4 := .int .i64 6) (by omega) hB7
          rw [take_full HT.out hno]
          exact bodyPost_ret (v := .agg #[.slice none 0 0, .slice none 0 0, .int .i64 0, .int .i64 0, .int .i64 6]) (by simp [results, Try.results8, go_sem, HR6.1.1, HR6.2.1.1, HR6.2.2.1.1, HR6.2.2.2.1.1, HR6.2.2.2.2.1]) rfl ⟨_, _, rfl, hpr.1, hpr.2⟩
      · have HT := hide hT
        obtain rfl : t = false := bool_no ht hT
        clear ht hT
        obtain ⟨⟨u0, u1⟩, ⟨u2, u3⟩, ⟨u4, u5⟩, ⟨u6, u7⟩, ⟨u8, u9⟩⟩ := HR3.out
        go_wp2
        have HR6 := HR3.out.put (.slice none 0 0) (.slice none 0 0) (.int .i64 0) (.int .i64 0) (.int .i64 1)
        have hpr := none_ret (R := w.heap.size + 1 + 1) (u2 := .int .i64 0) (u3 := .int .i64 0) (u4 := .int .i64 1) (by omega) hB3
        rw [take_form (fun h => HT.out h.2.2)]
        exact bodyPost_ret (v := .agg #[.slice none 0 0, .slice none 0 0, .int .i64 0, .int .i64 0, .int .i64 1]) (by simp [results, Try.results8, go_sem, HR6.1.1, HR6.2.1.1, HR6.2.2.1.1, HR6.2.2.2.1.1, HR6.2.2.2.2.1]) rfl ⟨_, _, rfl, hpr.1, hpr.2⟩
  · have HRt := hide hRt
    obtain rfl : t = false := bool_no ht hRt
    clear ht hRt
    obtain ⟨⟨u0, u1⟩, ⟨u2, u3⟩, ⟨u4, u5⟩, ⟨u6, u7⟩, ⟨u8, u9⟩⟩ := HR1.out
    go_wp2
    have HR6 := HR1.out.put (.slice none 0 0) (.slice none 0 0) (.int .i64 0) (.int .i64 0) (.int .i64 1)
    have hpr := none_ret (R := w.heap.size + 1 + 1) (u2 := .int .i64 0) (u3 := .int .i64 0) (u4 := .int .i64 1) (by omega) hB1
    rw [take_form (fun h => HRt.out h.1)]
    exact bodyPost_ret (v := .agg #[.slice none 0 0, .slice none 0 0, .int .i64 0, .int .i64 0, .int .i64 1]) (by simp [results, Try.results8, go_sem, HR6.1.1, HR6.2.1.1, HR6.2.2.1.1, HR6.2.2.2.1.1, HR6.2.2.2.2.1]) rfl ⟨_, _, rfl, hpr.1, hpr.2⟩

end Go.Proofs.Ytikhipekmlhibaa

namespace Go.Proofs.Ytikhipekmlhibaa
open Go.RowKit
set_option linter.unusedVariables false

/-- A slot as the draws make them. -/
def SlotB (s : SlotD) : Prop := s.kn ≤ 9 ∧ s.data.size ≤ 17
/-- A pool as the draws make them: at most N slots, at most m held. -/
def PoolB (N m : Nat) (p : PoolD) : Prop := 1 ≤ p.n ∧ p.n ≤ N ∧ (∀ i, i < p.n → SlotB (p.s i)) ∧ p.hn ≤ m

theorem slotsN_b {f : Nat → SlotD} : ∀ n, (∀ i, i < n → SlotB (f i)) → slotsN f n ≤ 26 * n
  | 0, _ => Nat.le_refl _
  | n + 1, h => by
    have h1 := slotsN_b n (fun i hi => h i (by omega))
    have h2 := h n (by omega)
    unfold SlotB at h2
    show slotsN f n + slotN (f n) ≤ _
    unfold slotN
    omega
theorem PoolB.small {N m : Nat} {p : PoolD} (h : PoolB N m p) (hN : N ≤ 1000) (hm : m ≤ 1000) : poolN p ≤ 100000 := by
  have := slotsN_b p.n h.2.2.1
  have h1 := h.2.1
  have h2 := h.2.2.2
  unfold poolN
  omega
theorem PoolB.mono {N m m' : Nat} {p : PoolD} (h : PoolB N m p) (hm : m ≤ m') : PoolB N m' p := ⟨h.1, h.2.1, h.2.2.1, Nat.le_trans h.2.2.2 hm⟩
theorem slotB_zero : SlotB zeroS := ⟨Nat.zero_le _, Nat.zero_le _⟩
theorem PoolB.new {N : Nat} {n : Nat} (h0 : 1 ≤ n) (h : n ≤ N) : PoolB N 0 (newP n) := ⟨h0, h, fun _ _ => slotB_zero, Nat.le_refl _⟩
theorem PoolB.set {N m : Nat} {p : PoolD} (h : PoolB N m p) (i : Nat) {s : SlotD} (hs : SlotB s) : PoolB N m (setS p i s) := by
  refine ⟨h.1, h.2.1, fun j hj => ?_, h.2.2.2⟩
  show SlotB (if j = i then s else p.s j)
  split
  · exact hs
  · exact h.2.2.1 j hj
theorem PoolB.hold {N m : Nat} {p : PoolD} (h : PoolB N m p) (xs : Int) : PoolB N (m + 1) (holdD p xs) := ⟨h.1, h.2.1, h.2.2.1, Nat.succ_le_succ h.2.2.2⟩
theorem PoolB.swept {N m : Nat} {p : PoolD} (h : PoolB N m p) : PoolB N m (swept p) := by
  refine ⟨h.1, h.2.1, fun j hj => ?_, Nat.zero_le _⟩
  open Classical in
  show SlotB (if Has p.hn p.h (j : Int) then zeroS else p.s j)
  split
  · exact slotB_zero
  · exact h.2.2.1 j hj
theorem PoolB.sync {N m : Nat} {p : PoolD} (h : PoolB N m p) : PoolB N m (syncP p) := by
  unfold syncP
  split
  · exact h.swept
  · exact h
theorem first_some {f : Nat → SlotD} : ∀ {n : Nat}, ¬ (∀ j, j < n → ¬ Free (f j)) → ∃ i, First n f i
  | 0, h => absurd (fun j hj => absurd hj (Nat.not_lt_zero _)) h
  | n + 1, h => by
    by_cases hn : ∀ j, j < n → ¬ Free (f j)
    · refine ⟨n, by omega, ?_, hn⟩
      by_cases hf : Free (f n)
      · exact hf
      · refine absurd (fun j hj => ?_) h
        by_cases e : j = n
        · rw [e]; exact hf
        · exact hn j (by omega)
    · obtain ⟨i, h1, h2⟩ := first_some hn
      exact ⟨i, by omega, h2⟩
theorem take_b {N m : Nat} {p : PoolD} {s : SlotD} (h : PoolB N m p) (hs : SlotB s) (hc : (takeP p s).code = 0) : PoolB N m (takeP p s).pool := by
  by_cases h1 : Right p ∧ ¬ Free s ∧ Fits p s
  · by_cases h2 : ∀ j, j < p.n → ¬ Free (p.s j)
    · rw [take_full h1 h2] at hc
      exact absurd hc (by decide)
    · obtain ⟨i, hi⟩ : ∃ i, First p.n p.s i := first_some h2
      rw [take_ok h1 hi]
      exact h.set i hs
  · rw [take_form h1] at hc
    exact absurd hc (by decide)
theorem hold_b {N m : Nat} {p : PoolD} {xs xb : Int} (h : PoolB N m p) (hc : (holdP p xs xb).code = 0) : PoolB N (m + 1) (holdP p xs xb).pool := by
  by_cases h1 : Right p
  · by_cases h2 : Points p xs xb ∧ ¬ Has p.hn p.h xs
    · rw [hold_ok h1 h2.1 h2.2]
      exact h.hold xs
    · rw [hold_none h1 h2] at hc
      exact absurd hc (by decide)
  · rw [hold_form h1] at hc
    exact absurd hc (by decide)

/-- A variable that holds a pool of its own, which lies elsewhere. -/
structure PoolV (w wx : World) (X : Nat) (v0 v1 : Value) (q : PoolD) : Prop where
  box : Box2 wx X v0 v1
  own : ∃ lo hi, PoolOwn wx lo hi v0 v1 q ∧ w.heap.size < lo ∧ hi ≤ wx.heap.size ∧ (hi ≤ X ∨ X < lo)

theorem PoolV.turned {w wx wy : World} {X B : Nat} {v0 v1 : Value} {q : PoolD} (h : PoolV w wx X v0 v1 q) (t : Turned (fun k => k = B) wx wy) (hB : B < w.heap.size) (hX : w.heap.size ≤ X) : PoolV w wy X v0 v1 q := by
  obtain ⟨lo, hi, h1, h2, h3, h4⟩ := h.own
  exact ⟨h.box.turned t (by omega), lo, hi, h1.turned t (fun k hk => by omega), h2, Nat.le_trans h3 t.size, h4⟩
theorem PoolV.below {w wx wy : World} {X : Nat} {v0 v1 : Value} {q : PoolD} (h : PoolV w wx X v0 v1 q) (t : Below wx.heap.size wx wy) : PoolV w wy X v0 v1 q := by
  obtain ⟨lo, hi, h1, h2, h3, h4⟩ := h.own
  exact ⟨h.box.below t, lo, hi, h1.below t, h2, Nat.le_trans h3 t.size, h4⟩
theorem PoolV.at {w wx : World} {X : Nat} {v0 v1 : Value} {q : PoolD} (h : PoolV w wx X v0 v1 q) : PoolAt wx w.heap.size wx.heap.size v0 v1 q := by
  obtain ⟨lo, hi, h1, h2, h3, h4⟩ := h.own
  exact (h1.wide (Nat.le_of_lt h2) h3).at
theorem PoolV.at1 {w wx : World} {X : Nat} {v0 v1 : Value} {q : PoolD} (h : PoolV w wx X v0 v1 q) : PoolAt wx (w.heap.size + 1) wx.heap.size v0 v1 q := by
  obtain ⟨lo, hi, h1, h2, h3, h4⟩ := h.own
  exact (h1.wide h2 h3).at
theorem PoolV.form {w wx : World} {X : Nat} {v0 v1 : Value} {q : PoolD} (h : PoolV w wx X v0 v1 q) : ∃ a c a' c', v0 = .slice a q.n c ∧ v1 = .slice a' q.hn c' := by
  obtain ⟨lo, hi, h1, _⟩ := h.own
  exact h1.form

/-- What stands while l01Pool goes on: the source, the result's variable (in the block of w's size). -/
structure PoolI (w wx : World) (B : Nat) : Prop where
  src : Src wx B
  turn : Turned (fun k => k = B) w wx
  res : Box2 wx w.heap.size (.slice none 0 0) (.slice none 0 0)
  place : B < w.heap.size

theorem PoolI.next {w wx wy : World} {B : Nat} (h : PoolI w wx B) (hs : Src wy B) (t : Turned (fun k => k = B) wx wy) : PoolI w wy B :=
  ⟨hs, h.turn.trans t, h.res.turned t (by have := h.place; omega), h.place⟩
theorem PoolI.below {w wx wy : World} {B : Nat} (h : PoolI w wx B) (t : Below wx.heap.size wx wy) : PoolI w wy B :=
  ⟨h.src.below t, h.turn.trans (Turned.of_below t), h.res.below t, h.place⟩
theorem PoolI.late {w wx wy : World} {B C : Nat} (h : PoolI w wx B) (t : Turned (fun k => k = C) wx wy) (hC : w.heap.size < C) : PoolI w wy B :=
  ⟨h.src.turned t (fun k hk => by have := h.place; omega), only_src h.turn t (by omega), h.res.turned t (by omega), h.place⟩

/-- A variable that holds an answer of its own. -/
structure OutV (w wx : World) (Y : Nat) (v0 v1 : Value) (o : OutD) : Prop where
  box : Box5 wx Y v0 v1 (.int .i64 o.ps) (.int .i64 o.pb) (.int .i64 o.code)
  own : ∃ lo hi, PoolOwn wx lo hi v0 v1 o.pool ∧ w.heap.size ≤ lo ∧ hi ≤ wx.heap.size ∧ (hi ≤ Y ∨ Y < lo)
  place : w.heap.size ≤ Y ∧ Y < wx.heap.size

theorem OutV.turned {w wx wy : World} {Y B : Nat} {v0 v1 : Value} {o : OutD} (h : OutV w wx Y v0 v1 o) (t : Turned (fun k => k = B) wx wy) (hB : B < w.heap.size) : OutV w wy Y v0 v1 o := by
  obtain ⟨lo, hi, h1, h2, h3, h4⟩ := h.own
  have := h.place
  exact ⟨h.box.turned t (by omega), ⟨lo, hi, h1.turned t (fun k hk => by omega), h2, Nat.le_trans h3 t.size, h4⟩, this.1, Nat.lt_of_lt_of_le this.2 t.size⟩
theorem OutV.form {w wx : World} {Y : Nat} {v0 v1 : Value} {o : OutD} (h : OutV w wx Y v0 v1 o) : ∃ a c a' c', v0 = .slice a o.pool.n c ∧ v1 = .slice a' o.pool.hn c' := by
  obtain ⟨lo, hi, h1, _⟩ := h.own
  exact h1.form
theorem outV_late {o : OutD} {w wm w2 : World} {v0 v1 : Value} {t : TypeId} (hm : w.heap.size ≤ wm.heap.size) (hz : wm.heap.size ≤ w2.heap.size) (ho : PoolOwn w2 wm.heap.size w2.heap.size v0 v1 o.pool) :
    OutV w (w2.alloc (.cells #[v0, v1, .int .i64 o.ps, .int .i64 o.pb, .int .i64 o.code] t)) w2.heap.size v0 v1 o :=
  ⟨Box5.new _ _ _ _ _ _ _, ⟨_, _, ho.below (below_alloc _ _), hm, by rw [World.size_alloc]; omega, Or.inl (Nat.le_refl _)⟩, by omega, by rw [World.size_alloc]; omega⟩
theorem outV_early {o : OutD} {w wm w2 : World} {Y : Nat} {v0 v1 o0 o1 o2 o3 o4 : Value} (hL : Box5 w2 Y o0 o1 o2 o3 o4) (hY : w.heap.size ≤ Y) (hm : Y < wm.heap.size) (ho : PoolOwn w2 wm.heap.size w2.heap.size v0 v1 o.pool) :
    OutV w (put5 w2 Y v0 v1 (.int .i64 o.ps) (.int .i64 o.pb) (.int .i64 o.code)) Y v0 v1 o := by
  have t := Turned.put5 w2 Y v0 v1 (.int .i64 o.ps) (.int .i64 o.pb) (.int .i64 o.code)
  have hz := t.size
  have hY2 := hL.1.lt
  exact ⟨hL.put _ _ _ _ _, ⟨_, _, ho.turned t (fun k hk => by omega), by omega, hz, Or.inr hm⟩, hY, by omega⟩

end Go.Proofs.Ytikhipekmlhibaa

namespace Go.Proofs.Ytikhipekmlhibaa
open Go.RowKit
set_option linter.unusedVariables false

/-- A list of numbers with room behind it is a row that may be appended to. -/
theorem IntsOwn.row {w : World} {b n c : Nat} {a : Option Addr} {f : Nat → Int} (h : IntsOwn w b (.slice a n c) n f) (hlt : n < c) : w.ownsRow b 2 1 (.slice a n c) n (ic f n) ∧ a = some ⟨b, 0, none⟩ ∧ 0 < n := by
  obtain ⟨hm, a0, c0, hv, hcc, hc, hr⟩ := h
  simp only [Value.slice.injEq, true_and] at hv
  obtain ⟨rfl, rfl⟩ := hv
  obtain ⟨h0, rfl, hcm, cur, hcur, hsz⟩ := hr hlt
  obtain ⟨off, ha, hcell⟩ := hc h0
  simp only [Option.some.injEq, Addr.mk.injEq, true_and, and_true] at ha
  subst ha
  refine ⟨⟨ic_len _ _, .inr ⟨b, c, cur, rfl, Nat.le_refl _, hcur, hcc, hcm, by simpa using hsz, ?_⟩⟩, rfl, h0⟩
  apply List.ext_getElem?
  intro j
  by_cases hj : j < n
  · have e := (hcell j hj).1
    rw [Nat.zero_add, cell_of_row w b j cur _ (0, 0) hcur] at e
    rw [List.getElem?_take, if_pos (by omega), ic_at f n j hj]
    simpa using e
  · rw [List.getElem?_eq_none (by simp; omega), List.getElem?_eq_none (by rw [ic_len]; omega)]

theorem IntsOwn.block {w : World} {b n : Nat} {v : Value} {f : Nat → Int} (h : IntsOwn w b v n f) (h0 : 0 < n) : v.ownBlock = some b := by
  obtain ⟨_, a, c, rfl, _, hc, _⟩ := h
  obtain ⟨off, rfl, _⟩ := hc h0
  rfl

/-- One more is held: the list has been appended to, and laid into the variable X. -/
theorem append_held {wa wb : World} {L lo hi X g cap base : Nat} {v0 v1 : Value} {q : PoolD} {x : Int} (ho : PoolOwn wa lo hi v0 v1 q) (hhi : hi ≤ wa.heap.size) (hL : L ≤ lo)
    (t : Turned (fun k => 0 < q.hn ∧ v1.ownBlock = some k) wa wb)
    (hrow : wb.ownsRow base 2 1 (.slice (some ⟨g, 0, none⟩) (q.hn + 1) cap) (q.hn + 1) (ic q.h q.hn ++ [.int .i64 x]))
    (hat : (0 < q.hn ∧ v1.ownBlock = some g) ∨ (wa.heap.size ≤ g ∧ L ≤ g)) (hX : hi ≤ X ∨ X < lo) (hXg : g ≠ X) (hm : q.hn + 1 ≤ maxLen) :
    PoolOwn (wb.setCell ⟨X, 1, none⟩ (.slice (some ⟨g, 0, none⟩) (q.hn + 1) cap)) L wb.heap.size v0 (.slice (some ⟨g, 0, none⟩) (q.hn + 1) cap) (holdD q x) := by
  obtain ⟨bs, hb, kb, kv, h1, h2, h3, h4, h5⟩ := ho
  have tX := Turned.put wb X 1 (.slice (some ⟨g, 0, none⟩) (q.hn + 1) cap)
  have hsb : ∀ k, SlotsB bs kb q.n q.s k → ¬ (0 < q.hn ∧ v1.ownBlock = some k) := fun k hk hx => by
    rw [h3.block hx.1] at hx
    simp only [Option.some.injEq] at hx
    exact h4 hx.1 (hx.2 ▸ hk)
  have hsX : ∀ k, SlotsB bs kb q.n q.s k → ¬ k = X := fun k hk e => by have := h5 k (Or.inl hk); omega
  have s1 := (h1.turned t (fun h0 => hsb _ (Or.inl ⟨h0, rfl⟩)) (fun i hi h => hsb _ (Or.inr ⟨i, hi, h, rfl⟩))).turned tX (fun h0 => hsX _ (Or.inl ⟨h0, rfl⟩)) (fun i hi h => hsX _ (Or.inr ⟨i, hi, h, rfl⟩))
  rw [← ic_hold] at hrow
  have hrow2 := hrow.kept (grown_of_turned tX) (Or.inr (by simp [Value.ownBlock]; exact hXg))
  obtain ⟨gb, hi2, hg2⟩ := ints_of_owns2 (f := (holdD q x).h) hm hrow2 (fun e => absurd e (Nat.succ_ne_zero _))
  obtain rfl : g = gb := by have := hg2 (Nat.succ_pos _); simpa [Value.ownBlock] using this
  have hgl := hrow.lt g rfl
  refine ⟨bs, g, kb, kv, s1, h2, hi2, fun _ hx => ?_, fun k hk => ?_⟩
  · rcases hat with ⟨h0, he⟩ | ⟨he, _⟩
    · exact hsb g hx ⟨h0, he⟩
    · have := h5 g (Or.inl hx); omega
  · have hz := t.size
    rcases hk with hk | ⟨_, rfl⟩
    · have := h5 k (Or.inl hk); omega
    · rcases hat with ⟨h0, he⟩ | ⟨he, he2⟩
      · rw [h3.block h0] at he
        simp only [Option.some.injEq] at he
        have := h5 hb (Or.inr ⟨h0, rfl⟩)
        omega
      · omega

/-- The first slot's birth is written. -/
theorem PoolOwn.birth {w : World} {lo hi : Nat} {a : Option Addr} {c : Nat} {v1 : Value} {p : PoolD} (h : PoolOwn w lo hi (.slice a p.n c) v1 p) (h0 : 0 < p.n) :
    ∃ bs off, a = some ⟨bs, off, none⟩ ∧ (lo ≤ bs ∧ bs < hi) ∧ Cell w bs off (.int .i64 (p.s 0).birth) ∧ ∀ x : Int, PoolOwn (w.setCell ⟨bs, off, none⟩ (.int .i64 x)) lo hi (.slice a p.n c) v1 (setS p 0 { birth := x, kn := (p.s 0).kn, ks := (p.s 0).ks, kb := (p.s 0).kb, data := (p.s 0).data }) := by
  obtain ⟨bs, hb, kb, kv, ⟨hm, a0, c0, hv, hcc, hx⟩, hap, hint, hnb, hpl⟩ := h
  simp only [Value.slice.injEq, true_and] at hv
  obtain ⟨rfl, rfl⟩ := hv
  obtain ⟨off, ha, hsl⟩ := hx h0
  have hbs := hpl bs (Or.inl (Or.inl ⟨h0, rfl⟩))
  have hb0 := (hsl 0 h0).birth
  rw [Nat.zero_mul, Nat.add_zero] at hb0
  have hkn : ∀ (x : Int) j, ((setS p 0 { birth := x, kn := (p.s 0).kn, ks := (p.s 0).ks, kb := (p.s 0).kb, data := (p.s 0).data }).s j).kn = (p.s j).kn := fun x j => by
    by_cases e : j = 0
    · subst e; rfl
    · simp only [setS, if_neg e]
  have hsb : ∀ (x : Int) k, SlotsB bs kb p.n (setS p 0 { birth := x, kn := (p.s 0).kn, ks := (p.s 0).ks, kb := (p.s 0).kb, data := (p.s 0).data }).s k ↔ SlotsB bs kb p.n p.s k := fun x k => by
    unfold SlotsB
    simp only [hkn]
  refine ⟨bs, off, ha, hbs, hb0, fun x => ⟨bs, hb, kb, kv, ⟨hm, a, c, rfl, hcc, fun _ => ⟨off, ha, fun j hj => ?_⟩⟩, fun i j hi hj hij g1 g2 => ?_, ?_, fun g0 hq => ?_, fun k hk => ?_⟩⟩
  · have hj' := hsl j hj
    by_cases e : j = 0
    · subst e
      simp only [setS, if_true]
      rw [Nat.zero_mul, Nat.add_zero] at hj' ⊢
      exact ⟨hj'.birth.set _, hj'.kidsv.other _ (Or.inr (by omega)), hj'.data.other _ (Or.inr (by omega)), hj'.kids.turned (Turned.put _ _ _ _) (fun hk e => hj'.apart hk e), hj'.small, hj'.apart⟩
    · simp only [setS, if_neg e]
      exact ⟨hj'.birth.other _ (Or.inr (by omega)), hj'.kidsv.other _ (Or.inr (by omega)), hj'.data.other _ (Or.inr (by omega)), hj'.kids.turned (Turned.put _ _ _ _) (fun hk e => hj'.apart hk e), hj'.small, hj'.apart⟩
  · rw [hkn] at g1 g2
    exact hap i j hi hj hij g1 g2
  · exact hint.turned (Turned.put _ _ _ _) (fun g0 e => hnb g0 (Or.inl ⟨h0, e⟩))
  · exact hnb g0 ((hsb x hb).1 hq)
  · refine hpl k ?_
    rcases hk with hk | hk
    · exact Or.inl ((hsb x k).1 hk)
    · exact Or.inr hk

end Go.Proofs.Ytikhipekmlhibaa
