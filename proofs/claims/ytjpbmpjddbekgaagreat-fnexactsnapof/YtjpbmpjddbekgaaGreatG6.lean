/- What spec.l02Node and spec.l02Page answer. -/
import Derived.Test.YtjpbmpjddbekgaaGreatG5
import Derived.Test.YtjpbmpjddbekgaaGreatG2
import Derived.Laws.OwnMore
import Derived.Lib.SliceRun
import Derived.Test.YtjpbmpjddbekgaaGreatRows
import Derived.Test.YtjpbmpjddbekgaaGreatG1
import Derived.Deep.OwnRows
namespace Go.Proofs.YtjpbmpjddbekgaaGreat
open Go.RowKit
set_option linter.unusedVariables false

theorem hideT {P : Prop} (h : P) : Hid P := h

/-- The two variables with which the calls begin. -/
theorem start22 (w : World) (a0 a1 x0 x1 : Value) (t1 t2 : TypeId) :
    Box2 ((w.alloc (.cells #[a0, a1] t1)).alloc (.cells #[x0, x1] t2)) w.heap.size a0 a1 ∧ Box2 ((w.alloc (.cells #[a0, a1] t1)).alloc (.cells #[x0, x1] t2)) (w.heap.size + 1) x0 x1 ∧
    Below w.heap.size w ((w.alloc (.cells #[a0, a1] t1)).alloc (.cells #[x0, x1] t2)) ∧ ((w.alloc (.cells #[a0, a1] t1)).alloc (.cells #[x0, x1] t2)).heap.size = w.heap.size + 2 := by
  refine ⟨(Box2.new w a0 a1 t1).below (below_alloc _ _), ?_, below_next (below_alloc _ _) (below_alloc _ _), by simp⟩
  have := Box2.new (w.alloc (.cells #[a0, a1] t1)) x0 x1 t2
  rw [World.size_alloc] at this
  exact this

set_option maxRecDepth 20000 in
set_option maxHeartbeats 1000000 in
theorem l02Node_any (v0 v1 : Value) (lo hi : Nat) (p : PoolD) (xs xb : Int) (w : World) (h1 : PoolAt w lo hi v0 v1 p) :
    Calls Tryz.prog 112 #[.agg #[v0, v1], .agg #[.int .i64 xs, .int .i64 xb]] w fun e w' => BoolIs (NodeAt p xs xb) e ∧ Below w.heap.size w w' := by
  have Hp := hideT h1
  obtain ⟨a, c, a', c', rfl, rfl⟩ : ∃ a c a' c', v0 = .slice a p.n c ∧ v1 = .slice a' p.hn c' := by
    obtain ⟨⟨_, a, c, h1, _⟩, ⟨_, a', c', h3, _⟩⟩ := h1
    exact ⟨a, c, a', c', h1, h3⟩
  clear h1
  have hst := start22 w (.slice a p.n c) (.slice a' p.hn c') (.int .i64 xs) (.int .i64 xb) 34 43
  go_enter Tryz.func112, Tryz.ntmps112
  go_wp2_with fail
  generalize (w.alloc (.cells #[.slice a p.n c, .slice a' p.hn c'] 34)).alloc (.cells #[.int .i64 xs, .int .i64 xb] 43) = W at hst ⊢
  obtain ⟨hB, hX, hba, hz⟩ := hst
  refine (l01Points_any _ _ lo hi p xs xb _ (Hp.out.below hba)).mono ?_
  rintro e w1 ⟨⟨t, rfl, ht⟩, hb1⟩
  have HB1 := hideT (hB.below hb1)
  have HX1 := hideT (hX.below hb1)
  have hB1 := below_next hba hb1
  clear hB hX hba hb1
  by_cases hPt : Points p xs xb
  · obtain rfl : t = true := ht.2 hPt
    have HPt := hideT hPt
    obtain ⟨k, rfl⟩ := Int.eq_ofNat_of_zero_le hPt.2.1
    have hk : k < p.n := by have := hPt.2.2.1; omega
    have hk' : (k : Int) < (p.n : Int) := by omega
    clear ht hPt
    obtain ⟨b, off, ka, kc, rfl, hs⟩ := (Hp.out.1.below hB1).cells hk
    obtain ⟨q0, q1, q2, _⟩ := hs
    obtain ⟨⟨x0, x1⟩, ⟨x2, x3⟩⟩ := HB1.out
    obtain ⟨⟨y0, y1⟩, ⟨y2, y3⟩⟩ := HX1.out
    by_cases hkn : 0 < (p.s k).kn
    · have HK := hideT hkn
      have f1 : (0 : Int) < ((p.s k).kn : Int) := by first | omega | simp [hkn]
      clear hkn
      go_wp2_with fail
      refine (l01Has_any _ p.hn lo hi p.h _ _ (Hp.out.2.below hB1)).mono ?_
      rintro e w2 ⟨⟨t2, rfl, ht2⟩, rfl⟩
      have HT := hideT ht2
      clear ht2 x0 x1 x2 x3 y0 y1 y2 y3 q0 q1 q2
      go_wp2
      go_ret
      refine ⟨?_, hB1⟩
      by_cases hh : Has p.hn p.h (k : Int)
      · obtain rfl : t2 = true := HT.out.2 hh
        exact BoolIs.no fun h => h.2.2 hh
      · obtain rfl : t2 = false := bool_no HT.out hh
        refine BoolIs.yes ⟨HPt.out, ?_, hh⟩
        rw [Int.toNat_natCast]
        exact HK.out
    · have HK := hideT hkn
      have f1 : ¬ (0 : Int) < ((p.s k).kn : Int) := by first | omega | (simp; omega)
      clear hkn
      go_wp2
      go_ret
      refine ⟨BoolIs.no fun h => ?_, hB1⟩
      have := h.2.1
      rw [Int.toNat_natCast] at this
      exact HK.out this
  · obtain rfl : t = false := bool_no ht hPt
    have HPt := hideT hPt
    clear ht hPt
    go_wp2
    go_ret
    exact ⟨BoolIs.no fun h => HPt.out h.1, hB1⟩

set_option maxRecDepth 20000 in
set_option maxHeartbeats 1000000 in
theorem l02Page_any (v0 v1 : Value) (lo hi : Nat) (p : PoolD) (xs xb : Int) (w : World) (h1 : PoolAt w lo hi v0 v1 p) :
    Calls Tryz.prog 113 #[.agg #[v0, v1], .agg #[.int .i64 xs, .int .i64 xb]] w fun e w' => BoolIs (PageAt p xs xb) e ∧ Below w.heap.size w w' := by
  have Hp := hideT h1
  obtain ⟨a, c, a', c', rfl, rfl⟩ : ∃ a c a' c', v0 = .slice a p.n c ∧ v1 = .slice a' p.hn c' := by
    obtain ⟨⟨_, a, c, h1, _⟩, ⟨_, a', c', h3, _⟩⟩ := h1
    exact ⟨a, c, a', c', h1, h3⟩
  clear h1
  have hst := start22 w (.slice a p.n c) (.slice a' p.hn c') (.int .i64 xs) (.int .i64 xb) 34 43
  go_enter Tryz.func113, Tryz.ntmps113
  go_wp2_with fail
  generalize (w.alloc (.cells #[.slice a p.n c, .slice a' p.hn c'] 34)).alloc (.cells #[.int .i64 xs, .int .i64 xb] 43) = W at hst ⊢
  obtain ⟨hB, hX, hba, hz⟩ := hst
  refine (l01Points_any _ _ lo hi p xs xb _ (Hp.out.below hba)).mono ?_
  rintro e w1 ⟨⟨t, rfl, ht⟩, hb1⟩
  have HB1 := hideT (hB.below hb1)
  have HX1 := hideT (hX.below hb1)
  have hB1 := below_next hba hb1
  clear hB hX hba hb1
  by_cases hPt : Points p xs xb
  · obtain rfl : t = true := ht.2 hPt
    have HPt := hideT hPt
    obtain ⟨k, rfl⟩ := Int.eq_ofNat_of_zero_le hPt.2.1
    have hk : k < p.n := by have := hPt.2.2.1; omega
    have hk' : (k : Int) < (p.n : Int) := by omega
    clear ht hPt
    obtain ⟨b, off, ka, kc, rfl, hs⟩ := (Hp.out.1.below hB1).cells hk
    obtain ⟨q0, q1, q2, _⟩ := hs
    obtain ⟨⟨x0, x1⟩, ⟨x2, x3⟩⟩ := HB1.out
    obtain ⟨⟨y0, y1⟩, ⟨y2, y3⟩⟩ := HX1.out
    by_cases hkn : (p.s k).kn = 0
    · have HK := hideT hkn
      have f1 : (((p.s k).kn : Int) == 0) = true := by first | omega | simp [hkn]
      clear hkn
      go_wp2_with fail
      refine (l01Has_any _ p.hn lo hi p.h _ _ (Hp.out.2.below hB1)).mono ?_
      rintro e w2 ⟨⟨t2, rfl, ht2⟩, rfl⟩
      have HT := hideT ht2
      clear ht2 x0 x1 x2 x3 y0 y1 y2 y3 q0 q1 q2
      go_wp2
      go_ret
      refine ⟨?_, hB1⟩
      by_cases hh : Has p.hn p.h (k : Int)
      · obtain rfl : t2 = true := HT.out.2 hh
        exact BoolIs.no fun h => h.2.2 hh
      · obtain rfl : t2 = false := bool_no HT.out hh
        refine BoolIs.yes ⟨HPt.out, ?_, hh⟩
        rw [Int.toNat_natCast]
        exact HK.out
    · have HK := hideT hkn
      have f1 : (((p.s k).kn : Int) == 0) = false := by first | omega | (simp; omega)
      clear hkn
      go_wp2
      go_ret
      refine ⟨BoolIs.no fun h => ?_, hB1⟩
      have := h.2.1
      rw [Int.toNat_natCast] at this
      exact HK.out this
  · obtain rfl : t = false := bool_no ht hPt
    have HPt := hideT hPt
    clear ht hPt
    go_wp2
    go_ret
    exact ⟨BoolIs.no fun h => HPt.out h.1, hB1⟩

end Go.Proofs.YtjpbmpjddbekgaaGreat

namespace Go.Proofs.YtjpbmpjddbekgaaGreat
open Go.RowKit
set_option linter.unusedVariables false

/-- A slot has a Kid, and all that are not none are so. -/
def StepShape (p : PoolD) (Low : SlotD → Prop) (s : SlotD) : Prop := (∃ i, i < 8 ∧ ¬ Nil (kidS s i) (kidB s i)) ∧ ∀ i, i < 8 → Nil (kidS s i) (kidB s i) ∨ Low (p.s (kidS s i).toNat)

/-- What is known of a call of impl.shapeRight on one level. -/
def ShapeAt (p : PoolD) (L : Int) (Low : SlotD → Prop) : Prop := ∀ (v : Value) (lo hi : Nat) (xs xb : Int) (w : World), SlotsAt w lo hi v p.n p.s → Points p xs xb →
  Calls Tryz.prog 161 #[v, .agg #[.int .i64 xs, .int .i64 xb], .int .i64 L] w fun e w' => BoolIs (Low (p.s xs.toNat)) e ∧ Below w.heap.size w w'

theorem zero_kids (s : SlotD) : eq16 (kidCell s) (fun _ => 0) = true ↔ ¬ ∃ i, i < 8 ∧ ¬ Nil (kidS s i) (kidB s i) := by
  rw [eq16_iff]
  constructor
  · rintro h ⟨i, hi, hn⟩
    exact hn (h i hi)
  · intro h i hi
    by_cases hn : Nil (kidS s i) (kidB s i)
    · exact hn
    · exact absurd ⟨i, hi, hn⟩ h

set_option maxRecDepth 20000 in
set_option maxHeartbeats 1000000 in
theorem shape2_any (p : PoolD) : ShapeAt p 2 Page := by
  intro v lo hi xs xb w hs hP
  have Hs := hideT hs
  obtain ⟨_, a, c, rfl, _⟩ := id hs
  obtain ⟨k, rfl⟩ := Int.eq_ofNat_of_zero_le hP.2.1
  have hk : k < p.n := by have := hP.2.2.1; omega
  have hk' : (k : Int) < (p.n : Int) := by omega
  have ha := below_alloc w (.cells #[.int .i64 (k : Int), .int .i64 xb] 43)
  obtain ⟨⟨x0, x1⟩, ⟨x2, x3⟩⟩ := Box2.new w (.int .i64 (k : Int)) (.int .i64 xb) 43
  obtain ⟨b, off, ka, kc, rfl, hsc⟩ := (Hs.out.below ha).cells hk
  have HC := hideT hsc
  obtain ⟨q0, q1, q2, _⟩ := hsc
  clear hs hP
  go_enter Tryz.func161, Tryz.ntmps161
  go_wp2_with fail
  have ha2 := below_alloc (w.alloc (.cells #[.int .i64 (k : Int), .int .i64 xb] 43)) (.cells #[.int .i64 (p.s k).birth, .slice ka (p.s k).kn kc, .string (p.s k).data] 84)
  refine (isPage_any _ _ _ lo hi (p.s k) _ (HC.out.slot.below ha2)).mono ?_
  rintro e w1 ⟨⟨t, rfl, ht⟩, hb1⟩
  have hB := below_next (below_next ha ha2) hb1
  have HT := hideT ht
  clear ht hb1
  go_wp2
  go_ret
  refine ⟨⟨t, rfl, ?_⟩, hB⟩
  rw [Int.toNat_natCast]
  exact HT.out

set_option maxRecDepth 20000 in
set_option maxHeartbeats 2000000 in
theorem shape_step (p : PoolD) (L : Int) (Low : SlotD → Prop) (hR : Right p) (hL : 0 ≤ L ∧ L < 2) (hlow : ShapeAt p (L + 1) Low) : ShapeAt p L (StepShape p Low) := by
  intro v lo hi xs xb w hs hP
  have Hlow := hideT hlow
  have HR := hideT hR
  have Hs := hideT hs
  have HP := hideT hP
  have Hf := hideT (points_fits hR hP)
  obtain ⟨_, a, c, rfl, _⟩ := id hs
  obtain ⟨k, rfl⟩ := Int.eq_ofNat_of_zero_le hP.2.1
  rw [Int.toNat_natCast] at Hf
  have hk : k < p.n := by have := hP.2.2.1; omega
  have hk' : (k : Int) < (p.n : Int) := by omega
  have hL2 : (L == 2) = false := by simp; omega
  have ha := below_alloc w (.cells #[.int .i64 (k : Int), .int .i64 xb] 43)
  obtain ⟨⟨x0, x1⟩, ⟨x2, x3⟩⟩ := Box2.new w (.int .i64 (k : Int)) (.int .i64 xb) 43
  obtain ⟨b, off, ka, kc, rfl, hsc⟩ := (Hs.out.below ha).cells hk
  have HC := hideT hsc
  obtain ⟨q0, q1, q2, _⟩ := hsc
  clear hs hP hlow hR
  go_enter Tryz.func161, Tryz.ntmps161
  go_wp2_with fail
  have ha2 := below_alloc (w.alloc (.cells #[.int .i64 (k : Int), .int .i64 xb] 43)) (.cells #[.int .i64 (p.s k).birth, .slice ka (p.s k).kn kc, .string (p.s k).data] 84)
  refine (kidsOf_any _ _ _ lo hi (p.s k) _ (HC.out.slot.below ha2) (fits_kn Hf.out)).mono ?_
  rintro e w1 ⟨rfl, hb1⟩
  have hB := below_next (below_next ha ha2) hb1
  clear hb1 ha ha2 x0 x1 x2 x3 q0 q1 q2 HC
  have Hi16 : Hid ((Tryz.prog.info? 201).map (·.size) = some (kidsA (p.s k)).size) := by
    show _ = _
    rw [kidsA, arr16_size]; exact infoArr
  have Hz16 : Hid ((#[Value.int .i64 0, Value.int .i64 0, Value.int .i64 0, Value.int .i64 0, Value.int .i64 0, Value.int .i64 0, Value.int .i64 0, Value.int .i64 0, Value.int .i64 0, Value.int .i64 0, Value.int .i64 0, Value.int .i64 0, Value.int .i64 0, Value.int .i64 0, Value.int .i64 0, Value.int .i64 0] : Array Value) = arr16 (fun _ => 0)) := rfl
  have heql : ∀ w, (binOp .eql 201 (.agg (kidsA (p.s k))) (.agg #[Value.int .i64 0, Value.int .i64 0, Value.int .i64 0, Value.int .i64 0, Value.int .i64 0, Value.int .i64 0, Value.int .i64 0, Value.int .i64 0, Value.int .i64 0, Value.int .i64 0, Value.int .i64 0, Value.int .i64 0, Value.int .i64 0, Value.int .i64 0, Value.int .i64 0, Value.int .i64 0])).run Tryz.prog w = .ok (.bool (eq16 (kidCell (p.s k)) (fun _ => 0))) w := fun w => eql_arr (kidCell (p.s k)) (fun _ => 0) w
  have hblk : (w1.alloc (.cells (kidsA (p.s k)) 201)).heap[w1.heap.size]? = some (.cells (kidsA (p.s k)) 201 (0, 0)) := heap_alloc_last _ _
  have HK := hideT hblk
  have hB2 := below_next hB (below_alloc w1 (.cells (kidsA (p.s k)) 201))
  clear hblk hB
  by_cases hz : eq16 (kidCell (p.s k)) (fun _ => 0) = true
  · have HZ := hideT ((zero_kids _).1 hz)
    go_wp2_with (first
      | (refine wpList_store_row rfl 201 (.tmp 8) (.tmp 20) rfl w1.heap.size (kidsA (p.s k)) rfl rfl 201 #[Value.int .i64 0, Value.int .i64 0, Value.int .i64 0, Value.int .i64 0, Value.int .i64 0, Value.int .i64 0, Value.int .i64 0, Value.int .i64 0, Value.int .i64 0, Value.int .i64 0, Value.int .i64 0, Value.int .i64 0, Value.int .i64 0, Value.int .i64 0, Value.int .i64 0, Value.int .i64 0] (heap_alloc_last _ _) Hi16.out (by rw [kidsA, arr16_size]; rfl) (arr16_one _) ?_; rw [World.setRow_alloc_new])
      | (refine wpList_load_row rfl 201 (.tmp 8) rfl w1.heap.size rfl 201 (kidsA (p.s k)) (0, 0) _ HK.out arrU rfl Hi16.out ?_))
    go_ret
    exact ⟨BoolIs.no fun h => HZ.out (by rw [Int.toNat_natCast] at h; exact h.1), hB2⟩
  · have HZ : Hid (∃ i, i < 8 ∧ ¬ Nil (kidS (p.s k) i) (kidB (p.s k) i)) := by
      by_cases h : ∃ i, i < 8 ∧ ¬ Nil (kidS (p.s k) i) (kidB (p.s k) i)
      · exact h
      · exact absurd ((zero_kids _).2 h) hz
    have hz' : eq16 (kidCell (p.s k)) (fun _ => 0) = false := by simpa using hz
    clear hz
    go_wp2_with (first
      | (refine wpList_store_row rfl 201 (.tmp 8) (.tmp 20) rfl w1.heap.size (kidsA (p.s k)) rfl rfl 201 #[Value.int .i64 0, Value.int .i64 0, Value.int .i64 0, Value.int .i64 0, Value.int .i64 0, Value.int .i64 0, Value.int .i64 0, Value.int .i64 0, Value.int .i64 0, Value.int .i64 0, Value.int .i64 0, Value.int .i64 0, Value.int .i64 0, Value.int .i64 0, Value.int .i64 0, Value.int .i64 0] (heap_alloc_last _ _) Hi16.out (by rw [kidsA, arr16_size]; rfl) (arr16_one _) ?_; rw [World.setRow_alloc_new])
      | (refine wpList_load_row rfl 201 (.tmp 8) rfl w1.heap.size rfl 201 (kidsA (p.s k)) (0, 0) _ HK.out arrU rfl Hi16.out ?_))
    have hz1 : w1.heap.size < (w1.alloc (.cells (kidsA (p.s k)) 201)).heap.size := by rw [World.size_alloc]; exact Nat.lt_succ_self _
    go_loopw [24] (fun i wr => ∃ j : Nat, j ≤ 8 ∧ i = .int .i64 j ∧ (∀ m, m < j → Nil (kidS (p.s k) m) (kidB (p.s k) m) ∨ Low (p.s (kidS (p.s k) m).toNat)) ∧ wr.heap[w1.heap.size]? = some (.cells (kidsA (p.s k)) 201 (0, 0)) ∧ Below w.heap.size w wr) (fun i _ => 8 - (intOf i).toNat)
    case atStart => exact ⟨0, Nat.zero_le _, rfl, fun m hm => absurd hm (Nat.not_lt_zero _), HK.out, hB2⟩
    case round =>
      obtain ⟨j, hj, rfl, hall, hK, hb⟩ := hrel
      have Hall := hideT hall
      have HKr := hideT hK
      have hszK : w1.heap.size < wr.heap.size := (Array.getElem?_eq_some_iff.1 hK).1
      clear hall hK
      by_cases hlt : j < 8
      · have hlt' : (j : Int) < 8 := by omega
        obtain ⟨y0, y1⟩ := cell_of_block (i := j * 2) HKr.out (arr16_at (kidCell (p.s k)) (by omega))
        obtain ⟨y2, y3⟩ := cell_of_block (i := j * 2 + 1) HKr.out (arr16_at (kidCell (p.s k)) (by omega))
        by_cases hn : Nil (kidS (p.s k) j) (kidB (p.s k) j)
        · have HN := hideT hn
          rw [show kidCell (p.s k) (j * 2) = 0 from hn.1] at y0
          rw [show kidCell (p.s k) (j * 2 + 1) = 0 from hn.2] at y2
          clear hn
          go_wp2
          go_roundw
          case rel => exact ⟨j + 1, by omega, by go_num, relNext (n := 8) hlt Hall.out (Or.inl HN.out), HKr.out, hb⟩
          case measure => simp [intOf]; omega
        · have HN := hideT hn
          have hkp := hideT (kid_points Hf.out hlt hn).1
          have e0 : (kidCell (p.s k) (j * 2) == 0) = false ∨ (kidCell (p.s k) (j * 2) == 0) = true ∧ (kidCell (p.s k) (j * 2 + 1) == 0) = false := by
            by_cases h : kidCell (p.s k) (j * 2) = 0
            · right
              refine ⟨by simp [h], ?_⟩
              have : kidCell (p.s k) (j * 2 + 1) ≠ 0 := fun h' => hn ⟨h, h'⟩
              simp [this]
            · left; simp [h]
          clear hn
          rcases e0 with e0 | ⟨e0, e1⟩
          all_goals
            go_wp2_with fail
            refine (Hlow.out _ lo hi (kidCell (p.s k) (j * 2)) (kidCell (p.s k) (j * 2 + 1)) _ (Hs.out.below hb) hkp.out).mono ?_
            rintro e w2 ⟨⟨t, rfl, ht⟩, hb2⟩
            have HT := hideT ht
            have HK2 := hideT ((hb2.block _ hszK).trans HKr.out)
            have hbn := below_next hb hb2
            clear ht hb2 y0 y1 y2 y3
            cases t
            · go_wp2
              go_ret
              refine ⟨BoolIs.no fun h => ?_, hbn⟩
              rw [Int.toNat_natCast] at h
              rcases h.2 j hlt with h1 | h1
              · exact HN.out h1
              · exact absurd (HT.out.2 h1) (by simp)
            · go_wp2
              go_roundw
              case rel => exact ⟨j + 1, by omega, by go_num, relNext (n := 8) hlt Hall.out (Or.inr (HT.out.1 trivial)), HK2.out, hbn⟩
              case measure => simp [intOf]; omega
      · obtain rfl : j = 8 := by omega
        go_wp2
        go_ret
        exact ⟨BoolIs.yes (by rw [Int.toNat_natCast]; exact ⟨HZ.out, Hall.out⟩), hb⟩

theorem shape1_any (p : PoolD) (hR : Right p) : ShapeAt p 1 (Shape1 p) := shape_step p 1 Page hR (by omega) (shape2_any p)
theorem shape0_any (p : PoolD) (hR : Right p) : ShapeAt p 0 (Shape0 p) := shape_step p 0 (Shape1 p) hR (by omega) (shape1_any p hR)

end Go.Proofs.YtjpbmpjddbekgaaGreat

namespace Go.Proofs.YtjpbmpjddbekgaaGreat
open Go.RowKit
set_option linter.unusedVariables false

/-- The answer is a slot that holds what s tells, its Kids in new memory. -/
def NewSlot (s : SlotD) (w : World) (e : Ending) (w' : World) : Prop :=
  ∃ kv kb, e = .returned (.agg #[.int .i64 s.birth, kv, .string s.data]) ∧ PtrsOwn w' kb kv s.kn s.ks s.kb ∧ (0 < s.kn → w.heap.size ≤ kb ∧ kb < w'.heap.size) ∧ Below w.heap.size w w'

/-- The cells of n pointers. -/
def kc (f g : Nat → Int) : Nat → List Value
  | 0 => []
  | k + 1 => kc f g k ++ [.int .i64 (f k), .int .i64 (g k)]

theorem kc_len (f g : Nat → Int) (k : Nat) : (kc f g k).length = k * 2 := by
  induction k with
  | zero => rfl
  | succ k ih => simp [kc, ih]; omega

theorem kc_at (f g : Nat → Int) (k i r : Nat) (hi : i < k) (hr : r < 2) : (kc f g k)[i * 2 + r]? = [Value.int .i64 (f i), .int .i64 (g i)][r]? := by
  induction k with
  | zero => omega
  | succ k ih =>
    unfold kc
    by_cases e : i < k
    · rw [List.getElem?_append_left (by rw [kc_len]; omega)]; exact ih e
    · obtain rfl : i = k := by omega
      rw [List.getElem?_append_right (by rw [kc_len]; omega), kc_len]
      congr 1; omega

theorem kc_one (f g : Nat → Int) (k : Nat) : ∀ u ∈ kc f g k, u.oneCell' = true := by
  induction k with
  | zero => intro u hu; simp [kc] at hu
  | succ k ih =>
    intro u hu
    simp only [kc, List.mem_append, List.mem_cons, List.not_mem_nil, or_false] at hu
    rcases hu with hu | rfl | rfl
    · exact ih u hu
    · rfl
    · rfl

theorem kc_cells {w : World} {b off : Nat} {f g : Nat → Int} {n : Nat} (h : ∀ i, i < n → w.cell? ⟨b, off + i * 2, none⟩ = some (.int .i64 (f i)) ∧ w.cell? ⟨b, off + i * 2 + 1, none⟩ = some (.int .i64 (g i))) :
    ∀ j u, (kc f g n)[j]? = some u → w.cell? ((⟨b, off, none⟩ : Addr).add j) = some u := by
  intro j u hj
  have hlt : j < n * 2 := by
    have := (List.getElem?_eq_some_iff.1 hj).1
    rwa [kc_len] at this
  have hadd : (⟨b, off, none⟩ : Addr).add j = ⟨b, off + j, none⟩ := by unfold Addr.add; split <;> simp_all
  rw [hadd]
  obtain ⟨c0, c1⟩ := h (j / 2) (by omega)
  have e := kc_at f g n (j / 2) (j % 2) (by omega) (by omega)
  rw [show j / 2 * 2 + j % 2 = j by omega, hj] at e
  rcases (by omega : j % 2 = 0 ∨ j % 2 = 1) with hm | hm
  · rw [hm] at e
    simp at e
    subst e
    rw [show off + j = off + j / 2 * 2 by omega]
    exact c0
  · rw [hm] at e
    simp at e
    subst e
    rw [show off + j = off + j / 2 * 2 + 1 by omega]
    exact c1

theorem ptrs_of_owns {w : World} {base e n : Nat} {v : Value} {f g : Nat → Int} (hm : n ≤ maxLen) (h : w.ownsRow base e 2 v n (kc f g n)) : ∃ kb, PtrsOwn w kb v n f g ∧ (0 < n → base ≤ kb ∧ kb < w.heap.size) := by
  by_cases h0 : 0 < n
  · obtain ⟨gb, cap, rfl, hcp, hb, hlt, hcell⟩ := owns_cell h h0
    refine ⟨gb, ⟨hm, _, cap, rfl, hcp, fun _ => ⟨0, rfl, fun i hi => ⟨?_, ?_⟩⟩⟩, fun _ => ⟨hb, hlt⟩⟩
    · have := hcell (i * 2 + 0) _ (kc_at f g n i 0 hi (by omega))
      simpa using this
    · have := hcell (i * 2 + 1) _ (kc_at f g n i 1 hi (by omega))
      simpa using this
  · obtain ⟨a, cap, rfl, hcp⟩ := owns_form h
    exact ⟨0, ⟨hm, a, cap, rfl, hcp, fun h => absurd h h0⟩, fun h => absurd h h0⟩

theorem run_append_nil {P : Program} {w : World} (base : Nat) (t ty e : TypeId) (i : TypeInfo) (size c : Nat) (ht : P.underlying t = some (.slice e)) (hi : P.info? e = some i)
    (v : Value) (n : Nat) (xs : List Value) (hown : w.ownsRow base e size v n xs) :
    (Builtin.append_ #[t, t] ty #[v, .slice none 0 c]).run P w = .ok v w := by
  rcases hown.2 with ⟨rfl, rfl⟩ | ⟨g, cap, cur, rfl, _, _, hnc, _⟩
  · simp [Builtin.append_, run_underlying ht, sizeOf, typeInfo, hi, Builtin.lenOf, Builtin.firstCells]
  · simp [Builtin.append_, run_underlying ht, sizeOf, typeInfo, hi, Builtin.lenOf, Builtin.firstCells, hnc, storeCells]

theorem wpList_append_nil {P : Program} {w : World} {ops : Array Oper} {rest : List Oper} {o : Oper} {a : Act} {Q : Exit → Act → World → Prop} (hgd : o.guard = none) (s x : Operand) (t : TypeId)
    (ho : o.op = .call { callee := .builtin .append, args := #[s, x], argTypes := #[t, t] })
    (base : Nat) (e : TypeId) (i : TypeInfo) (size c m : Nat) (ht : P.underlying t = some (.slice e)) (hi : P.info? e = some i)
    (v : Value) (n : Nat) (xs : List Value) (hs : a.eval s = v) (hown : w.ownsRow base e size v n xs) (hm : m = 0) (hx : a.eval x = .slice none m c)
    (h : wpList P ops Q rest (a.put o.dst v) w) : wpList P ops Q (o :: rest) a w := by
  subst hm
  refine wpList_plain hgd fun K hK => ?_
  have hrun := run_append_nil (P := P) (w := w) base t o.type e i size c ht hi v n xs hown
  unfold Oper.wp
  simp [execOp, ho, resolve, invoke, builtin, hs, hx, hrun, Result.andThen]
  exact hK _ _ h

/-- Nothing is appended. -/
theorem run_append_zero {P : Program} {w : World} (base : Nat) (t ty e : TypeId) (i : TypeInfo) (size c : Nat) (ao : Option Addr) (ht : P.underlying t = some (.slice e)) (hi : P.info? e = some i)
    (v : Value) (n : Nat) (xs : List Value) (hown : w.ownsRow base e size v n xs) :
    (Builtin.append_ #[t, t] ty #[v, .slice ao 0 c]).run P w = .ok v w := by
  rcases hown.2 with ⟨rfl, rfl⟩ | ⟨g, cap, cur, rfl, _, _, hnc, _⟩
  · cases ao <;> simp [Builtin.append_, run_underlying ht, sizeOf, typeInfo, hi, Builtin.lenOf, Builtin.firstCells, loadCells, loadCellsFrom]
  · cases ao <;> simp [Builtin.append_, run_underlying ht, sizeOf, typeInfo, hi, Builtin.lenOf, Builtin.firstCells, hnc, storeCells, loadCells, loadCellsFrom]

theorem wpList_append_zero {P : Program} {w : World} {ops : Array Oper} {rest : List Oper} {o : Oper} {a : Act} {Q : Exit → Act → World → Prop} (hgd : o.guard = none) (s x : Operand) (t : TypeId)
    (ho : o.op = .call { callee := .builtin .append, args := #[s, x], argTypes := #[t, t] })
    (base : Nat) (e : TypeId) (i : TypeInfo) (size c m : Nat) (ao : Option Addr) (ht : P.underlying t = some (.slice e)) (hi : P.info? e = some i)
    (v : Value) (n : Nat) (xs : List Value) (hs : a.eval s = v) (hown : w.ownsRow base e size v n xs) (hm : m = 0) (hx : a.eval x = .slice ao m c)
    (h : wpList P ops Q rest (a.put o.dst v) w) : wpList P ops Q (o :: rest) a w := by
  subst hm
  refine wpList_plain hgd fun K hK => ?_
  have hrun := run_append_zero (P := P) (w := w) base t o.type e i size c ao ht hi v n xs hown
  unfold Oper.wp
  simp [execOp, ho, resolve, invoke, builtin, hs, hx, hrun, Result.andThen]
  exact hK _ _ h

theorem infoPtrT : (Tryz.prog.info? 43).map (fun i => (i.zero, i.size, i.bytes)) = some (some (.agg #[.int .i64 0, .int .i64 0]), 2, 16) := by kernel_rfl

end Go.Proofs.YtjpbmpjddbekgaaGreat

namespace Go.Proofs.YtjpbmpjddbekgaaGreat
open Go.RowKit
set_option linter.unusedVariables false

/-- The blocks of a row of slots. -/
def SlotsB (bs : Nat) (kb : Nat → Nat) (n : Nat) (f : Nat → SlotD) (k : Nat) : Prop := (0 < n ∧ k = bs) ∨ ∃ i, i < n ∧ 0 < (f i).kn ∧ k = kb i

theorem SlotsOwn.lt {w : World} {bs : Nat} {kb : Nat → Nat} {kv : Nat → Value} {v : Value} {n : Nat} {f : Nat → SlotD} (h : SlotsOwn w bs kb kv v n f) {k : Nat} (hk : SlotsB bs kb n f k) : k < w.heap.size := by
  obtain ⟨_, a, cap, _, _, hc⟩ := h
  rcases hk with ⟨h0, rfl⟩ | ⟨i, hi, h0, rfl⟩
  · obtain ⟨off, _, h3⟩ := hc h0
    exact (h3 0 h0).birth.lt
  · obtain ⟨off, _, h3⟩ := hc (by omega)
    obtain ⟨_, _, _, _, _, h4⟩ := (h3 i hi).kids
    obtain ⟨o, _, h5⟩ := h4 h0
    exact (h5 0 h0).1.lt

/-- A pool in blocks from lo to hi, no two of its lists in one block, all of them free to be written. -/
def PoolOwn (w : World) (lo hi : Nat) (v0 v1 : Value) (p : PoolD) : Prop :=
  ∃ (bs hb : Nat) (kb : Nat → Nat) (kv : Nat → Value), SlotsOwn w bs kb kv v0 p.n p.s ∧ KidsApart kb p.n p.s ∧ IntsOwn w hb v1 p.hn p.h ∧ (0 < p.hn → ¬ SlotsB bs kb p.n p.s hb) ∧
    ∀ k, SlotsB bs kb p.n p.s k ∨ (0 < p.hn ∧ k = hb) → lo ≤ k ∧ k < hi

theorem PoolOwn.at {w : World} {lo hi : Nat} {v0 v1 : Value} {p : PoolD} (h : PoolOwn w lo hi v0 v1 p) : PoolAt w lo hi v0 v1 p := by
  obtain ⟨bs, hb, kb, kv, h1, h2, h3, h4, h5⟩ := h
  exact ⟨h1.at fun h0 => ⟨h5 _ (Or.inl (Or.inl ⟨h0, rfl⟩)), fun i hi h => h5 _ (Or.inl (Or.inr ⟨i, hi, h, rfl⟩))⟩, h3.at fun h0 => h5 _ (Or.inr ⟨h0, rfl⟩)⟩

theorem PoolOwn.below {w w' : World} {lo hi : Nat} {v0 v1 : Value} {p : PoolD} (h : PoolOwn w lo hi v0 v1 p) (t : Below w.heap.size w w') : PoolOwn w' lo hi v0 v1 p := by
  obtain ⟨bs, hb, kb, kv, h1, h2, h3, h4, h5⟩ := h
  exact ⟨bs, hb, kb, kv, h1.below t, h2, h3.below t, h4, h5⟩

theorem PoolOwn.turned {S : Nat → Prop} {w w' : World} {lo hi : Nat} {v0 v1 : Value} {p : PoolD} (h : PoolOwn w lo hi v0 v1 p) (t : Turned S w w') (hs : ∀ k, S k → k < lo ∨ hi ≤ k) : PoolOwn w' lo hi v0 v1 p := by
  obtain ⟨bs, hb, kb, kv, h1, h2, h3, h4, h5⟩ := h
  have out : ∀ k, SlotsB bs kb p.n p.s k ∨ (0 < p.hn ∧ k = hb) → ¬ S k := fun k hk hx => by
    have a := h5 k hk
    have b := hs k hx
    omega
  exact ⟨bs, hb, kb, kv, h1.turned t (fun h0 => out _ (Or.inl (Or.inl ⟨h0, rfl⟩))) (fun i hi h => out _ (Or.inl (Or.inr ⟨i, hi, h, rfl⟩))), h2, h3.turned t (fun h0 => out _ (Or.inr ⟨h0, rfl⟩)), h4, h5⟩

theorem PoolOwn.wide {w : World} {lo hi lo' hi' : Nat} {v0 v1 : Value} {p : PoolD} (h : PoolOwn w lo hi v0 v1 p) (h1 : lo' ≤ lo) (h2 : hi ≤ hi') : PoolOwn w lo' hi' v0 v1 p := by
  obtain ⟨bs, hb, kb, kv, g1, g2, g3, g4, g5⟩ := h
  exact ⟨bs, hb, kb, kv, g1, g2, g3, g4, fun k hk => by have := g5 k hk; omega⟩

theorem PoolOwn.form {w : World} {lo hi : Nat} {v0 v1 : Value} {p : PoolD} (h : PoolOwn w lo hi v0 v1 p) : ∃ a c a' c', v0 = .slice a p.n c ∧ v1 = .slice a' p.hn c' := by
  obtain ⟨bs, hb, kb, kv, ⟨_, a, c, h1, _⟩, h2, ⟨_, a', c', h3, _, _⟩, h4, h5⟩ := h
  exact ⟨a, c, a', c', h1, h3⟩

theorem PoolAt.form {w : World} {lo hi : Nat} {v0 v1 : Value} {p : PoolD} (h : PoolAt w lo hi v0 v1 p) : ∃ a c a' c', v0 = .slice a p.n c ∧ v1 = .slice a' p.hn c' := by
  obtain ⟨⟨_, a, c, h1, _⟩, ⟨_, a', c', h3, _⟩⟩ := h
  exact ⟨a, c, a', c', h1, h3⟩

/-- The answer is a new pool that holds what p tells; what was there is as it was. -/
def NewPool (p : PoolD) (w : World) (e : Ending) (w' : World) : Prop := ∃ v0 v1, e = .returned (.agg #[v0, v1]) ∧ PoolOwn w' w.heap.size w'.heap.size v0 v1 p ∧ Below w.heap.size w w'

/-- A free slot; a pool of n free slots. -/
def zeroS : SlotD := { birth := 0, kn := 0, ks := fun _ => 0, kb := fun _ => 0, data := ⟨#[]⟩ }
def newP (n : Nat) : PoolD := { n := n, s := fun _ => zeroS, hn := 0, h := fun _ => 0 }

theorem slotsB_zero {bs : Nat} {kb : Nat → Nat} {n k : Nat} : SlotsB bs kb n (fun _ => zeroS) k ↔ 0 < n ∧ k = bs := by
  constructor
  · rintro (h | ⟨i, _, h0, _⟩)
    · exact h
    · exact absurd h0 (by simp [zeroS])
  · exact Or.inl

/-- A new pool out of a row of free slots. -/
theorem newP_own {w : World} {lo hi g n : Nat} {v0 : Value} (hn : n ≤ maxLen) (hv : ∃ a cap, v0 = .slice a n cap ∧ n ≤ cap ∧ (0 < n → a = some ⟨g, 0, none⟩ ∧ lo ≤ g ∧ g < hi))
    (hc : ∀ i, i < n → Cell w g (0 + i * 3) (.int .i64 0) ∧ Cell w g (0 + i * 3 + 1) (.slice none 0 0) ∧ Cell w g (0 + i * 3 + 2) (.string ⟨#[]⟩)) :
    PoolOwn w lo hi v0 (.slice none 0 0) (newP n) := by
  obtain ⟨a, cap, rfl, hcap, ha⟩ := hv
  refine ⟨g, 0, fun _ => 0, fun _ => .slice none 0 0, ⟨hn, a, cap, rfl, hcap, fun h0 => ⟨0, (ha h0).1, fun i hi => ?_⟩⟩, fun i j _ _ _ h0 _ => absurd h0 (by simp [newP, zeroS]), ⟨Nat.zero_le _, none, 0, rfl, Nat.le_refl _, fun h => absurd h (Nat.lt_irrefl _), fun h => absurd h (Nat.lt_irrefl _)⟩, fun h => absurd h (Nat.lt_irrefl _), ?_⟩
  · exact ⟨(hc i hi).1, (hc i hi).2.1, (hc i hi).2.2, ⟨Nat.zero_le _, none, 0, rfl, Nat.le_refl _, fun h => absurd h (Nat.lt_irrefl _)⟩, Nat.zero_le _, fun h => absurd h (Nat.lt_irrefl _)⟩
  · rintro k (h | h)
    · obtain ⟨h0, rfl⟩ := slotsB_zero.1 h
      exact (ha h0).2
    · exact absurd h.1 (Nat.lt_irrefl _)

def slotN (s : SlotD) : Nat := s.kn + s.data.size
def slotsN (f : Nat → SlotD) : Nat → Nat
  | 0 => 0
  | k + 1 => slotsN f k + slotN (f k)
def poolN (p : PoolD) : Nat := p.n + slotsN p.s p.n + p.hn

theorem slotN_le (f : Nat → SlotD) {j n : Nat} (h : j < n) : slotN (f j) ≤ slotsN f n := by
  induction n with
  | zero => omega
  | succ n ih =>
    show _ ≤ slotsN f n + slotN (f n)
    by_cases e : j = n
    · subst e; omega
    · have := ih (by omega); omega

theorem infoInt64 : (Tryz.prog.info? 2).map (fun i => (i.zero, i.size, i.bytes)) = some (some (.int .i64 0), 1, 8) := by kernel_rfl
theorem infoPtr : (Tryz.prog.info? 43).map (fun i => (i.zero, i.size, i.bytes)) = some (some (.agg #[.int .i64 0, .int .i64 0]), 2, 16) := by kernel_rfl
theorem infoSlotT : (Tryz.prog.info? 84).map (fun i => (i.zero, i.size, i.bytes)) = some (some (.agg #[.int .i64 0, .slice none 0 0, .string ⟨#[]⟩]), 3, 48) := by kernel_rfl

/-- n times the cells zs. -/
def zeros (zs : Array Value) (n : Nat) : Array Value := madeCells zs (n * zs.size)

theorem zeros_at (zs : Array Value) (n i r : Nat) (hi : i < n) (hr : r < zs.size) : (zeros zs n)[i * zs.size + r]? = some (zs[r]!) := by
  unfold zeros madeCells
  have h1 : i * zs.size + r < n * zs.size := by
    have : (i + 1) * zs.size ≤ n * zs.size := Nat.mul_le_mul_right _ hi
    rw [Nat.add_mul] at this
    omega
  have h2 : (i * zs.size + r) % zs.size = r := by rw [Nat.mul_comm, Nat.mul_add_mod]; exact Nat.mod_eq_of_lt hr
  simp only [Array.getElem?_map, Array.getElem?_range, h1, if_true, Option.map_some, h2]

theorem make_zeros (t e : TypeId) (z : Value) (size bytes : Nat) (ht : Tryz.prog.underlying t = some (.slice e)) (hinfo : (Tryz.prog.info? e).map (fun i => (i.zero, i.size, i.bytes)) = some (some z, size, bytes)) (hs : z.cells.size = size)
    (n : Nat) (hn : n ≤ 1048576) (hb : bytes ≤ 1000) (w : World) : (Instr.makeSlice t (.int .i64 (n : Int)) (.int .i64 (n : Int))).run Tryz.prog w = .ok (.slice (some ⟨w.heap.size, 0, none⟩) n n) (w.alloc (.cells (zeros z.cells n) e)) := by
  obtain ⟨i, hi, hzz⟩ := Option.map_eq_some_iff.1 hinfo
  simp only [Prod.mk.injEq] at hzz
  obtain ⟨hz, hs', hb'⟩ := hzz
  have hbn : (bytes : Int) * (n : Int) ≤ 281474976710656 := by
    have h : bytes * n ≤ 1000 * 1048576 := Nat.mul_le_mul hb hn
    have h2 : ((bytes * n : Nat) : Int) ≤ ((1000 * 1048576 : Nat) : Int) := Int.ofNat_le.2 h
    rw [Int.natCast_mul] at h2
    omega
  have hr := run_make (P := Tryz.prog) w t e i z ht hi hz .i64 .i64 n n (by omega) (Int.le_refl _) (by rw [hb']; exact hbn) (by omega)
  rw [hs', ← hs] at hr
  simp only [Int.toNat_natCast] at hr
  exact hr

theorem new_cell (w : World) (zs : Array Value) (n i r : Nat) (t : TypeId) (hi : i < n) (hr : r < zs.size) : Cell (w.alloc (.cells (zeros zs n) t)) w.heap.size (i * zs.size + r) (zs[r]!) :=
  ⟨by rw [World.cell?_alloc_at (hn := rfl)]; exact zeros_at zs n i r hi hr, by rw [World.frozen?_alloc_at (hn := rfl)]⟩

end Go.Proofs.YtjpbmpjddbekgaaGreat
