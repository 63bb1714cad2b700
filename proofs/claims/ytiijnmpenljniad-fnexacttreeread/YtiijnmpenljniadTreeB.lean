/- What impl.shapeRight answers, of a page, a node and a root. -/
import Derived.Test.YtiijnmpenljniadTreeA
namespace Go.Proofs.Ytiijnmpenljniad
open Go.RowKit
set_option linter.unusedVariables false

/-- A slot has a Kid, and all that are not none are so. -/
def StepShape (p : PoolD) (Low : SlotD → Prop) (s : SlotD) : Prop := (∃ i, i < 8 ∧ ¬ Nil (kidS s i) (kidB s i)) ∧ ∀ i, i < 8 → Nil (kidS s i) (kidB s i) ∨ Low (p.s (kidS s i).toNat)

/-- What is known of a call of impl.shapeRight on one level. -/
def ShapeAt (p : PoolD) (L : Int) (Low : SlotD → Prop) : Prop := ∀ (v : Value) (lo hi : Nat) (xs xb : Int) (w : World), SlotsAt w lo hi v p.n p.s → Points p xs xb →
  Calls Try.prog 91 #[v, .agg #[.int .i64 xs, .int .i64 xb], .int .i64 L] w fun e w' => BoolIs (Low (p.s xs.toNat)) e ∧ Below w.heap.size w w'

theorem zero_kids (s : SlotD) : eq16 (kidCell s) (fun _ => 0) = true ↔ ¬ ∃ i, i < 8 ∧ ¬ Nil (kidS s i) (kidB s i) := by
  rw [eq16_iff]
  constructor
  · rintro h ⟨i, hi, hn⟩
    exact hn (h i hi)
  · intro h i hi
    by_cases hn : Nil (kidS s i) (kidB s i)
    · exact hn
    · exact absurd ⟨i, hi, hn⟩ h

set_option maxRecDepth 20000 in
set_option maxHeartbeats 1000000 in
theorem shape2_any (p : PoolD) : ShapeAt p 2 Page := by
  intro v lo hi xs xb w hs hP
  have Hs := hideT hs
  obtain ⟨_, a, c, rfl, _⟩ := id hs
  obtain ⟨k, rfl⟩ := Int.eq_ofNat_of_zero_le hP.2.1
  have hk : k < p.n := by have := hP.2.2.1; omega
  have hk' : (k : Int) < (p.n : Int) := by omega
  have ha := below_alloc w (.cells #[.int .i64 (k : Int), .int .i64 xb] 35)
  obtain ⟨⟨x0, x1⟩, ⟨x2, x3⟩⟩ := Box2.new w (.int .i64 (k : Int)) (.int .i64 xb) 35
  obtain ⟨b, off, ka, kc, rfl, hsc⟩ := (Hs.out.below ha).cells hk
  have HC := hideT hsc
  obtain ⟨q0, q1, q2, _⟩ := hsc
  clear hs hP
  go_enter Try.func91, Try.ntmps91
  go_wp2_with fail
  have ha2 := below_alloc (w.alloc (.cells #[.int .i64 (k : Int), .int .i64 xb] 35)) (.cells #[.int .i64 (p.s k).birth, .slice ka (p.s k).kn kc, .string (p.s k).data] 42)
  refine (isPage_any _ _ _ lo hi (p.s k) _ (HC.out.slot.below ha2)).mono ?_
  rintro e w1 ⟨⟨t, rfl, ht⟩, hb1⟩
  have hB := below_next (below_next ha ha2) hb1
  have HT := hideT ht
  clear ht hb1
  go_wp2
  go_ret
  refine ⟨⟨t, rfl, ?_⟩, hB⟩
  rw [Int.toNat_natCast]
  exact HT.out

set_option maxRecDepth 20000 in
set_option maxHeartbeats 2000000 in
theorem shape_step (p : PoolD) (L : Int) (Low : SlotD → Prop) (hR : Right p) (hL : 0 ≤ L ∧ L < 2) (hlow : ShapeAt p (L + 1) Low) : ShapeAt p L (StepShape p Low) := by
  intro v lo hi xs xb w hs hP
  have Hlow := hideT hlow
  have HR := hideT hR
  have Hs := hideT hs
  have HP := hideT hP
  have Hf := hideT (points_fits hR hP)
  obtain ⟨_, a, c, rfl, _⟩ := id hs
  obtain ⟨k, rfl⟩ := Int.eq_ofNat_of_zero_le hP.2.1
  rw [Int.toNat_natCast] at Hf
  have hk : k < p.n := by have := hP.2.2.1; omega
  have hk' : (k : Int) < (p.n : Int) := by omega
  have hL2 : (L == 2) = false := by simp; omega
  have ha := below_alloc w (.cells #[.int .i64 (k : Int), .int .i64 xb] 35)
  obtain ⟨⟨x0, x1⟩, ⟨x2, x3⟩⟩ := Box2.new w (.int .i64 (k : Int)) (.int .i64 xb) 35
  obtain ⟨b, off, ka, kc, rfl, hsc⟩ := (Hs.out.below ha).cells hk
  have HC := hideT hsc
  obtain ⟨q0, q1, q2, _⟩ := hsc
  clear hs hP hlow hR
  go_enter Try.func91, Try.ntmps91
  go_wp2_with fail
  have ha2 := below_alloc (w.alloc (.cells #[.int .i64 (k : Int), .int .i64 xb] 35)) (.cells #[.int .i64 (p.s k).birth, .slice ka (p.s k).kn kc, .string (p.s k).data] 42)
  refine (kidsOf_any _ _ _ lo hi (p.s k) _ (HC.out.slot.below ha2) (fits_kn Hf.out)).mono ?_
  rintro e w1 ⟨rfl, hb1⟩
  have hB := below_next (below_next ha ha2) hb1
  clear hb1 ha ha2 x0 x1 x2 x3 q0 q1 q2 HC
  have Hi16 : Hid ((Try.prog.info? 92).map (·.size) = some (kidsA (p.s k)).size) := by
    show _ = _
    rw [kidsA, arr16_size]; exact infoArr
  have Hz16 : Hid ((#[Value.int .i64 0, Value.int .i64 0, Value.int .i64 0, Value.int .i64 0, Value.int .i64 0, Value.int .i64 0, Value.int .i64 0, Value.int .i64 0, Value.int .i64 0, Value.int .i64 0, Value.int .i64 0, Value.int .i64 0, Value.int .i64 0, Value.int .i64 0, Value.int .i64 0, Value.int .i64 0] : Array Value) = arr16 (fun _ => 0)) := rfl
  have heql : ∀ w, (binOp .eql 92 (.agg (kidsA (p.s k))) (.agg #[Value.int .i64 0, Value.int .i64 0, Value.int .i64 0, Value.int .i64 0, Value.int .i64 0, Value.int .i64 0, Value.int .i64 0, Value.int .i64 0, Value.int .i64 0, Value.int .i64 0, Value.int .i64 0, Value.int .i64 0, Value.int .i64 0, Value.int .i64 0, Value.int .i64 0, Value.int .i64 0])).run Try.prog w = .ok (.bool (eq16 (kidCell (p.s k)) (fun _ => 0))) w := fun w => eql_arr (kidCell (p.s k)) (fun _ => 0) w
  have hblk : (w1.alloc (.cells (kidsA (p.s k)) 92)).heap[w1.heap.size]? = some (.cells (kidsA (p.s k)) 92 (0, 0)) := heap_alloc_last _ _
  have HK := hideT hblk
  have hB2 := below_next hB (below_alloc w1 (.cells (kidsA (p.s k)) 92))
  clear hblk hB
  by_cases hz : eq16 (kidCell (p.s k)) (fun _ => 0) = true
  · have HZ := hideT ((zero_kids _).1 hz)
    go_wp2_with (first
      | (refine wpList_store_row rfl 92 (.tmp 8) (.tmp 20) rfl w1.heap.size (kidsA (p.s k)) rfl rfl 92 #[Value.int .i64 0, Value.int .i64 0, Value.int .i64 0, Value.int .i64 0, Value.int .i64 0, Value.int .i64 0, Value.int .i64 0, Value.int .i64 0, Value.int .i64 0, Value.int .i64 0, Value.int .i64 0, Value.int .i64 0, Value.int .i64 0, Value.int .i64 0, Value.int .i64 0, Value.int .i64 0] (heap_alloc_last _ _) Hi16.out (by rw [kidsA, arr16_size]; rfl) (arr16_one _) ?_; rw [World.setRow_alloc_new])
      | (refine wpList_load_row rfl 92 (.tmp 8) rfl w1.heap.size rfl 92 (kidsA (p.s k)) (0, 0) _ HK.out arrU rfl Hi16.out ?_))
    go_ret
    exact ⟨BoolIs.no fun h => HZ.out (by rw [Int.toNat_natCast] at h; exact h.1), hB2⟩
  · have HZ : Hid (∃ i, i < 8 ∧ ¬ Nil (kidS (p.s k) i) (kidB (p.s k) i)) := by
      by_cases h : ∃ i, i < 8 ∧ ¬ Nil (kidS (p.s k) i) (kidB (p.s k) i)
      · exact h
      · exact absurd ((zero_kids _).2 h) hz
    have hz' : eq16 (kidCell (p.s k)) (fun _ => 0) = false := by simpa using hz
    clear hz
    go_wp2_with (first
      | (refine wpList_store_row rfl 92 (.tmp 8) (.tmp 20) rfl w1.heap.size (kidsA (p.s k)) rfl rfl 92 #[Value.int .i64 0, Value.int .i64 0, Value.int .i64 0, Value.int .i64 0, Value.int .i64 0, Value.int .i64 0, Value.int .i64 0, Value.int .i64 0, Value.int .i64 0, Value.int .i64 0, Value.int .i64 0, Value.int .i64 0, Value.int .i64 0, Value.int .i64 0, Value.int .i64 0, Value.int .i64 0] (heap_alloc_last _ _) Hi16.out (by rw [kidsA, arr16_size]; rfl) (arr16_one _) ?_; rw [World.setRow_alloc_new])
      | (refine wpList_load_row rfl 92 (.tmp 8) rfl w1.heap.size rfl 92 (kidsA (p.s k)) (0, 0) _ HK.out arrU rfl Hi16.out ?_))
    have hz1 : w1.heap.size < (w1.alloc (.cells (kidsA (p.s k)) 92)).heap.size := by rw [World.size_alloc]; exact Nat.lt_succ_self _
    go_loopw [24] (fun i wr => ∃ j : Nat, j ≤ 8 ∧ i = .int .i64 j ∧ (∀ m, m < j → Nil (kidS (p.s k) m) (kidB (p.s k) m) ∨ Low (p.s (kidS (p.s k) m).toNat)) ∧ wr.heap[w1.heap.size]? = some (.cells (kidsA (p.s k)) 92 (0, 0)) ∧ Below w.heap.size w wr) (fun i _ => 8 - (intOf i).toNat)
    case atStart => exact ⟨0, Nat.zero_le _, rfl, fun m hm => absurd hm (Nat.not_lt_zero _), HK.out, hB2⟩
    case round =>
      obtain ⟨j, hj, rfl, hall, hK, hb⟩ := hrel
      have Hall := hideT hall
      have HKr := hideT hK
      have hszK : w1.heap.size < wr.heap.size := (Array.getElem?_eq_some_iff.1 hK).1
      clear hall hK
      by_cases hlt : j < 8
      · have hlt' : (j : Int) < 8 := by omega
        obtain ⟨y0, y1⟩ := cell_of_block (i := j * 2) HKr.out (arr16_at (kidCell (p.s k)) (by omega))
        obtain ⟨y2, y3⟩ := cell_of_block (i := j * 2 + 1) HKr.out (arr16_at (kidCell (p.s k)) (by omega))
        by_cases hn : Nil (kidS (p.s k) j) (kidB (p.s k) j)
        · have HN := hideT hn
          rw [show kidCell (p.s k) (j * 2) = 0 from hn.1] at y0
          rw [show kidCell (p.s k) (j * 2 + 1) = 0 from hn.2] at y2
          clear hn
          go_wp2
          go_roundw
          case rel => exact ⟨j + 1, by omega, by go_num, relNext (n := 8) hlt Hall.out (Or.inl HN.out), HKr.out, hb⟩
          case measure => simp [intOf]; omega
        · have HN := hideT hn
          have hkp := hideT (kid_points Hf.out hlt hn).1
          have e0 : (kidCell (p.s k) (j * 2) == 0) = false ∨ (kidCell (p.s k) (j * 2) == 0) = true ∧ (kidCell (p.s k) (j * 2 + 1) == 0) = false := by
            by_cases h : kidCell (p.s k) (j * 2) = 0
            · right
              refine ⟨by simp [h], ?_⟩
              have : kidCell (p.s k) (j * 2 + 1) ≠ 0 := fun h' => hn ⟨h, h'⟩
              simp [this]
            · left; simp [h]
          clear hn
          rcases e0 with e0 | ⟨e0, e1⟩
          all_goals
            go_wp2_with fail
            refine (Hlow.out _ lo hi (kidCell (p.s k) (j * 2)) (kidCell (p.s k) (j * 2 + 1)) _ (Hs.out.below hb) hkp.out).mono ?_
            rintro e w2 ⟨⟨t, rfl, ht⟩, hb2⟩
            have HT := hideT ht
            have HK2 := hideT ((hb2.block _ hszK).trans HKr.out)
            have hbn := below_next hb hb2
            clear ht hb2 y0 y1 y2 y3
            cases t
            · go_wp2
              go_ret
              refine ⟨BoolIs.no fun h => ?_, hbn⟩
              rw [Int.toNat_natCast] at h
              rcases h.2 j hlt with h1 | h1
              · exact HN.out h1
              · exact absurd (HT.out.2 h1) (by simp)
            · go_wp2
              go_roundw
              case rel => exact ⟨j + 1, by omega, by go_num, relNext (n := 8) hlt Hall.out (Or.inr (HT.out.1 trivial)), HK2.out, hbn⟩
              case measure => simp [intOf]; omega
      · obtain rfl : j = 8 := by omega
        go_wp2
        go_ret
        exact ⟨BoolIs.yes (by rw [Int.toNat_natCast]; exact ⟨HZ.out, Hall.out⟩), hb⟩

theorem shape1_any (p : PoolD) (hR : Right p) : ShapeAt p 1 (Shape1 p) := shape_step p 1 Page hR (by omega) (shape2_any p)
theorem shape0_any (p : PoolD) (hR : Right p) : ShapeAt p 0 (Shape0 p) := shape_step p 0 (Shape1 p) hR (by omega) (shape1_any p hR)

end Go.Proofs.Ytiijnmpenljniad
