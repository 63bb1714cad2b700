/- What impl.takeNode answers. -/
import Derived.Test.YtikhipekmlhibaaG13
import Derived.Test.YtikhipekmlhibaaG7
import Derived.Deep.DeepCutAuto
import Derived.Test.YtikhipekmlhibaaG4
namespace Go.Proofs.Ytikhipekmlhibaa
open Go Go.RowKit
set_option linter.unusedVariables false

/-- Slots and births of eight pointers as one array. -/
def mix (f g : Nat → Int) (j : Nat) : Int := if j % 2 = 0 then f (j / 2) else g (j / 2)
theorem mix_at (f g : Nat → Int) (i : Nat) : mix f g (i * 2) = f i ∧ mix f g (i * 2 + 1) = g i := by
  unfold mix
  rw [if_pos (by omega), if_neg (by omega), show i * 2 / 2 = i by omega, show (i * 2 + 1) / 2 = i by omega]
  exact ⟨rfl, rfl⟩
/-- All of them are none. -/
def AllNil (f g : Nat → Int) : Prop := ∀ i, i < 8 → Nil (f i) (g i)
theorem mix_zero (f g : Nat → Int) : eq16 (mix f g) (fun _ => 0) = true ↔ AllNil f g := by
  rw [eq16_iff]
  constructor
  · intro h i hi
    have := h i hi
    rw [(mix_at f g i).1, (mix_at f g i).2] at this
    exact this
  · intro h i hi
    rw [(mix_at f g i).1, (mix_at f g i).2]
    exact h i hi
/-- A node of eight Kids. -/
def slotK (f g : Nat → Int) (b : Int) : SlotD := { birth := b, kn := 8, ks := f, kb := g, data := ⟨#[]⟩ }
open Classical in
/-- What takeNode tells. -/
noncomputable def nodeP (p : PoolD) (f g : Nat → Int) (b : Int) : OutD := if AllNil f g then ⟨p, 0, 0, 0⟩ else takeP p (slotK f g b)

theorem start16 (w : World) (a0 a1 : Value) (cs : Array Value) (t1 t2 t3 : TypeId) :
    Box2 (((w.alloc (.cells #[a0, a1] t1)).alloc (.cells cs t2)).alloc (.cells #[.slice none 0 0, .slice none 0 0, .int .i64 0, .int .i64 0, .int .i64 0] t3)) w.heap.size a0 a1 ∧
    (((w.alloc (.cells #[a0, a1] t1)).alloc (.cells cs t2)).alloc (.cells #[.slice none 0 0, .slice none 0 0, .int .i64 0, .int .i64 0, .int .i64 0] t3)).heap[w.heap.size + 1]? = some (.cells cs t2 (0, 0)) ∧
    Box5 (((w.alloc (.cells #[a0, a1] t1)).alloc (.cells cs t2)).alloc (.cells #[.slice none 0 0, .slice none 0 0, .int .i64 0, .int .i64 0, .int .i64 0] t3)) (w.heap.size + 1 + 1) (.slice none 0 0) (.slice none 0 0) (.int .i64 0) (.int .i64 0) (.int .i64 0) ∧
    Below w.heap.size w (((w.alloc (.cells #[a0, a1] t1)).alloc (.cells cs t2)).alloc (.cells #[.slice none 0 0, .slice none 0 0, .int .i64 0, .int .i64 0, .int .i64 0] t3)) ∧
    (((w.alloc (.cells #[a0, a1] t1)).alloc (.cells cs t2)).alloc (.cells #[.slice none 0 0, .slice none 0 0, .int .i64 0, .int .i64 0, .int .i64 0] t3)).heap.size = w.heap.size + 3 := by
  refine ⟨((Box2.new w a0 a1 t1).below (below_alloc _ _)).below (below_alloc _ _), ?_, ?_, below_next (below_next (below_alloc _ _) (below_alloc _ _)) (below_alloc _ _), by simp⟩
  · exact (three_alloc w (.cells #[a0, a1] t1) (.cells cs t2) _).1
  · have := Box5.new ((w.alloc (.cells #[a0, a1] t1)).alloc (.cells cs t2)) (.slice none 0 0) (.slice none 0 0) (.int .i64 0) (.int .i64 0) (.int .i64 0) t3
    rw [World.size_alloc, World.size_alloc] at this
    exact this

set_option maxRecDepth 20000 in
set_option maxHeartbeats 2000000 in
theorem takeNode_any (v0 v1 : Value) (lo hi : Nat) (p : PoolD) (f g : Nat → Int) (b : Int) (w : World) (h1 : PoolAt w lo hi v0 v1 p) (hn : poolN p + 8 ≤ 1048576) :
    Calls Try.prog 110 #[.agg #[v0, v1], .agg (arr16 (mix f g)), .int .i64 b] w (NewOut (nodeP p f g b) w) := by
  have Hp := hideT h1
  obtain ⟨a, c, a', c', rfl, rfl⟩ := h1.form
  have Hn := hideT hn
  clear h1 hn
  have hst := start16 w (.slice a p.n c) (.slice a' p.hn c') (arr16 (mix f g)) 26 94 35
  have Hi16 : Hid ((Try.prog.info? 94).map (·.size) = some (arr16 (mix f g)).size) := by
    show _ = _
    rw [arr16_size]; exact infoArr
  have heql : ∀ w, (binOp .eql 94 (.agg (arr16 (mix f g))) (.agg #[Value.int .i64 0, Value.int .i64 0, Value.int .i64 0, Value.int .i64 0, Value.int .i64 0, Value.int .i64 0, Value.int .i64 0, Value.int .i64 0, Value.int .i64 0, Value.int .i64 0, Value.int .i64 0, Value.int .i64 0, Value.int .i64 0, Value.int .i64 0, Value.int .i64 0, Value.int .i64 0])).run Try.prog w = .ok (.bool (eq16 (mix f g) (fun _ => 0))) w := fun w => eql_arr (mix f g) (fun _ => 0) w
  go_enter Try.func110, Try.ntmps110
  go_upto_region 1 with fail
  generalize ((w.alloc (.cells #[.slice a p.n c, .slice a' p.hn c'] 26)).alloc (.cells (arr16 (mix f g)) 94)).alloc (.cells #[.slice none 0 0, .slice none 0 0, .int .i64 0, .int .i64 0, .int .i64 0] 35) = W at hst ⊢
  obtain ⟨hB, hA, hR, hba, hz⟩ := hst
  have HA := hideT hA
  have HB := hideT hB
  have HR := hideT hR
  clear hA hR
  obtain ⟨⟨x0, x1⟩, ⟨x2, x3⟩⟩ := HB.out
  by_cases hN : AllNil f g
  · have HN := hideT hN
    have hz' := (mix_zero f g).2 hN
    clear hN
    go_wp2_with (first
      | (refine wpList_load_row rfl 94 (.tmp 4) rfl (w.heap.size + 1) rfl 94 (arr16 (mix f g)) (0, 0) _ HA.out arrU rfl Hi16.out ?_)
      | fail)
    refine (clonePool_any _ _ lo hi p W (Hp.out.below hba) (by have := Hn.out; omega)).mono ?_
    rintro e w1 ⟨s0, s1, rfl, ho1, hb1⟩
    obtain ⟨a1, c1, a2, c2, rfl, rfl⟩ := ho1.form
    have HO1 := hideT ho1
    have HR1 := hideT (HR.out.below hb1)
    have hB1 := below_next hba hb1
    have hz1 := hb1.size
    clear ho1 hb1 hba x0 x1 x2 x3 hB
    obtain ⟨⟨u0, u1⟩, ⟨u2, u3⟩, ⟨u4, u5⟩, ⟨u6, u7⟩, ⟨u8, u9⟩⟩ := HR1.out
    go_wp2
    have HR8 := HR1.out.put (.slice a1 p.n c1) (.slice a2 p.hn c2) (.int .i64 0) (.int .i64 0) (.int .i64 0)
    have hpr := out_ret (R := w.heap.size + 1 + 1) (u2 := .int .i64 0) (u3 := .int .i64 0) (u4 := .int .i64 0) HO1.out (by omega) (by omega) (Nat.le_refl _) hB1
    rw [show nodeP p f g b = ⟨p, 0, 0, 0⟩ from if_pos HN.out]
    exact bodyPost_ret (v := .agg #[.slice a1 p.n c1, .slice a2 p.hn c2, .int .i64 0, .int .i64 0, .int .i64 0]) (by simp [results, Try.results110, go_sem, HR8.1.1, HR8.2.1.1, HR8.2.2.1.1, HR8.2.2.2.1.1, HR8.2.2.2.2.1]) rfl ⟨_, _, rfl, hpr.1, hpr.2⟩
  · have HN := hideT hN
    have hz' : eq16 (mix f g) (fun _ => 0) = false := Bool.eq_false_iff.2 (fun h => hN ((mix_zero f g).1 h))
    clear hN
    have hmk := make_zeros 27 33 (.agg #[.int .i64 0, .int .i64 0]) 2 16 (by kernel_rfl) infoPtr rfl 8 (by omega) (by omega)
    have hmk' : ∀ w, (Instr.makeSlice 27 (.int .i64 8) (.int .i64 8)).run Try.prog w = .ok (.slice (some ⟨w.heap.size, 0, none⟩) 8 8) (w.alloc (.cells (zeros #[.int .i64 0, .int .i64 0] 8) 33)) := hmk
    clear hmk
    have hbn := below_alloc W (.cells (zeros #[.int .i64 0, .int .i64 0] 8) 33)
    have hbm := below_alloc W (.cells (arr16 (mix f g)) 33)
    have Hbm := hideT hbm
    have hA2 : (W.alloc (.cells (zeros #[.int .i64 0, .int .i64 0] 8) 33)).heap[w.heap.size + 1]? = some (.cells (arr16 (mix f g)) 94 (0, 0)) := (hbn.block _ (by omega)).trans HA.out
    have Hrun : Hid (∀ ty, (Builtin.copy_ #[27, 27] ty #[.slice (some ⟨W.heap.size, 0, none⟩) 8 8, .slice (some ⟨w.heap.size + 1, 0, none⟩) 8 8]).run Try.prog (W.alloc (.cells (zeros #[.int .i64 0, .int .i64 0] 8) 33)) = .ok (goInt 8) (W.alloc (.cells (arr16 (mix f g)) 33))) := by
      intro ty
      have hz8 : (zeros #[.int .i64 0, .int .i64 0] 8).size = 16 := by kernel_rfl
      have hr := run_copy_sized (P := Try.prog) (W.alloc (.cells (zeros #[.int .i64 0, .int .i64 0] 8) 33)) 27 27 ty 33 2 W.heap.size 0 8 8 ⟨w.heap.size + 1, 0, none⟩ 8 8 (zeros #[.int .i64 0, .int .i64 0] 8) 33 (arr16 (mix f g)).toList (by kernel_rfl) infoPtrSize (heap_alloc_last _ _) (by simp [arr16]) (fun j v hj => by
          have hj16 : j < 16 := by
            have := (List.getElem?_eq_some_iff.1 hj).1
            simpa [arr16_size] using this
          have e : (arr16 (mix f g)).toList[j]? = some (.int .i64 (mix f g j)) := by rw [Array.getElem?_toList]; exact arr16_at (mix f g) hj16
          rw [e] at hj
          simp only [Option.some.injEq] at hj
          subst hj
          rw [add_lit, Nat.zero_add]
          exact (cell_of_block hA2 (arr16_at (mix f g) hj16)).1) (by rw [hz8]; simp [arr16]) (fun v hv => (Array.all_eq_true_iff_forall_mem.1 (arr16_one _)) v (by simpa using hv))
      have e0 : ((zeros #[.int .i64 0, .int .i64 0] 8).toList.drop 16) = [] := List.drop_eq_nil_of_le (by simp [hz8])
      have e1 : ((zeros #[.int .i64 0, .int .i64 0] 8).toList.take 0 ++ (arr16 (mix f g)).toList ++ (zeros #[.int .i64 0, .int .i64 0] 8).toList.drop (0 + (arr16 (mix f g)).toList.length)).toArray = arr16 (mix f g) := by
        have hl : (arr16 (mix f g)).toList.length = 16 := by simp [arr16]
        rw [hl, Nat.zero_add, e0]
        simp
      rw [e1, World.setRow_alloc_new] at hr
      exact hr
    have Hz := hideT hz
    clear hbm hA2 hbn hz
    have hrn := Hrun.out 3
    obtain ⟨⟨x4, x5⟩, ⟨x6, x7⟩⟩ := HB.out.below Hbm.out
    go_wp2_with (first
      | (refine wpList_load_row rfl 94 (.tmp 4) rfl (w.heap.size + 1) rfl 94 (arr16 (mix f g)) (0, 0) _ HA.out arrU rfl Hi16.out ?_)
      | fail)
    have HS : Hid (SlotAt (W.alloc (.cells (arr16 (mix f g)) 33)) 0 (W.alloc (.cells (arr16 (mix f g)) 33)).heap.size (.int .i64 (slotK f g b).birth) (.slice (some ⟨W.heap.size, 0, none⟩) 8 8) (.string (slotK f g b).data) (slotK f g b)) := by
      refine ⟨rfl, ⟨by show 8 ≤ maxLen; unfold maxLen; omega, _, 8, rfl, Nat.le_refl _, fun _ => ⟨W.heap.size, 0, rfl, Nat.zero_le _, by simp, fun i hi => ?_⟩⟩, rfl, by show 0 ≤ maxLen; omega⟩
      have hi8 : i < 8 := hi
      have hb0 : (W.alloc (.cells (arr16 (mix f g)) 33)).heap[W.heap.size]? = some (.cells (arr16 (mix f g)) 33) := heap_alloc_last _ _
      have g1 := (cell_of_block hb0 (arr16_at (mix f g) (show i * 2 < 16 by omega))).1
      have g2 := (cell_of_block hb0 (arr16_at (mix f g) (show i * 2 + 1 < 16 by omega))).1
      rw [(mix_at f g i).1] at g1
      rw [(mix_at f g i).2] at g2
      rw [Nat.zero_add]
      exact ⟨g1, g2⟩
    refine (implPoolTake_any _ _ _ lo hi 0 _ p (slotK f g b) _ (Hp.out.below (below_next hba Hbm.out)) HS.out (by show poolN p + (8 + 0) ≤ _; exact Hn.out)).mono ?_
    rintro e w3 ⟨s0, s1, rfl, ho3, hb3⟩
    have hb3' := below_next Hbm.out hb3
    have hz := Hz.out
    have HR3 := hideT (HR.out.below hb3')
    have hB3 := below_next hba hb3'
    have hz3 := hb3'.size
    have He : Hid (nodeP p f g b = takeP p (slotK f g b)) := if_neg HN.out
    have Ho3 : Hid (PoolOwn w3 W.heap.size w3.heap.size s0 s1 (takeP p (slotK f g b)).pool) := ho3.wide Hbm.out.size (Nat.le_refl _)
    generalize takeP p (slotK f g b) = o at Ho3 He ⊢
    obtain ⟨a1, c1, a2, c2, rfl, rfl⟩ := Ho3.out.form
    clear ho3 hb3 hb3' x0 x1 x2 x3 x4 x5 x6 x7 hB HS Hrun hrn
    obtain ⟨⟨u0, u1⟩, ⟨u2, u3⟩, ⟨u4, u5⟩, ⟨u6, u7⟩, ⟨u8, u9⟩⟩ := HR3.out
    go_wp2
    have HR8 := HR3.out.put (.slice a1 o.pool.n c1) (.slice a2 o.pool.hn c2) (.int .i64 o.ps) (.int .i64 o.pb) (.int .i64 o.code)
    have hpr := out_ret (R := w.heap.size + 1 + 1) (u2 := .int .i64 o.ps) (u3 := .int .i64 o.pb) (u4 := .int .i64 o.code) Ho3.out (by omega) (by omega) (Nat.le_refl _) hB3
    rw [He.out]
    exact bodyPost_ret (v := .agg #[.slice a1 o.pool.n c1, .slice a2 o.pool.hn c2, .int .i64 o.ps, .int .i64 o.pb, .int .i64 o.code]) (by simp [results, Try.results110, go_sem, HR8.1.1, HR8.2.1.1, HR8.2.2.1.1, HR8.2.2.2.1.1, HR8.2.2.2.2.1]) rfl ⟨_, _, rfl, hpr.1, hpr.2⟩

end Go.Proofs.Ytikhipekmlhibaa

namespace Go.Proofs.Ytikhipekmlhibaa
open Go.RowKit
set_option linter.unusedVariables false

/-- A slot has a Kid, and all that are not none are so. -/
def StepShape (p : PoolD) (Low : SlotD → Prop) (s : SlotD) : Prop := (∃ i, i < 8 ∧ ¬ Nil (kidS s i) (kidB s i)) ∧ ∀ i, i < 8 → Nil (kidS s i) (kidB s i) ∨ Low (p.s (kidS s i).toNat)

/-- What is known of a call of impl.shapeRight on one level. -/
def ShapeAt (p : PoolD) (L : Int) (Low : SlotD → Prop) : Prop := ∀ (v : Value) (lo hi : Nat) (xs xb : Int) (w : World), SlotsAt w lo hi v p.n p.s → Points p xs xb →
  Calls Try.prog 113 #[v, .agg #[.int .i64 xs, .int .i64 xb], .int .i64 L] w fun e w' => BoolIs (Low (p.s xs.toNat)) e ∧ Below w.heap.size w w'

theorem zero_kids (s : SlotD) : eq16 (kidCell s) (fun _ => 0) = true ↔ ¬ ∃ i, i < 8 ∧ ¬ Nil (kidS s i) (kidB s i) := by
  rw [eq16_iff]
  constructor
  · rintro h ⟨i, hi, hn⟩
    exact hn (h i hi)
  · intro h i hi
    by_cases hn : Nil (kidS s i) (kidB s i)
    · exact hn
    · exact absurd ⟨i, hi, hn⟩ h

set_option maxRecDepth 20000 in
set_option maxHeartbeats 1000000 in
theorem shape2_any (p : PoolD) : ShapeAt p 2 Page := by
  intro v lo hi xs xb w hs hP
  have Hs := hideT hs
  obtain ⟨_, a, c, rfl, _⟩ := id hs
  obtain ⟨k, rfl⟩ := Int.eq_ofNat_of_zero_le hP.2.1
  have hk : k < p.n := by have := hP.2.2.1; omega
  have hk' : (k : Int) < (p.n : Int) := by omega
  have ha := below_alloc w (.cells #[.int .i64 (k : Int), .int .i64 xb] 33)
  obtain ⟨⟨x0, x1⟩, ⟨x2, x3⟩⟩ := Box2.new w (.int .i64 (k : Int)) (.int .i64 xb) 33
  obtain ⟨b, off, ka, kc, rfl, hsc⟩ := (Hs.out.below ha).cells hk
  have HC := hideT hsc
  obtain ⟨q0, q1, q2, _⟩ := hsc
  clear hs hP
  go_enter Try.func113, Try.ntmps113
  go_wp2_with fail
  have ha2 := below_alloc (w.alloc (.cells #[.int .i64 (k : Int), .int .i64 xb] 33)) (.cells #[.int .i64 (p.s k).birth, .slice ka (p.s k).kn kc, .string (p.s k).data] 29)
  refine (isPage_any _ _ _ lo hi (p.s k) _ (HC.out.slot.below ha2)).mono ?_
  rintro e w1 ⟨⟨t, rfl, ht⟩, hb1⟩
  have hB := below_next (below_next ha ha2) hb1
  have HT := hideT ht
  clear ht hb1
  go_wp2
  go_ret
  refine ⟨⟨t, rfl, ?_⟩, hB⟩
  rw [Int.toNat_natCast]
  exact HT.out

set_option maxRecDepth 20000 in
set_option maxHeartbeats 2000000 in
theorem shape_step (p : PoolD) (L : Int) (Low : SlotD → Prop) (hR : Right p) (hL : 0 ≤ L ∧ L < 2) (hlow : ShapeAt p (L + 1) Low) : ShapeAt p L (StepShape p Low) := by
  intro v lo hi xs xb w hs hP
  have Hlow := hideT hlow
  have HR := hideT hR
  have Hs := hideT hs
  have HP := hideT hP
  have Hf := hideT (points_fits hR hP)
  obtain ⟨_, a, c, rfl, _⟩ := id hs
  obtain ⟨k, rfl⟩ := Int.eq_ofNat_of_zero_le hP.2.1
  rw [Int.toNat_natCast] at Hf
  have hk : k < p.n := by have := hP.2.2.1; omega
  have hk' : (k : Int) < (p.n : Int) := by omega
  have hL2 : (L == 2) = false := by simp; omega
  have ha := below_alloc w (.cells #[.int .i64 (k : Int), .int .i64 xb] 33)
  obtain ⟨⟨x0, x1⟩, ⟨x2, x3⟩⟩ := Box2.new w (.int .i64 (k : Int)) (.int .i64 xb) 33
  obtain ⟨b, off, ka, kc, rfl, hsc⟩ := (Hs.out.below ha).cells hk
  have HC := hideT hsc
  obtain ⟨q0, q1, q2, _⟩ := hsc
  clear hs hP hlow hR
  go_enter Try.func113, Try.ntmps113
  go_wp2_with fail
  have ha2 := below_alloc (w.alloc (.cells #[.int .i64 (k : Int), .int .i64 xb] 33)) (.cells #[.int .i64 (p.s k).birth, .slice ka (p.s k).kn kc, .string (p.s k).data] 29)
  refine (kidsOf_any _ _ _ lo hi (p.s k) _ (HC.out.slot.below ha2) (fits_kn Hf.out)).mono ?_
  rintro e w1 ⟨rfl, hb1⟩
  have hB := below_next (below_next ha ha2) hb1
  clear hb1 ha ha2 x0 x1 x2 x3 q0 q1 q2 HC
  have Hi16 : Hid ((Try.prog.info? 94).map (·.size) = some (kidsA (p.s k)).size) := by
    show _ = _
    rw [kidsA, arr16_size]; exact infoArr
  have Hz16 : Hid ((#[Value.int .i64 0, Value.int .i64 0, Value.int .i64 0, Value.int .i64 0, Value.int .i64 0, Value.int .i64 0, Value.int .i64 0, Value.int .i64 0, Value.int .i64 0, Value.int .i64 0, Value.int .i64 0, Value.int .i64 0, Value.int .i64 0, Value.int .i64 0, Value.int .i64 0, Value.int .i64 0] : Array Value) = arr16 (fun _ => 0)) := rfl
  have heql : ∀ w, (binOp .eql 94 (.agg (kidsA (p.s k))) (.agg #[Value.int .i64 0, Value.int .i64 0, Value.int .i64 0, Value.int .i64 0, Value.int .i64 0, Value.int .i64 0, Value.int .i64 0, Value.int .i64 0, Value.int .i64 0, Value.int .i64 0, Value.int .i64 0, Value.int .i64 0, Value.int .i64 0, Value.int .i64 0, Value.int .i64 0, Value.int .i64 0])).run Try.prog w = .ok (.bool (eq16 (kidCell (p.s k)) (fun _ => 0))) w := fun w => eql_arr (kidCell (p.s k)) (fun _ => 0) w
  have hblk : (w1.alloc (.cells (kidsA (p.s k)) 94)).heap[w1.heap.size]? = some (.cells (kidsA (p.s k)) 94 (0, 0)) := heap_alloc_last _ _
  have HK := hideT hblk
  have hB2 := below_next hB (below_alloc w1 (.cells (kidsA (p.s k)) 94))
  clear hblk hB
  by_cases hz : eq16 (kidCell (p.s k)) (fun _ => 0) = true
  · have HZ := hideT ((zero_kids _).1 hz)
    go_wp2_with (first
      | (refine wpList_store_row rfl 94 (.tmp 8) (.tmp 20) rfl w1.heap.size (kidsA (p.s k)) rfl rfl 94 #[Value.int .i64 0, Value.int .i64 0, Value.int .i64 0, Value.int .i64 0, Value.int .i64 0, Value.int .i64 0, Value.int .i64 0, Value.int .i64 0, Value.int .i64 0, Value.int .i64 0, Value.int .i64 0, Value.int .i64 0, Value.int .i64 0, Value.int .i64 0, Value.int .i64 0, Value.int .i64 0] (heap_alloc_last _ _) Hi16.out (by rw [kidsA, arr16_size]; rfl) (arr16_one _) ?_; rw [World.setRow_alloc_new])
      | (refine wpList_load_row rfl 94 (.tmp 8) rfl w1.heap.size rfl 94 (kidsA (p.s k)) (0, 0) _ HK.out arrU rfl Hi16.out ?_))
    go_ret
    exact ⟨BoolIs.no fun h => HZ.out (by rw [Int.toNat_natCast] at h; exact h.1), hB2⟩
  · have HZ : Hid (∃ i, i < 8 ∧ ¬ Nil (kidS (p.s k) i) (kidB (p.s k) i)) := by
      by_cases h : ∃ i, i < 8 ∧ ¬ Nil (kidS (p.s k) i) (kidB (p.s k) i)
      · exact h
      · exact absurd ((zero_kids _).2 h) hz
    have hz' : eq16 (kidCell (p.s k)) (fun _ => 0) = false := by simpa using hz
    clear hz
    go_wp2_with (first
      | (refine wpList_store_row rfl 94 (.tmp 8) (.tmp 20) rfl w1.heap.size (kidsA (p.s k)) rfl rfl 94 #[Value.int .i64 0, Value.int .i64 0, Value.int .i64 0, Value.int .i64 0, Value.int .i64 0, Value.int .i64 0, Value.int .i64 0, Value.int .i64 0, Value.int .i64 0, Value.int .i64 0, Value.int .i64 0, Value.int .i64 0, Value.int .i64 0, Value.int .i64 0, Value.int .i64 0, Value.int .i64 0] (heap_alloc_last _ _) Hi16.out (by rw [kidsA, arr16_size]; rfl) (arr16_one _) ?_; rw [World.setRow_alloc_new])
      | (refine wpList_load_row rfl 94 (.tmp 8) rfl w1.heap.size rfl 94 (kidsA (p.s k)) (0, 0) _ HK.out arrU rfl Hi16.out ?_))
    have hz1 : w1.heap.size < (w1.alloc (.cells (kidsA (p.s k)) 94)).heap.size := by rw [World.size_alloc]; exact Nat.lt_succ_self _
    go_loopw [24] (fun i wr => ∃ j : Nat, j ≤ 8 ∧ i = .int .i64 j ∧ (∀ m, m < j → Nil (kidS (p.s k) m) (kidB (p.s k) m) ∨ Low (p.s (kidS (p.s k) m).toNat)) ∧ wr.heap[w1.heap.size]? = some (.cells (kidsA (p.s k)) 94 (0, 0)) ∧ Below w.heap.size w wr) (fun i _ => 8 - (intOf i).toNat)
    case atStart => exact ⟨0, Nat.zero_le _, rfl, fun m hm => absurd hm (Nat.not_lt_zero _), HK.out, hB2⟩
    case round =>
      obtain ⟨j, hj, rfl, hall, hK, hb⟩ := hrel
      have Hall := hideT hall
      have HKr := hideT hK
      have hszK : w1.heap.size < wr.heap.size := (Array.getElem?_eq_some_iff.1 hK).1
      clear hall hK
      by_cases hlt : j < 8
      · have hlt' : (j : Int) < 8 := by omega
        obtain ⟨y0, y1⟩ := cell_of_block (i := j * 2) HKr.out (arr16_at (kidCell (p.s k)) (by omega))
        obtain ⟨y2, y3⟩ := cell_of_block (i := j * 2 + 1) HKr.out (arr16_at (kidCell (p.s k)) (by omega))
        by_cases hn : Nil (kidS (p.s k) j) (kidB (p.s k) j)
        · have HN := hideT hn
          rw [show kidCell (p.s k) (j * 2) = 0 from hn.1] at y0
          rw [show kidCell (p.s k) (j * 2 + 1) = 0 from hn.2] at y2
          clear hn
          go_wp2
          go_roundw
          case rel => exact ⟨j + 1, by omega, by go_num, relNext (n := 8) hlt Hall.out (Or.inl HN.out), HKr.out, hb⟩
          case measure => simp [intOf]; omega
        · have HN := hideT hn
          have hkp := hideT (kid_points Hf.out hlt hn).1
          have e0 : (kidCell (p.s k) (j * 2) == 0) = false ∨ (kidCell (p.s k) (j * 2) == 0) = true ∧ (kidCell (p.s k) (j * 2 + 1) == 0) = false := by
            by_cases h : kidCell (p.s k) (j * 2) = 0
            · right
              refine ⟨by simp [h], ?_⟩
              have : kidCell (p.s k) (j * 2 + 1) ≠ 0 := fun h' => hn ⟨h, h'⟩
              simp [this]
            · left; simp [h]
          clear hn
          rcases e0 with e0 | ⟨e0, e1⟩
          all_goals
            go_wp2_with fail
            refine (Hlow.out _ lo hi (kidCell (p.s k) (j * 2)) (kidCell (p.s k) (j * 2 + 1)) _ (Hs.out.below hb) hkp.out).mono ?_
            rintro e w2 ⟨⟨t, rfl, ht⟩, hb2⟩
            have HT := hideT ht
            have HK2 := hideT ((hb2.block _ hszK).trans HKr.out)
            have hbn := below_next hb hb2
            clear ht hb2 y0 y1 y2 y3
            cases t
            · go_wp2
              go_ret
              refine ⟨BoolIs.no fun h => ?_, hbn⟩
              rw [Int.toNat_natCast] at h
              rcases h.2 j hlt with h1 | h1
              · exact HN.out h1
              · exact absurd (HT.out.2 h1) (by simp)
            · go_wp2
              go_roundw
              case rel => exact ⟨j + 1, by omega, by go_num, relNext (n := 8) hlt Hall.out (Or.inr (HT.out.1 trivial)), HK2.out, hbn⟩
              case measure => simp [intOf]; omega
      · obtain rfl : j = 8 := by omega
        go_wp2
        go_ret
        exact ⟨BoolIs.yes (by rw [Int.toNat_natCast]; exact ⟨HZ.out, Hall.out⟩), hb⟩

theorem shape1_any (p : PoolD) (hR : Right p) : ShapeAt p 1 (Shape1 p) := shape_step p 1 Page hR (by omega) (shape2_any p)
theorem shape0_any (p : PoolD) (hR : Right p) : ShapeAt p 0 (Shape0 p) := shape_step p 0 (Shape1 p) hR (by omega) (shape1_any p hR)

end Go.Proofs.Ytikhipekmlhibaa

namespace Go.Proofs.Ytikhipekmlhibaa
open Go.RowKit
set_option linter.unusedVariables false

/-- The answer is a new row that holds these pointers. -/
def NewRow (l : List (Int × Int)) (w : World) (e : Ending) (w' : World) : Prop := ∃ v, e = .returned v ∧ w'.ownsRow w.heap.size 33 2 v l.length (pcl l) ∧ Below w.heap.size w w'

/-- What is below the first k Kids. -/
def catUp (F : Int → Int → List (Int × Int)) (s : SlotD) : Nat → List (Int × Int)
  | 0 => []
  | k + 1 => catUp F s k ++ F (kidS s k) (kidB s k)
theorem catUp_one (s : SlotD) : ∀ k, catUp one s k = kidsUp (kidS s) (kidB s) k
  | 0 => rfl
  | k + 1 => by rw [catUp, kidsUp, catUp_one s k]
theorem catUp_mid (p : PoolD) (s : SlotD) : ∀ k, catUp (midL p) s k = subUp p s k
  | 0 => rfl
  | k + 1 => by rw [catUp, subUp, catUp_mid p s k]
theorem catUp_len {F : Int → Int → List (Int × Int)} (hF : ∀ a b, (F a b).length ≤ 9) (s : SlotD) : ∀ k, (catUp F s k).length ≤ 9 * k
  | 0 => Nat.le_refl _
  | k + 1 => by
    have := catUp_len hF s k
    have := hF (kidS s k) (kidB s k)
    rw [catUp, List.length_append]
    omega
def stepL (p : PoolD) (F : Int → Int → List (Int × Int)) (xs xb : Int) : List (Int × Int) := if Nil xs xb then [] else (xs, xb) :: catUp F (p.s xs.toNat) 8

def PtrsAtL (p : PoolD) (L : Int) (F : Int → Int → List (Int × Int)) : Prop := ∀ (v : Value) (lo hi : Nat) (xs xb : Int) (w : World), SlotsAt w lo hi v p.n p.s → (Nil xs xb ∨ Points p xs xb) →
  Calls Try.prog 83 #[v, .agg #[.int .i64 xs, .int .i64 xb], .int .i64 L] w (NewRow (F xs xb) w)

/-- A row of pointers is no array of Kids. -/
theorem row_not_arr {w : World} {base n K : Nat} {v : Value} {xs : List Value} {cs : Array Value} (h : w.ownsRow base 33 2 v n xs) (hK : w.heap[K]? = some (.cells cs 94 (0, 0))) : v.ownBlock ≠ some K := by
  intro e
  rcases h.2 with ⟨rfl, _⟩ | ⟨g, cap, cur, rfl, _, hg, _⟩
  · simp [Value.ownBlock] at e
  · simp only [Value.ownBlock, Option.some.injEq] at e
    subst e
    rw [hK] at hg
    simp only [Option.some.injEq, Obj.cells.injEq] at hg
    exact absurd hg.2.1 (by decide)

theorem not_nil_bool {xs xb : Int} (h : ¬ Nil xs xb) : (xs == 0) = false ∨ (xs == 0) = true ∧ (xb == 0) = false := by
  by_cases h0 : xs = 0
  · right
    refine ⟨by simp [h0], ?_⟩
    have : xb ≠ 0 := fun h' => h ⟨h0, h'⟩
    simp [this]
  · left; simp [h0]

set_option maxRecDepth 20000 in
set_option maxHeartbeats 1000000 in
theorem ptrs2_any (p : PoolD) : PtrsAtL p 2 one := by
  intro v lo hi xs xb w hs hP
  obtain ⟨_, a, c, rfl, _⟩ := id hs
  have ha := below_alloc w (.cells #[.int .i64 xs, .int .i64 xb] 33)
  obtain ⟨⟨x0, x1⟩, ⟨x2, x3⟩⟩ := Box2.new w (.int .i64 xs) (.int .i64 xb) 33
  have hlit := World.ownsRow_lit (e := 33) (size := 2) (base := w.heap.size) (w.alloc (.cells #[.int .i64 xs, .int .i64 xb] 33)) #[.int .i64 xs, .int .i64 xb] 1 (by simp) (by unfold maxLen; omega) rfl
  rw [World.size_alloc] at hlit
  have Hlit := hideT hlit
  have HB := hideT (below_next ha (below_alloc _ (.cells #[.int .i64 xs, .int .i64 xb] 33)))
  clear hlit
  by_cases hn : Nil xs xb
  · have HN := hideT hn
    obtain ⟨rfl, rfl⟩ := hn
    go_enter Try.func83, Try.ntmps83
    go_wp2
    go_ret
    exact ⟨_, rfl, by rw [show one 0 0 = [] from if_pos HN.out]; exact World.ownsRow_nil _ _ _ _, ha⟩
  · have HN := hideT hn
    have e0 := not_nil_bool hn
    clear hn
    rcases e0 with e0 | ⟨e0, e1⟩
    all_goals
      go_enter Try.func83, Try.ntmps83
      go_wp2
      go_ret
      exact ⟨_, rfl, by rw [show one xs xb = [(xs, xb)] from if_neg HN.out]; exact Hlit.out, HB.out⟩

set_option maxRecDepth 20000 in
set_option maxHeartbeats 2000000 in
theorem ptrs_step (p : PoolD) (L : Int) (F : Int → Int → List (Int × Int)) (hR : Right p) (hL : 0 ≤ L ∧ L < 2) (hF : ∀ a b, (F a b).length ≤ 9) (hlow : PtrsAtL p (L + 1) F) : PtrsAtL p L (stepL p F) := by
  intro v lo hi xs xb w hs hP
  have Hs := hideT hs
  obtain ⟨_, a, c, rfl, _⟩ := id hs
  have ha := below_alloc w (.cells #[.int .i64 xs, .int .i64 xb] 33)
  obtain ⟨⟨x0, x1⟩, ⟨x2, x3⟩⟩ := Box2.new w (.int .i64 xs) (.int .i64 xb) 33
  have hL2 : (L == 2) = false := by simp; omega
  clear hs
  by_cases hn : Nil xs xb
  · have HN := hideT hn
    obtain ⟨rfl, rfl⟩ := hn
    go_enter Try.func83, Try.ntmps83
    go_wp2
    go_ret
    exact ⟨_, rfl, by rw [show stepL p F 0 0 = [] from if_pos HN.out]; exact World.ownsRow_nil _ _ _ _, ha⟩
  · have HN := hideT hn
    have e0 := not_nil_bool hn
    have hPt : Points p xs xb := hP.resolve_left hn
    have Hf := hideT (points_fits hR hPt)
    have Hlow := hideT hlow
    have HF := hideT hF
    obtain ⟨k, rfl⟩ := Int.eq_ofNat_of_zero_le hPt.2.1
    rw [Int.toNat_natCast] at Hf
    have hk : k < p.n := by have := hPt.2.2.1; omega
    have hk' : (k : Int) < (p.n : Int) := by omega
    clear hn hP hPt hlow hR hF
    have hlit := World.ownsRow_lit (e := 33) (size := 2) (base := w.heap.size + 1) (w.alloc (.cells #[.int .i64 (k : Int), .int .i64 xb] 33)) #[.int .i64 (k : Int), .int .i64 xb] 1 (by simp) (by unfold maxLen; omega) rfl
    rw [World.size_alloc] at hlit
    have Hlit := hideT hlit
    have ha2 := below_alloc (w.alloc (.cells #[.int .i64 (k : Int), .int .i64 xb] 33)) (.cells #[.int .i64 (k : Int), .int .i64 xb] 33)
    have hB2 := below_next ha ha2
    have hxb := (Box2.new w (.int .i64 (k : Int)) (.int .i64 xb) 33).below ha2
    clear x0 x1 x2 x3 hlit ha ha2
    obtain ⟨⟨x0, x1⟩, ⟨x2, x3⟩⟩ := hxb
    obtain ⟨b, off, ka, kc, rfl, hsc⟩ := (Hs.out.below hB2).cells hk
    have HC := hideT hsc
    obtain ⟨q0, q1, q2, _⟩ := hsc
    obtain ⟨y0, y1⟩ := (Box2.new w (.int .i64 (k : Int)) (.int .i64 xb) 33).1
    obtain ⟨y2, y3⟩ := (Box2.new w (.int .i64 (k : Int)) (.int .i64 xb) 33).2
    rcases e0 with e0 | ⟨e0, e1⟩
    all_goals
      go_enter Try.func83, Try.ntmps83
      go_wp2_with fail
      refine (kidsOf_any _ _ _ lo hi (p.s k) _ HC.out.slot (fits_kn Hf.out)).mono ?_
      rintro e w1 ⟨rfl, hb1⟩
      have hB1 := below_next hB2 hb1
      have hrow1 := Hlit.out.kept (grown_of_below hb1 none) (Or.inr (by simp [Value.ownBlock]))
      have Hi16 : Hid ((Try.prog.info? 94).map (·.size) = some (kidsA (p.s k)).size) := by
        show _ = _
        rw [kidsA, arr16_size]; exact infoArr
      have hblk : (w1.alloc (.cells (kidsA (p.s k)) 94)).heap[w1.heap.size]? = some (.cells (kidsA (p.s k)) 94 (0, 0)) := heap_alloc_last _ _
      have HK := hideT hblk
      have Hrow := hideT (hrow1.alloc (.cells (kidsA (p.s k)) 94))
      have hB3 := below_next hB1 (below_alloc w1 (.cells (kidsA (p.s k)) 94))
      have hz1 : w.heap.size + 2 ≤ w1.heap.size := by have := hb1.size; rw [World.size_alloc, World.size_alloc] at this; omega
      obtain ⟨i0, hi0, hzz⟩ := Option.map_eq_some_iff.1 infoPtrT
      simp only [Prod.mk.injEq] at hzz
      have HT := hideT (And.intro hi0 hzz)
      clear hb1 hB1 hrow1 hblk hB2 x0 x1 x2 x3 y0 y1 y2 y3 q0 q1 q2 HC Hlit hi0 hzz
      go_wp2_with (first
        | (refine wpList_store_row rfl 94 (.tmp 8) (.tmp 23) rfl w1.heap.size (kidsA (p.s k)) rfl rfl 94 #[Value.int .i64 0, Value.int .i64 0, Value.int .i64 0, Value.int .i64 0, Value.int .i64 0, Value.int .i64 0, Value.int .i64 0, Value.int .i64 0, Value.int .i64 0, Value.int .i64 0, Value.int .i64 0, Value.int .i64 0, Value.int .i64 0, Value.int .i64 0, Value.int .i64 0, Value.int .i64 0] (heap_alloc_last _ _) Hi16.out (by rw [kidsA, arr16_size]; rfl) (arr16_one _) ?_; rw [World.setRow_alloc_new]))
      go_loopw [7, 24] (fun o i wr => ∃ (j : Nat) (oa : Option Addr) (oc : Nat), j ≤ 8 ∧ i = .int .i64 j ∧ o = .slice oa (((k : Int), xb) :: catUp F (p.s k) j).length oc ∧ wr.ownsRow (w.heap.size + 1) 33 2 o (((k : Int), xb) :: catUp F (p.s k) j).length (pcl (((k : Int), xb) :: catUp F (p.s k) j)) ∧ wr.heap[w1.heap.size]? = some (.cells (kidsA (p.s k)) 94 (0, 0)) ∧ Below w.heap.size w wr) (fun _ i _ => 8 - (intOf i).toNat)
      case atStart => exact ⟨0, _, _, Nat.zero_le _, rfl, rfl, Hrow.out, HK.out, hB3⟩
      case round =>
        obtain ⟨j, oa, oc, hj, rfl, rfl, hown, hK, hb⟩ := hrel
        have Hown := hideT hown
        have HKr := hideT hK
        have hszK : w1.heap.size < wr.heap.size := (Array.getElem?_eq_some_iff.1 hK).1
        have hlen := catUp_len HF.out (p.s k) j
        clear hown hK
        by_cases hlt : j < 8
        · have hlt' : (j : Int) < 8 := by omega
          obtain ⟨y0, y1⟩ := cell_of_block (i := j * 2) HKr.out (arr16_at (kidCell (p.s k)) (by omega))
          obtain ⟨y2, y3⟩ := cell_of_block (i := j * 2 + 1) HKr.out (arr16_at (kidCell (p.s k)) (by omega))
          have Hkp : Hid (Nil (kidCell (p.s k) (j * 2)) (kidCell (p.s k) (j * 2 + 1)) ∨ Points p (kidCell (p.s k) (j * 2)) (kidCell (p.s k) (j * 2 + 1))) := by
            by_cases hn : Nil (kidS (p.s k) j) (kidB (p.s k) j)
            · exact Or.inl hn
            · exact Or.inr (kid_points Hf.out hlt hn).1
          go_wp2_with fail
          refine (Hlow.out _ lo hi (kidCell (p.s k) (j * 2)) (kidCell (p.s k) (j * 2 + 1)) _ (Hs.out.below hb) Hkp.out).mono ?_
          rintro e w2 ⟨v2, rfl, hown2, hb2⟩
          obtain ⟨na, nc, rfl, _⟩ := owns_form hown2
          have hl9 := HF.out (kidCell (p.s k) (j * 2)) (kidCell (p.s k) (j * 2 + 1))
          have Hown2 := hideT hown2
          have HownO := hideT (Hown.out.kept (grown_of_below hb2 none) (by cases hv : (Value.slice oa (((k : Int), xb) :: catUp F (p.s k) j).length oc).ownBlock <;> simp))
          have HK2 := hideT ((hb2.block _ hszK).trans HKr.out)
          have hbn := below_next hb hb2
          have hz2 := hb2.size
          clear hown2 hb2 y0 y1 y2 y3 Hown HKr
          go_wp2_with (first
            | (at_builtin; refine wpList_append_opt rfl _ _ 27 rfl (w.heap.size + 1) 33 i0 (.agg #[.int .i64 0, .int .i64 0]) 2 16 (by kernel_rfl) HT.out.1 HT.out.2.1 HT.out.2.2.1 HT.out.2.2.2 rfl (by decide) (.slice oa (((k : Int), xb) :: catUp F (p.s k) j).length oc) (((k : Int), xb) :: catUp F (p.s k) j).length (pcl (((k : Int), xb) :: catUp F (p.s k) j)) rfl ?c0 na (F (kidCell (p.s k) (j * 2)) (kidCell (p.s k) (j * 2 + 1))).length nc (pcl (F (kidCell (p.s k) (j * 2)) (kidCell (p.s k) (j * 2 + 1)))) rfl (pcl_len _) (pcl_one _) ?c1 ?c3 ?c4 ?c5 ?_))
          case c0 => exact HownO.out
          case c1 =>
            intro h0
            obtain ⟨g, cap, e, _, _, _, hcell⟩ := owns_cell Hown2.out h0
            simp only [Value.slice.injEq, true_and] at e
            exact ⟨g, 0, e.1, fun j u hj => by rw [Nat.zero_add]; exact (hcell j u hj).1⟩
          case c3 => rw [List.length_cons]; unfold maxLen; omega
          case c4 => rw [List.length_cons]; omega
          case c5 => omega
          intro v3 w3 hown3 hgrow3 _
          have hcat : ((k : Int), xb) :: catUp F (p.s k) (j + 1) = (((k : Int), xb) :: catUp F (p.s k) j) ++ F (kidCell (p.s k) (j * 2)) (kidCell (p.s k) (j * 2 + 1)) := rfl
          have hcl : (catUp F (p.s k) j).length + 1 + (F (kidCell (p.s k) (j * 2)) (kidCell (p.s k) (j * 2 + 1))).length = (((k : Int), xb) :: catUp F (p.s k) (j + 1)).length := by rw [hcat, List.length_append, List.length_cons]
          rw [← pcl_append, ← hcat, hcl] at hown3
          have HK3 := hideT ((hgrow3.block _ (by omega) (fun e => row_not_arr HownO.out HK2.out e.symm)).trans HK2.out)
          have hB4 := hbn.grown hgrow3 hbn.size (fun q hq => by have := HownO.out.lt q hq; omega)
          obtain ⟨oa3, oc3, rfl, _⟩ := owns_form hown3
          have Hown3 := hideT hown3
          clear hown3 hgrow3 hcat hcl
          go_wp2
          go_roundw
          case rel => exact ⟨j + 1, oa3, oc3, by omega, by go_num, rfl, Hown3.out, HK3.out, hB4⟩
          case measure => simp [intOf]; omega
        · obtain rfl : j = 8 := by omega
          go_wp2
          go_ret
          refine ⟨_, rfl, ?_, hb⟩
          rw [show stepL p F (k : Int) xb = ((k : Int), xb) :: catUp F (p.s k) 8 by unfold stepL; rw [if_neg HN.out, Int.toNat_natCast]]
          exact own_base Hown.out (by omega)

theorem ptrs1_any (p : PoolD) (hR : Right p) : PtrsAtL p 1 (midL p) := by
  have h := ptrs_step p 1 one hR (by omega) (fun a b => by unfold one; split <;> simp) (ptrs2_any p)
  have e : stepL p one = midL p := by
    funext xs xb
    unfold stepL midL lowL
    rw [catUp_one]
  rw [e] at h
  exact h
theorem ptrs0_any (p : PoolD) (hR : Right p) : PtrsAtL p 0 (treeL p) := by
  have h := ptrs_step p 0 (midL p) hR (by omega) (midL_len p) (ptrs1_any p hR)
  have e : stepL p (midL p) = treeL p := by
    funext xs xb
    unfold stepL treeL
    rw [catUp_mid]
  rw [e] at h
  exact h

end Go.Proofs.Ytikhipekmlhibaa

namespace Go.Proofs.Ytikhipekmlhibaa
open Go.RowKit
set_option linter.unusedVariables false

def HasP (n : Nat) (f g : Nat → Int) (x y : Int) : Prop := ∃ j, j < n ∧ f j = x ∧ g j = y

theorem PtrsAt.cellsT {w : World} {lo hi : Nat} {a : Option Addr} {n c : Nat} {f g : Nat → Int} (h : PtrsAt w lo hi (.slice a n c) n f g) {k : Nat} (hk : k < n) : ∃ b off, a = some ⟨b, off, none⟩ ∧ w.cell? ⟨b, off + k * 2, none⟩ = some (.int .i64 (f k)) ∧ w.cell? ⟨b, off + k * 2 + 1, none⟩ = some (.int .i64 (g k)) := by
  obtain ⟨_, a2, c2, hv, _, hx⟩ := h
  simp only [Value.slice.injEq, true_and] at hv
  obtain ⟨rfl, rfl⟩ := hv
  obtain ⟨b, off, ha, _, _, h3⟩ := hx (by omega)
  exact ⟨b, off, ha, (h3 k hk).1, (h3 k hk).2⟩
theorem PtrsAt.take {w : World} {lo hi : Nat} {a : Option Addr} {n c m c' : Nat} {f g : Nat → Int} (h : PtrsAt w lo hi (.slice a n c) n f g) (hm : m ≤ n) (hc : m ≤ c') : PtrsAt w lo hi (.slice a m c') m f g := by
  obtain ⟨h0, a2, c2, hv, _, hx⟩ := h
  simp only [Value.slice.injEq, true_and] at hv
  obtain ⟨rfl, rfl⟩ := hv
  refine ⟨by omega, _, c', rfl, hc, fun h1 => ?_⟩
  obtain ⟨b, off, ha, hl, hh, h3⟩ := hx (by omega)
  exact ⟨b, off, ha, hl, hh, fun i hi => h3 i (by omega)⟩

set_option maxRecDepth 20000 in
set_option maxHeartbeats 1000000 in
theorem indexPtr_any (v : Value) (n lo hi : Nat) (f g : Nat → Int) (x y : Int) (w : World) (h1 : PtrsAt w lo hi v n f g) :
    Calls Try.prog 118 #[v, .agg #[.int .i64 x, .int .i64 y]] w fun e w' => (∃ r : Int, e = .returned (.int .i64 r) ∧ (0 ≤ r ↔ HasP n f g x y)) ∧ Below w.heap.size w w' := by
  have Hp := hideT h1
  obtain ⟨m1, a, c, rfl, mc, _⟩ := id h1
  unfold maxLen at m1
  clear h1
  have ha := below_alloc w (.cells #[.int .i64 x, .int .i64 y] 33)
  have HB := hideT (Box2.new w (.int .i64 x) (.int .i64 y) 33)
  go_enter Try.func118, Try.ntmps118
  go_wp2
  go_loopw [8] (fun i wr => ∃ k : Nat, k ≤ n ∧ i = .int .i64 k ∧ ¬ HasP k f g x y ∧ Box2 wr w.heap.size (.int .i64 x) (.int .i64 y) ∧ Below w.heap.size w wr) (fun i _ => n - (intOf i).toNat)
  case atStart => exact ⟨0, Nat.zero_le _, rfl, fun ⟨j, hj, _⟩ => absurd hj (Nat.not_lt_zero _), HB.out, ha⟩
  case round =>
    obtain ⟨k, hk, rfl, hno, hX, hb⟩ := hrel
    have Hno := hideT hno
    have HX := hideT hX
    clear hno hX
    obtain ⟨⟨x0, x1⟩, ⟨x2, x3⟩⟩ := HX.out
    by_cases hlt : k < n
    · have hlt' : (k : Int) < (n : Int) := by omega
      obtain ⟨b, off, rfl, q0, q1⟩ := (Hp.out.below hb).cellsT hlt
      by_cases he : x = f k ∧ y = g k
      · have H := hideT (show HasP n f g x y from ⟨k, hlt, he.1.symm, he.2.symm⟩)
        rw [← he.1] at q0
        rw [← he.2] at q1
        clear he
        go_wp2
        go_quiet (fail)
        go_wp2
        go_ret
        exact ⟨⟨_, rfl, ⟨fun _ => H.out, fun _ => Int.natCast_nonneg _⟩⟩, below_drewN hb _⟩
      · have H := hideT he
        have e0 : (x == f k) = false ∨ (x == f k) = true ∧ (y == g k) = false := by
          by_cases h : x = f k
          · right
            refine ⟨by simp [h], ?_⟩
            have : y ≠ g k := fun h' => he ⟨h, h'⟩
            simp [this]
          · left; simp [h]
        clear he
        rcases e0 with e0 | ⟨e0, e1⟩
        all_goals
          go_wp2
          go_quiet (fail)
          go_wp2
          go_roundw
          case rel =>
            refine ⟨k + 1, by omega, by go_num, ?_, HX.out.below (below_drewN (Below.refl _ _) _), below_drewN hb _⟩
            rintro ⟨j, hj, hjx⟩
            by_cases e : j = k
            · subst e; exact H.out ⟨hjx.1.symm, hjx.2.symm⟩
            · exact Hno.out ⟨j, by omega, hjx⟩
          case measure => simp [intOf]; omega
    · obtain rfl : k = n := by omega
      go_wp2
      go_ret
      exact ⟨⟨-1, rfl, ⟨fun h => absurd h (by omega), fun h => absurd h Hno.out⟩⟩, hb⟩

set_option maxRecDepth 20000 in
set_option maxHeartbeats 400000 in
theorem containsPtr_any (v : Value) (n lo hi : Nat) (f g : Nat → Int) (x y : Int) (w : World) (h1 : PtrsAt w lo hi v n f g) :
    Calls Try.prog 117 #[v, .agg #[.int .i64 x, .int .i64 y]] w fun e w' => BoolIs (HasP n f g x y) e ∧ Below w.heap.size w w' := by
  have Hi := hideT h1
  obtain ⟨m1, a, c, rfl, mc, _⟩ := id h1
  clear h1
  have ha := below_alloc w (.cells #[.int .i64 x, .int .i64 y] 33)
  go_enter Try.func117, Try.ntmps117
  go_wp2_with fail
  refine (indexPtr_any _ n lo hi f g x y _ (Hi.out.below ha)).mono ?_
  rintro e w' ⟨⟨r, rfl, hr⟩, hb⟩
  have Hr := hideT hr
  have hB := below_next ha hb
  clear hr hb
  go_wp2
  go_ret
  exact ⟨⟨_, rfl, by simpa using Hr.out⟩, hB⟩

end Go.Proofs.Ytikhipekmlhibaa
