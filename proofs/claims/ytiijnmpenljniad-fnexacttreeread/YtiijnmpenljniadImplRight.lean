/- What the small functions of impl answer (isFree, isPage, isNode, birthRight, ptrOf, kidFound, slices.Index, slices.Contains). -/
import Derived.Test.YtiijnmpenljniadSpecRight
import Derived.Test.YtiijnmpenljniadOwn
namespace Go.Proofs.Ytiijnmpenljniad
open Go.RowKit
set_option linter.unusedVariables false

def Page (s : SlotD) : Prop := BirthOk s.birth ∧ s.kn = 0 ∧ s.data.size = 16
def Node (s : SlotD) : Prop := BirthOk s.birth ∧ s.kn = 8 ∧ s.data.toList.isEmpty = true

set_option maxRecDepth 20000 in
set_option maxHeartbeats 400000 in
theorem isFree_any (v0 v1 v2 : Value) (lo hi : Nat) (s : SlotD) (w : World) (h1 : SlotAt w lo hi v0 v1 v2 s) :
    Calls Try.prog 47 #[.agg #[v0, v1, v2]] w fun e w' => BoolIs (Free s) e ∧ Below w.heap.size w w' := by
  obtain ⟨rfl, ⟨m1, a, c, rfl, _⟩, rfl, _⟩ := h1
  unfold maxLen at m1
  have hbw := (Below.refl w.heap.size w).alloc (Nat.le_refl _) (.cells #[.int .i64 s.birth, .slice a s.kn c, .string s.data] 42)
  by_cases h1 : s.birth = 0
  · by_cases h2 : s.kn = 0
    · by_cases h3 : s.data.toList.isEmpty = true
      · have H : Hid (Free s) := ⟨h1, h2, h3⟩
        have e1 : (s.birth == 0) = true := by simp [h1]
        have e2 : ((s.kn : Int) == 0) = true := by simp [h2]
        clear h1 h2
        go_enter Try.func47, Try.ntmps47
        go_wp2
        go_ret
        exact ⟨BoolIs.yes H.out, hbw⟩
      · have H : Hid (¬ Free s) := fun h => h3 h.2.2
        have e1 : (s.birth == 0) = true := by simp [h1]
        have e2 : ((s.kn : Int) == 0) = true := by simp [h2]
        have e3 : s.data.toList.isEmpty = false := by simpa using h3
        clear h1 h2 h3
        go_enter Try.func47, Try.ntmps47
        go_wp2
        go_ret
        exact ⟨BoolIs.no H.out, hbw⟩
    · have H : Hid (¬ Free s) := fun h => h2 h.2.1
      have e1 : (s.birth == 0) = true := by simp [h1]
      have e2 : ((s.kn : Int) == 0) = false := by simp; omega
      clear h1 h2
      go_enter Try.func47, Try.ntmps47
      go_wp2
      go_ret
      exact ⟨BoolIs.no H.out, hbw⟩
  · have H : Hid (¬ Free s) := fun h => h1 h.1
    have e1 : (s.birth == 0) = false := by simp [h1]
    clear h1
    go_enter Try.func47, Try.ntmps47
    go_wp2
    go_ret
    exact ⟨BoolIs.no H.out, hbw⟩

set_option maxRecDepth 20000 in
set_option maxHeartbeats 400000 in
theorem birthRight_any (n : Int) (w : World) : Calls Try.prog 96 #[.int .i64 n] w fun e w' => BoolIs (BirthOk n) e ∧ w' = w := by
  by_cases h1 : 1 ≤ n
  · by_cases h2 : n ≤ 1000000
    · go_enter Try.func96, Try.ntmps96
      go_wp2
      go_ret
      exact ⟨BoolIs.yes ⟨h1, h2⟩, rfl⟩
    · go_enter Try.func96, Try.ntmps96
      go_wp2
      go_ret
      exact ⟨BoolIs.no fun h => by have := h.2; omega, rfl⟩
  · go_enter Try.func96, Try.ntmps96
    go_wp2
    go_ret
    exact ⟨BoolIs.no fun h => by have := h.1; omega, rfl⟩

set_option maxRecDepth 20000 in
set_option maxHeartbeats 400000 in
theorem isPage_any (v0 v1 v2 : Value) (lo hi : Nat) (s : SlotD) (w : World) (h1 : SlotAt w lo hi v0 v1 v2 s) :
    Calls Try.prog 77 #[.agg #[v0, v1, v2]] w fun e w' => BoolIs (Page s) e ∧ Below w.heap.size w w' := by
  obtain ⟨rfl, ⟨m1, a, c, rfl, _⟩, rfl, m2⟩ := h1
  unfold maxLen at m1 m2
  have hbw := (Below.refl w.heap.size w).alloc (Nat.le_refl _) (.cells #[.int .i64 s.birth, .slice a s.kn c, .string s.data] 42)
  by_cases h1 : BirthOk s.birth
  · have HB : Hid (BirthOk s.birth) := h1
    by_cases h2 : s.kn = 0
    · by_cases h3 : s.data.size = 16
      · have H : Hid (Page s) := ⟨h1, h2, h3⟩
        have e2 : ((s.kn : Int) == 0) = true := by simp [h2]
        have e3 : ((s.data.size : Int) == 16) = true := by simp [h3]
        clear h1 h2 h3
        go_enter Try.func77, Try.ntmps77
        go_wp2_with (go_at_call 96; refine (birthRight_any _ _).mono ?_; rintro e w' ⟨⟨t, rfl, ht⟩, rfl⟩; obtain rfl : t = true := ht.2 HB.out; clear ht)
        go_ret
        exact ⟨BoolIs.yes H.out, hbw⟩
      · have H : Hid (¬ Page s) := fun h => h3 h.2.2
        have e2 : ((s.kn : Int) == 0) = true := by simp [h2]
        have e3 : ((s.data.size : Int) == 16) = false := by simp; omega
        clear h1 h2 h3
        go_enter Try.func77, Try.ntmps77
        go_wp2_with (go_at_call 96; refine (birthRight_any _ _).mono ?_; rintro e w' ⟨⟨t, rfl, ht⟩, rfl⟩; obtain rfl : t = true := ht.2 HB.out; clear ht)
        go_ret
        exact ⟨BoolIs.no H.out, hbw⟩
    · have H : Hid (¬ Page s) := fun h => h2 h.2.1
      have e2 : ((s.kn : Int) == 0) = false := by simp; omega
      clear h1 h2
      go_enter Try.func77, Try.ntmps77
      go_wp2_with (go_at_call 96; refine (birthRight_any _ _).mono ?_; rintro e w' ⟨⟨t, rfl, ht⟩, rfl⟩; obtain rfl : t = true := ht.2 HB.out; clear ht)
      go_ret
      exact ⟨BoolIs.no H.out, hbw⟩
  · have HB : Hid (¬ BirthOk s.birth) := h1
    clear h1
    go_enter Try.func77, Try.ntmps77
    go_wp2_with (go_at_call 96; refine (birthRight_any _ _).mono ?_; rintro e w' ⟨⟨t, rfl, ht⟩, rfl⟩; obtain rfl : t = false := bool_no ht HB.out; clear ht)
    go_ret
    exact ⟨BoolIs.no fun h => HB.out h.1, hbw⟩

set_option maxRecDepth 20000 in
set_option maxHeartbeats 400000 in
theorem isNode_any (v0 v1 v2 : Value) (lo hi : Nat) (s : SlotD) (w : World) (h1 : SlotAt w lo hi v0 v1 v2 s) :
    Calls Try.prog 78 #[.agg #[v0, v1, v2]] w fun e w' => BoolIs (Node s) e ∧ Below w.heap.size w w' := by
  obtain ⟨rfl, ⟨m1, a, c, rfl, _⟩, rfl, m2⟩ := h1
  unfold maxLen at m1 m2
  have hbw := (Below.refl w.heap.size w).alloc (Nat.le_refl _) (.cells #[.int .i64 s.birth, .slice a s.kn c, .string s.data] 42)
  by_cases h1 : BirthOk s.birth
  · have HB : Hid (BirthOk s.birth) := h1
    by_cases h2 : s.kn = 8
    · by_cases h3 : s.data.toList.isEmpty = true
      · have H : Hid (Node s) := ⟨h1, h2, h3⟩
        have e2 : ((s.kn : Int) == 8) = true := by simp [h2]
        clear h1 h2
        go_enter Try.func78, Try.ntmps78
        go_wp2_with (go_at_call 96; refine (birthRight_any _ _).mono ?_; rintro e w' ⟨⟨t, rfl, ht⟩, rfl⟩; obtain rfl : t = true := ht.2 HB.out; clear ht)
        go_ret
        exact ⟨BoolIs.yes H.out, hbw⟩
      · have H : Hid (¬ Node s) := fun h => h3 h.2.2
        have e2 : ((s.kn : Int) == 8) = true := by simp [h2]
        have e3 : s.data.toList.isEmpty = false := by simpa using h3
        clear h1 h2 h3
        go_enter Try.func78, Try.ntmps78
        go_wp2_with (go_at_call 96; refine (birthRight_any _ _).mono ?_; rintro e w' ⟨⟨t, rfl, ht⟩, rfl⟩; obtain rfl : t = true := ht.2 HB.out; clear ht)
        go_ret
        exact ⟨BoolIs.no H.out, hbw⟩
    · have H : Hid (¬ Node s) := fun h => h2 h.2.1
      have e2 : ((s.kn : Int) == 8) = false := by simp; omega
      clear h1 h2
      go_enter Try.func78, Try.ntmps78
      go_wp2_with (go_at_call 96; refine (birthRight_any _ _).mono ?_; rintro e w' ⟨⟨t, rfl, ht⟩, rfl⟩; obtain rfl : t = true := ht.2 HB.out; clear ht)
      go_ret
      exact ⟨BoolIs.no H.out, hbw⟩
  · have HB : Hid (¬ BirthOk s.birth) := h1
    clear h1
    go_enter Try.func78, Try.ntmps78
    go_wp2_with (go_at_call 96; refine (birthRight_any _ _).mono ?_; rintro e w' ⟨⟨t, rfl, ht⟩, rfl⟩; obtain rfl : t = false := bool_no ht HB.out; clear ht)
    go_ret
    exact ⟨BoolIs.no fun h => HB.out h.1, hbw⟩

set_option maxRecDepth 20000 in
set_option maxHeartbeats 400000 in
theorem index_any (v : Value) (n lo hi : Nat) (f : Nat → Int) (x : Int) (w : World) (h1 : IntsAt w lo hi v n f) :
    Calls Try.prog 82 #[v, .int .i64 x] w fun e w' => (∃ r : Int, e = .returned (.int .i64 r) ∧ (0 ≤ r ↔ Has n f x)) ∧ w' = w := by
  obtain ⟨m1, a, c, rfl, mc, g1⟩ := h1
  unfold maxLen at m1
  have G1 : Hid (0 < n → ∃ b off, a = some ⟨b, off, none⟩ ∧ lo ≤ b ∧ b < hi ∧ ∀ i, i < n → w.cell? ⟨b, off + i, none⟩ = some (.int .i64 (f i))) := g1
  clear g1
  go_enter Try.func82, Try.ntmps82
  go_wp2
  go_loop [8] (fun i => ∃ k : Nat, k ≤ n ∧ i = .int .i64 k ∧ ¬ Has k f x) (fun i => n - (intOf i).toNat)
  case atStart => exact ⟨0, Nat.zero_le _, rfl, fun ⟨j, hj, _⟩ => absurd hj (Nat.not_lt_zero _)⟩
  case round =>
    obtain ⟨k, hk, rfl, hno⟩ := hrel
    have Hno : Hid (¬ Has k f x) := hno
    clear hno
    by_cases hlt : k < n
    · have hlt' : (k : Int) < (n : Int) := by omega
      obtain ⟨b, off, rfl, _, _, k1⟩ := G1.out (by omega)
      have hc1 := k1 k hlt
      clear k1 G1
      by_cases he : f k = x
      · have H : Hid (Has n f x) := ⟨k, hlt, he⟩
        have he' : (x == f k) = true := by simp [he]
        clear he
        go_wp2
        go_ret
        exact ⟨⟨_, rfl, ⟨fun _ => H.out, fun _ => Int.natCast_nonneg _⟩⟩, rfl⟩
      · have H : Hid (¬ f k = x) := he
        have he' : (x == f k) = false := by simp; exact fun e => he e.symm
        clear he
        go_wp2
        go_round
        case rel =>
          refine ⟨k + 1, by omega, by go_num, ?_⟩
          rintro ⟨j, hj, hjx⟩
          by_cases e : j = k
          · subst e; exact H.out hjx
          · exact Hno.out ⟨j, by omega, hjx⟩
        case measure => simp [intOf]; omega
    · obtain rfl : k = n := by omega
      go_wp2
      go_ret
      exact ⟨⟨-1, rfl, ⟨fun h => absurd h (by omega), fun h => absurd h Hno.out⟩⟩, rfl⟩

set_option maxRecDepth 20000 in
set_option maxHeartbeats 400000 in
theorem contains_any (v : Value) (n lo hi : Nat) (f : Nat → Int) (x : Int) (w : World) (h1 : IntsAt w lo hi v n f) :
    Calls Try.prog 61 #[v, .int .i64 x] w fun e w' => BoolIs (Has n f x) e ∧ w' = w := by
  have Hi : Hid (IntsAt w lo hi v n f) := h1
  obtain ⟨m1, a, c, rfl, mc, g1⟩ := h1
  clear g1
  go_enter Try.func61, Try.ntmps61
  go_wp2_with fail
  refine (index_any _ n lo hi f x _ Hi.out).mono ?_
  rintro e w' ⟨⟨r, rfl, hr⟩, rfl⟩
  have Hr : Hid (0 ≤ r ↔ Has n f x) := hr
  clear hr
  go_wp2
  go_ret
  exact ⟨⟨_, rfl, by simpa using Hr.out⟩, rfl⟩

def PtrOf (n : Nat) (f : Nat → SlotD) (x ps pb : Int) : Prop :=
  (0 ≤ x ∧ x < n ∧ ¬ Free (f x.toNat) ∧ ps = x ∧ pb = (f x.toNat).birth) ∨ (¬ (0 ≤ x ∧ x < n ∧ ¬ Free (f x.toNat)) ∧ ps = 0 ∧ pb = 0)

set_option maxRecDepth 20000 in
set_option maxHeartbeats 400000 in
theorem ptrOf_any (v : Value) (n lo hi : Nat) (f : Nat → SlotD) (x : Int) (w : World) (h1 : SlotsAt w lo hi v n f) :
    Calls Try.prog 81 #[v, .int .i64 x] w fun e w' => (∃ ps pb, e = .returned (.agg #[.int .i64 ps, .int .i64 pb]) ∧ PtrOf n f x ps pb) ∧ Below w.heap.size w w' := by
  have Hi : Hid (SlotsAt w lo hi v n f) := h1
  obtain ⟨m1, a, c, rfl, mc, g1⟩ := h1
  unfold maxLen at m1
  clear g1
  have Hbw : Hid (Below w.heap.size w (w.alloc (.cells #[.int .i64 0, .int .i64 0] 35))) := below_alloc _ _
  by_cases h1 : x < 0
  · have H : Hid (PtrOf n f x 0 0) := Or.inr ⟨fun h => by omega, rfl, rfl⟩
    go_enter Try.func81, Try.ntmps81
    go_wp2
    refine bodyPost_ret (v := .agg #[.int .i64 0, .int .i64 0]) (by simp [results, Try.results81, go_sem]) rfl ⟨⟨0, 0, rfl, H.out⟩, Hbw.out⟩
  · by_cases h2 : (n : Int) ≤ x
    · have H : Hid (PtrOf n f x 0 0) := Or.inr ⟨fun h => by omega, rfl, rfl⟩
      go_enter Try.func81, Try.ntmps81
      go_wp2
      refine bodyPost_ret (v := .agg #[.int .i64 0, .int .i64 0]) (by simp [results, Try.results81, go_sem]) rfl ⟨⟨0, 0, rfl, H.out⟩, Hbw.out⟩
    · obtain ⟨k, rfl⟩ := Int.eq_ofNat_of_zero_le (show 0 ≤ x by omega)
      have hk : k < n := by omega
      have hkl : (k : Int) < (n : Int) := by omega
      obtain ⟨b, off, ka, kc, rfl, hs⟩ := Hi.out.cells hk
      have Hs : Hid (SlotCells w b (off + k * 3) lo hi ka kc (f k)) := hs
      have hlt := lt_of_cell hs.c0
      obtain ⟨q0, q1, q2, _⟩ := hs
      by_cases hf : Free (f k)
      · have H : Hid (PtrOf n f k 0 0) := Or.inr ⟨fun h => h.2.2 (by rw [Int.toNat_natCast]; exact hf), rfl, rfl⟩
        have HF : Hid (Free (f k)) := hf
        clear hf
        go_enter Try.func81, Try.ntmps81
        go_wp2_with fail
        refine (isFree_any _ _ _ lo hi (f k) _ (Hs.out.slot.below Hbw.out)).mono ?_
        rintro e w1 ⟨⟨t, rfl, hx⟩, hb1⟩
        obtain rfl : t = true := hx.2 HF.out
        clear hx
        have HX : Hid (Box2 w1 w.heap.size (.int .i64 0) (.int .i64 0)) := (Box2.new w _ _ _).below hb1
        have hbn := below_next Hbw.out hb1
        clear hb1 q0 q1 q2
        obtain ⟨⟨y0, y1⟩, ⟨y2, y3⟩⟩ := HX.out
        go_wp2
        have HY := HX.out.put (.int .i64 0) (.int .i64 0)
        refine bodyPost_ret (v := .agg #[.int .i64 0, .int .i64 0]) (by simp [results, Try.results81, go_sem, HY.1.1, HY.2.1]) rfl ⟨⟨0, 0, rfl, H.out⟩, (hbn.setCell (Nat.le_refl _) _).setCell (Nat.le_refl _) _⟩
      · have H : Hid (PtrOf n f k k (f k).birth) := Or.inl ⟨by omega, hkl, by rw [Int.toNat_natCast]; exact hf, rfl, by rw [Int.toNat_natCast]⟩
        have HF : Hid (¬ Free (f k)) := hf
        clear hf
        go_enter Try.func81, Try.ntmps81
        go_wp2_with fail
        refine (isFree_any _ _ _ lo hi (f k) _ (Hs.out.slot.below Hbw.out)).mono ?_
        rintro e w1 ⟨⟨t, rfl, hx⟩, hb1⟩
        obtain rfl : t = false := bool_no hx HF.out
        clear hx
        have HX : Hid (Box2 w1 w.heap.size (.int .i64 0) (.int .i64 0)) := (Box2.new w _ _ _).below hb1
        have hbn := below_next Hbw.out hb1
        have q5 := (Hs.out.below hbn).c0
        clear hb1 q0 q1 q2
        obtain ⟨⟨y0, y1⟩, ⟨y2, y3⟩⟩ := HX.out
        go_wp2
        have HY := HX.out.put (.int .i64 k) (.int .i64 (f k).birth)
        refine bodyPost_ret (v := .agg #[.int .i64 k, .int .i64 (f k).birth]) (by simp [results, Try.results81, go_sem, HY.1.1, HY.2.1]) rfl ⟨⟨_, _, rfl, H.out⟩, (hbn.setCell (Nat.le_refl _) _).setCell (Nat.le_refl _) _⟩

end Go.Proofs.Ytiijnmpenljniad
