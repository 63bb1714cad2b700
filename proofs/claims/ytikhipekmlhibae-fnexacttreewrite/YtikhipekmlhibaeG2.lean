/- What the small functions of impl answer (isFree, isPage, isNode, birthRight, ptrOf, kidFound, slices.Index, slices.Contains). -/
import Derived.Test.YtikhipekmlhibaeG1
import Derived.Laws.OwnMore
import Derived.Lib.SliceRun
import Derived.Test.YtikhipekmlhibaeRows
import Derived.Deep.OwnRows
namespace Go.Proofs.Ytikhipekmlhibae
open Go.RowKit
set_option linter.unusedVariables false

def Page (s : SlotD) : Prop := BirthOk s.birth ∧ s.kn = 0 ∧ s.data.size = 16
def Node (s : SlotD) : Prop := BirthOk s.birth ∧ s.kn = 8 ∧ s.data.toList.isEmpty = true

set_option maxRecDepth 20000 in
set_option maxHeartbeats 400000 in
theorem isFree_any (v0 v1 v2 : Value) (lo hi : Nat) (s : SlotD) (w : World) (h1 : SlotAt w lo hi v0 v1 v2 s) :
    Calls Try.prog 84 #[.agg #[v0, v1, v2]] w fun e w' => BoolIs (Free s) e ∧ Below w.heap.size w w' := by
  obtain ⟨rfl, ⟨m1, a, c, rfl, _⟩, rfl, _⟩ := h1
  unfold maxLen at m1
  have hbw := (Below.refl w.heap.size w).alloc (Nat.le_refl _) (.cells #[.int .i64 s.birth, .slice a s.kn c, .string s.data] 75)
  by_cases h1 : s.birth = 0
  · by_cases h2 : s.kn = 0
    · by_cases h3 : s.data.toList.isEmpty = true
      · have H : Hid (Free s) := ⟨h1, h2, h3⟩
        have e1 : (s.birth == 0) = true := by simp [h1]
        have e2 : ((s.kn : Int) == 0) = true := by simp [h2]
        clear h1 h2
        go_enter Try.func84, Try.ntmps84
        go_wp2
        go_ret
        exact ⟨BoolIs.yes H.out, hbw⟩
      · have H : Hid (¬ Free s) := fun h => h3 h.2.2
        have e1 : (s.birth == 0) = true := by simp [h1]
        have e2 : ((s.kn : Int) == 0) = true := by simp [h2]
        have e3 : s.data.toList.isEmpty = false := by simpa using h3
        clear h1 h2 h3
        go_enter Try.func84, Try.ntmps84
        go_wp2
        go_ret
        exact ⟨BoolIs.no H.out, hbw⟩
    · have H : Hid (¬ Free s) := fun h => h2 h.2.1
      have e1 : (s.birth == 0) = true := by simp [h1]
      have e2 : ((s.kn : Int) == 0) = false := by simp; omega
      clear h1 h2
      go_enter Try.func84, Try.ntmps84
      go_wp2
      go_ret
      exact ⟨BoolIs.no H.out, hbw⟩
  · have H : Hid (¬ Free s) := fun h => h1 h.1
    have e1 : (s.birth == 0) = false := by simp [h1]
    clear h1
    go_enter Try.func84, Try.ntmps84
    go_wp2
    go_ret
    exact ⟨BoolIs.no H.out, hbw⟩

set_option maxRecDepth 20000 in
set_option maxHeartbeats 400000 in
theorem birthRight_any (n : Int) (w : World) : Calls Try.prog 83 #[.int .i64 n] w fun e w' => BoolIs (BirthOk n) e ∧ w' = w := by
  by_cases h1 : 1 ≤ n
  · by_cases h2 : n ≤ 1000000
    · go_enter Try.func83, Try.ntmps83
      go_wp2
      go_ret
      exact ⟨BoolIs.yes ⟨h1, h2⟩, rfl⟩
    · go_enter Try.func83, Try.ntmps83
      go_wp2
      go_ret
      exact ⟨BoolIs.no fun h => by have := h.2; omega, rfl⟩
  · go_enter Try.func83, Try.ntmps83
    go_wp2
    go_ret
    exact ⟨BoolIs.no fun h => by have := h.1; omega, rfl⟩

set_option maxRecDepth 20000 in
set_option maxHeartbeats 400000 in
theorem isPage_any (v0 v1 v2 : Value) (lo hi : Nat) (s : SlotD) (w : World) (h1 : SlotAt w lo hi v0 v1 v2 s) :
    Calls Try.prog 102 #[.agg #[v0, v1, v2]] w fun e w' => BoolIs (Page s) e ∧ Below w.heap.size w w' := by
  obtain ⟨rfl, ⟨m1, a, c, rfl, _⟩, rfl, m2⟩ := h1
  unfold maxLen at m1 m2
  have hbw := (Below.refl w.heap.size w).alloc (Nat.le_refl _) (.cells #[.int .i64 s.birth, .slice a s.kn c, .string s.data] 75)
  by_cases h1 : BirthOk s.birth
  · have HB : Hid (BirthOk s.birth) := h1
    by_cases h2 : s.kn = 0
    · by_cases h3 : s.data.size = 16
      · have H : Hid (Page s) := ⟨h1, h2, h3⟩
        have e2 : ((s.kn : Int) == 0) = true := by simp [h2]
        have e3 : ((s.data.size : Int) == 16) = true := by simp [h3]
        clear h1 h2 h3
        go_enter Try.func102, Try.ntmps102
        go_wp2_with (go_at_call 83; refine (birthRight_any _ _).mono ?_; rintro e w' ⟨⟨t, rfl, ht⟩, rfl⟩; obtain rfl : t = true := ht.2 HB.out; clear ht)
        go_ret
        exact ⟨BoolIs.yes H.out, hbw⟩
      · have H : Hid (¬ Page s) := fun h => h3 h.2.2
        have e2 : ((s.kn : Int) == 0) = true := by simp [h2]
        have e3 : ((s.data.size : Int) == 16) = false := by simp; omega
        clear h1 h2 h3
        go_enter Try.func102, Try.ntmps102
        go_wp2_with (go_at_call 83; refine (birthRight_any _ _).mono ?_; rintro e w' ⟨⟨t, rfl, ht⟩, rfl⟩; obtain rfl : t = true := ht.2 HB.out; clear ht)
        go_ret
        exact ⟨BoolIs.no H.out, hbw⟩
    · have H : Hid (¬ Page s) := fun h => h2 h.2.1
      have e2 : ((s.kn : Int) == 0) = false := by simp; omega
      clear h1 h2
      go_enter Try.func102, Try.ntmps102
      go_wp2_with (go_at_call 83; refine (birthRight_any _ _).mono ?_; rintro e w' ⟨⟨t, rfl, ht⟩, rfl⟩; obtain rfl : t = true := ht.2 HB.out; clear ht)
      go_ret
      exact ⟨BoolIs.no H.out, hbw⟩
  · have HB : Hid (¬ BirthOk s.birth) := h1
    clear h1
    go_enter Try.func102, Try.ntmps102
    go_wp2_with (go_at_call 83; refine (birthRight_any _ _).mono ?_; rintro e w' ⟨⟨t, rfl, ht⟩, rfl⟩; obtain rfl : t = false := bool_no ht HB.out; clear ht)
    go_ret
    exact ⟨BoolIs.no fun h => HB.out h.1, hbw⟩

set_option maxRecDepth 20000 in
set_option maxHeartbeats 400000 in
theorem isNode_any (v0 v1 v2 : Value) (lo hi : Nat) (s : SlotD) (w : World) (h1 : SlotAt w lo hi v0 v1 v2 s) :
    Calls Try.prog 103 #[.agg #[v0, v1, v2]] w fun e w' => BoolIs (Node s) e ∧ Below w.heap.size w w' := by
  obtain ⟨rfl, ⟨m1, a, c, rfl, _⟩, rfl, m2⟩ := h1
  unfold maxLen at m1 m2
  have hbw := (Below.refl w.heap.size w).alloc (Nat.le_refl _) (.cells #[.int .i64 s.birth, .slice a s.kn c, .string s.data] 75)
  by_cases h1 : BirthOk s.birth
  · have HB : Hid (BirthOk s.birth) := h1
    by_cases h2 : s.kn = 8
    · by_cases h3 : s.data.toList.isEmpty = true
      · have H : Hid (Node s) := ⟨h1, h2, h3⟩
        have e2 : ((s.kn : Int) == 8) = true := by simp [h2]
        clear h1 h2
        go_enter Try.func103, Try.ntmps103
        go_wp2_with (go_at_call 83; refine (birthRight_any _ _).mono ?_; rintro e w' ⟨⟨t, rfl, ht⟩, rfl⟩; obtain rfl : t = true := ht.2 HB.out; clear ht)
        go_ret
        exact ⟨BoolIs.yes H.out, hbw⟩
      · have H : Hid (¬ Node s) := fun h => h3 h.2.2
        have e2 : ((s.kn : Int) == 8) = true := by simp [h2]
        have e3 : s.data.toList.isEmpty = false := by simpa using h3
        clear h1 h2 h3
        go_enter Try.func103, Try.ntmps103
        go_wp2_with (go_at_call 83; refine (birthRight_any _ _).mono ?_; rintro e w' ⟨⟨t, rfl, ht⟩, rfl⟩; obtain rfl : t = true := ht.2 HB.out; clear ht)
        go_ret
        exact ⟨BoolIs.no H.out, hbw⟩
    · have H : Hid (¬ Node s) := fun h => h2 h.2.1
      have e2 : ((s.kn : Int) == 8) = false := by simp; omega
      clear h1 h2
      go_enter Try.func103, Try.ntmps103
      go_wp2_with (go_at_call 83; refine (birthRight_any _ _).mono ?_; rintro e w' ⟨⟨t, rfl, ht⟩, rfl⟩; obtain rfl : t = true := ht.2 HB.out; clear ht)
      go_ret
      exact ⟨BoolIs.no H.out, hbw⟩
  · have HB : Hid (¬ BirthOk s.birth) := h1
    clear h1
    go_enter Try.func103, Try.ntmps103
    go_wp2_with (go_at_call 83; refine (birthRight_any _ _).mono ?_; rintro e w' ⟨⟨t, rfl, ht⟩, rfl⟩; obtain rfl : t = false := bool_no ht HB.out; clear ht)
    go_ret
    exact ⟨BoolIs.no fun h => HB.out h.1, hbw⟩

set_option maxRecDepth 20000 in
set_option maxHeartbeats 400000 in
theorem index_any (v : Value) (n lo hi : Nat) (f : Nat → Int) (x : Int) (w : World) (h1 : IntsAt w lo hi v n f) :
    Calls Try.prog 113 #[v, .int .i64 x] w fun e w' => (∃ r : Int, e = .returned (.int .i64 r) ∧ (0 ≤ r ↔ Has n f x)) ∧ w' = w := by
  obtain ⟨m1, a, c, rfl, mc, g1⟩ := h1
  unfold maxLen at m1
  have G1 : Hid (0 < n → ∃ b off, a = some ⟨b, off, none⟩ ∧ lo ≤ b ∧ b < hi ∧ ∀ i, i < n → w.cell? ⟨b, off + i, none⟩ = some (.int .i64 (f i))) := g1
  clear g1
  go_enter Try.func113, Try.ntmps113
  go_wp2
  go_loop [8] (fun i => ∃ k : Nat, k ≤ n ∧ i = .int .i64 k ∧ ¬ Has k f x) (fun i => n - (intOf i).toNat)
  case atStart => exact ⟨0, Nat.zero_le _, rfl, fun ⟨j, hj, _⟩ => absurd hj (Nat.not_lt_zero _)⟩
  case round =>
    obtain ⟨k, hk, rfl, hno⟩ := hrel
    have Hno : Hid (¬ Has k f x) := hno
    clear hno
    by_cases hlt : k < n
    · have hlt' : (k : Int) < (n : Int) := by omega
      obtain ⟨b, off, rfl, _, _, k1⟩ := G1.out (by omega)
      have hc1 := k1 k hlt
      clear k1 G1
      by_cases he : f k = x
      · have H : Hid (Has n f x) := ⟨k, hlt, he⟩
        have he' : (x == f k) = true := by simp [he]
        clear he
        go_wp2
        go_ret
        exact ⟨⟨_, rfl, ⟨fun _ => H.out, fun _ => Int.natCast_nonneg _⟩⟩, rfl⟩
      · have H : Hid (¬ f k = x) := he
        have he' : (x == f k) = false := by simp; exact fun e => he e.symm
        clear he
        go_wp2
        go_round
        case rel =>
          refine ⟨k + 1, by omega, by go_num, ?_⟩
          rintro ⟨j, hj, hjx⟩
          by_cases e : j = k
          · subst e; exact H.out hjx
          · exact Hno.out ⟨j, by omega, hjx⟩
        case measure => simp [intOf]; omega
    · obtain rfl : k = n := by omega
      go_wp2
      go_ret
      exact ⟨⟨-1, rfl, ⟨fun h => absurd h (by omega), fun h => absurd h Hno.out⟩⟩, rfl⟩

set_option maxRecDepth 20000 in
set_option maxHeartbeats 400000 in
theorem contains_any (v : Value) (n lo hi : Nat) (f : Nat → Int) (x : Int) (w : World) (h1 : IntsAt w lo hi v n f) :
    Calls Try.prog 108 #[v, .int .i64 x] w fun e w' => BoolIs (Has n f x) e ∧ w' = w := by
  have Hi : Hid (IntsAt w lo hi v n f) := h1
  obtain ⟨m1, a, c, rfl, mc, g1⟩ := h1
  clear g1
  go_enter Try.func108, Try.ntmps108
  go_wp2_with fail
  refine (index_any _ n lo hi f x _ Hi.out).mono ?_
  rintro e w' ⟨⟨r, rfl, hr⟩, rfl⟩
  have Hr : Hid (0 ≤ r ↔ Has n f x) := hr
  clear hr
  go_wp2
  go_ret
  exact ⟨⟨_, rfl, by simpa using Hr.out⟩, rfl⟩

def PtrOf (n : Nat) (f : Nat → SlotD) (x ps pb : Int) : Prop :=
  (0 ≤ x ∧ x < n ∧ ¬ Free (f x.toNat) ∧ ps = x ∧ pb = (f x.toNat).birth) ∨ (¬ (0 ≤ x ∧ x < n ∧ ¬ Free (f x.toNat)) ∧ ps = 0 ∧ pb = 0)

set_option maxRecDepth 20000 in
set_option maxHeartbeats 400000 in
theorem ptrOf_any (v : Value) (n lo hi : Nat) (f : Nat → SlotD) (x : Int) (w : World) (h1 : SlotsAt w lo hi v n f) :
    Calls Try.prog 107 #[v, .int .i64 x] w fun e w' => (∃ ps pb, e = .returned (.agg #[.int .i64 ps, .int .i64 pb]) ∧ PtrOf n f x ps pb) ∧ Below w.heap.size w w' := by
  have Hi : Hid (SlotsAt w lo hi v n f) := h1
  obtain ⟨m1, a, c, rfl, mc, g1⟩ := h1
  unfold maxLen at m1
  clear g1
  have Hbw : Hid (Below w.heap.size w (w.alloc (.cells #[.int .i64 0, .int .i64 0] 32))) := below_alloc _ _
  by_cases h1 : x < 0
  · have H : Hid (PtrOf n f x 0 0) := Or.inr ⟨fun h => by omega, rfl, rfl⟩
    go_enter Try.func107, Try.ntmps107
    go_wp2
    refine bodyPost_ret (v := .agg #[.int .i64 0, .int .i64 0]) (by simp [results, Try.results107, go_sem]) rfl ⟨⟨0, 0, rfl, H.out⟩, Hbw.out⟩
  · by_cases h2 : (n : Int) ≤ x
    · have H : Hid (PtrOf n f x 0 0) := Or.inr ⟨fun h => by omega, rfl, rfl⟩
      go_enter Try.func107, Try.ntmps107
      go_wp2
      refine bodyPost_ret (v := .agg #[.int .i64 0, .int .i64 0]) (by simp [results, Try.results107, go_sem]) rfl ⟨⟨0, 0, rfl, H.out⟩, Hbw.out⟩
    · obtain ⟨k, rfl⟩ := Int.eq_ofNat_of_zero_le (show 0 ≤ x by omega)
      have hk : k < n := by omega
      have hkl : (k : Int) < (n : Int) := by omega
      obtain ⟨b, off, ka, kc, rfl, hs⟩ := Hi.out.cells hk
      have Hs : Hid (SlotCells w b (off + k * 3) lo hi ka kc (f k)) := hs
      have hlt := lt_of_cell hs.c0
      obtain ⟨q0, q1, q2, _⟩ := hs
      by_cases hf : Free (f k)
      · have H : Hid (PtrOf n f k 0 0) := Or.inr ⟨fun h => h.2.2 (by rw [Int.toNat_natCast]; exact hf), rfl, rfl⟩
        have HF : Hid (Free (f k)) := hf
        clear hf
        go_enter Try.func107, Try.ntmps107
        go_wp2_with fail
        refine (isFree_any _ _ _ lo hi (f k) _ (Hs.out.slot.below Hbw.out)).mono ?_
        rintro e w1 ⟨⟨t, rfl, hx⟩, hb1⟩
        obtain rfl : t = true := hx.2 HF.out
        clear hx
        have HX : Hid (Box2 w1 w.heap.size (.int .i64 0) (.int .i64 0)) := (Box2.new w _ _ _).below hb1
        have hbn := below_next Hbw.out hb1
        clear hb1 q0 q1 q2
        obtain ⟨⟨y0, y1⟩, ⟨y2, y3⟩⟩ := HX.out
        go_wp2
        have HY := HX.out.put (.int .i64 0) (.int .i64 0)
        refine bodyPost_ret (v := .agg #[.int .i64 0, .int .i64 0]) (by simp [results, Try.results107, go_sem, HY.1.1, HY.2.1]) rfl ⟨⟨0, 0, rfl, H.out⟩, (hbn.setCell (Nat.le_refl _) _).setCell (Nat.le_refl _) _⟩
      · have H : Hid (PtrOf n f k k (f k).birth) := Or.inl ⟨by omega, hkl, by rw [Int.toNat_natCast]; exact hf, rfl, by rw [Int.toNat_natCast]⟩
        have HF : Hid (¬ Free (f k)) := hf
        clear hf
        go_enter Try.func107, Try.ntmps107
        go_wp2_with fail
        refine (isFree_any _ _ _ lo hi (f k) _ (Hs.out.slot.below Hbw.out)).mono ?_
        rintro e w1 ⟨⟨t, rfl, hx⟩, hb1⟩
        obtain rfl : t = false := bool_no hx HF.out
        clear hx
        have HX : Hid (Box2 w1 w.heap.size (.int .i64 0) (.int .i64 0)) := (Box2.new w _ _ _).below hb1
        have hbn := below_next Hbw.out hb1
        have q5 := (Hs.out.below hbn).c0
        clear hb1 q0 q1 q2
        obtain ⟨⟨y0, y1⟩, ⟨y2, y3⟩⟩ := HX.out
        go_wp2
        have HY := HX.out.put (.int .i64 k) (.int .i64 (f k).birth)
        refine bodyPost_ret (v := .agg #[.int .i64 k, .int .i64 (f k).birth]) (by simp [results, Try.results107, go_sem, HY.1.1, HY.2.1]) rfl ⟨⟨_, _, rfl, H.out⟩, (hbn.setCell (Nat.le_refl _) _).setCell (Nat.le_refl _) _⟩

end Go.Proofs.Ytikhipekmlhibae

namespace Go.Proofs.Ytikhipekmlhibae
open Go.RowKit
set_option linter.unusedVariables false

/-- The answer is a slot that holds what s tells, its Kids in new memory. -/
def NewSlot (s : SlotD) (w : World) (e : Ending) (w' : World) : Prop :=
  ∃ kv kb, e = .returned (.agg #[.int .i64 s.birth, kv, .string s.data]) ∧ PtrsOwn w' kb kv s.kn s.ks s.kb ∧ (0 < s.kn → w.heap.size ≤ kb ∧ kb < w'.heap.size) ∧ Below w.heap.size w w'

/-- The cells of n pointers. -/
def kc (f g : Nat → Int) : Nat → List Value
  | 0 => []
  | k + 1 => kc f g k ++ [.int .i64 (f k), .int .i64 (g k)]

theorem kc_len (f g : Nat → Int) (k : Nat) : (kc f g k).length = k * 2 := by
  induction k with
  | zero => rfl
  | succ k ih => simp [kc, ih]; omega

theorem kc_at (f g : Nat → Int) (k i r : Nat) (hi : i < k) (hr : r < 2) : (kc f g k)[i * 2 + r]? = [Value.int .i64 (f i), .int .i64 (g i)][r]? := by
  induction k with
  | zero => omega
  | succ k ih =>
    unfold kc
    by_cases e : i < k
    · rw [List.getElem?_append_left (by rw [kc_len]; omega)]; exact ih e
    · obtain rfl : i = k := by omega
      rw [List.getElem?_append_right (by rw [kc_len]; omega), kc_len]
      congr 1; omega

theorem kc_one (f g : Nat → Int) (k : Nat) : ∀ u ∈ kc f g k, u.oneCell' = true := by
  induction k with
  | zero => intro u hu; simp [kc] at hu
  | succ k ih =>
    intro u hu
    simp only [kc, List.mem_append, List.mem_cons, List.not_mem_nil, or_false] at hu
    rcases hu with hu | rfl | rfl
    · exact ih u hu
    · rfl
    · rfl

theorem kc_cells {w : World} {b off : Nat} {f g : Nat → Int} {n : Nat} (h : ∀ i, i < n → w.cell? ⟨b, off + i * 2, none⟩ = some (.int .i64 (f i)) ∧ w.cell? ⟨b, off + i * 2 + 1, none⟩ = some (.int .i64 (g i))) :
    ∀ j u, (kc f g n)[j]? = some u → w.cell? ((⟨b, off, none⟩ : Addr).add j) = some u := by
  intro j u hj
  have hlt : j < n * 2 := by
    have := (List.getElem?_eq_some_iff.1 hj).1
    rwa [kc_len] at this
  have hadd : (⟨b, off, none⟩ : Addr).add j = ⟨b, off + j, none⟩ := by unfold Addr.add; split <;> simp_all
  rw [hadd]
  obtain ⟨c0, c1⟩ := h (j / 2) (by omega)
  have e := kc_at f g n (j / 2) (j % 2) (by omega) (by omega)
  rw [show j / 2 * 2 + j % 2 = j by omega, hj] at e
  rcases (by omega : j % 2 = 0 ∨ j % 2 = 1) with hm | hm
  · rw [hm] at e
    simp at e
    subst e
    rw [show off + j = off + j / 2 * 2 by omega]
    exact c0
  · rw [hm] at e
    simp at e
    subst e
    rw [show off + j = off + j / 2 * 2 + 1 by omega]
    exact c1

theorem ptrs_of_owns {w : World} {base e n : Nat} {v : Value} {f g : Nat → Int} (hm : n ≤ maxLen) (h : w.ownsRow base e 2 v n (kc f g n)) : ∃ kb, PtrsOwn w kb v n f g ∧ (0 < n → base ≤ kb ∧ kb < w.heap.size) := by
  by_cases h0 : 0 < n
  · obtain ⟨gb, cap, rfl, hcp, hb, hlt, hcell⟩ := owns_cell h h0
    refine ⟨gb, ⟨hm, _, cap, rfl, hcp, fun _ => ⟨0, rfl, fun i hi => ⟨?_, ?_⟩⟩⟩, fun _ => ⟨hb, hlt⟩⟩
    · have := hcell (i * 2 + 0) _ (kc_at f g n i 0 hi (by omega))
      simpa using this
    · have := hcell (i * 2 + 1) _ (kc_at f g n i 1 hi (by omega))
      simpa using this
  · obtain ⟨a, cap, rfl, hcp⟩ := owns_form h
    exact ⟨0, ⟨hm, a, cap, rfl, hcp, fun h => absurd h h0⟩, fun h => absurd h h0⟩

theorem run_append_nil {P : Program} {w : World} (base : Nat) (t ty e : TypeId) (i : TypeInfo) (size c : Nat) (ht : P.underlying t = some (.slice e)) (hi : P.info? e = some i)
    (v : Value) (n : Nat) (xs : List Value) (hown : w.ownsRow base e size v n xs) :
    (Builtin.append_ #[t, t] ty #[v, .slice none 0 c]).run P w = .ok v w := by
  rcases hown.2 with ⟨rfl, rfl⟩ | ⟨g, cap, cur, rfl, _, _, hnc, _⟩
  · simp [Builtin.append_, run_underlying ht, sizeOf, typeInfo, hi, Builtin.lenOf, Builtin.firstCells]
  · simp [Builtin.append_, run_underlying ht, sizeOf, typeInfo, hi, Builtin.lenOf, Builtin.firstCells, hnc, storeCells]

theorem wpList_append_nil {P : Program} {w : World} {ops : Array Oper} {rest : List Oper} {o : Oper} {a : Act} {Q : Exit → Act → World → Prop} (hgd : o.guard = none) (s x : Operand) (t : TypeId)
    (ho : o.op = .call { callee := .builtin .append, args := #[s, x], argTypes := #[t, t] })
    (base : Nat) (e : TypeId) (i : TypeInfo) (size c m : Nat) (ht : P.underlying t = some (.slice e)) (hi : P.info? e = some i)
    (v : Value) (n : Nat) (xs : List Value) (hs : a.eval s = v) (hown : w.ownsRow base e size v n xs) (hm : m = 0) (hx : a.eval x = .slice none m c)
    (h : wpList P ops Q rest (a.put o.dst v) w) : wpList P ops Q (o :: rest) a w := by
  subst hm
  refine wpList_plain hgd fun K hK => ?_
  have hrun := run_append_nil (P := P) (w := w) base t o.type e i size c ht hi v n xs hown
  unfold Oper.wp
  simp [execOp, ho, resolve, invoke, builtin, hs, hx, hrun, Result.andThen]
  exact hK _ _ h

/-- Nothing is appended. -/
theorem run_append_zero {P : Program} {w : World} (base : Nat) (t ty e : TypeId) (i : TypeInfo) (size c : Nat) (ao : Option Addr) (ht : P.underlying t = some (.slice e)) (hi : P.info? e = some i)
    (v : Value) (n : Nat) (xs : List Value) (hown : w.ownsRow base e size v n xs) :
    (Builtin.append_ #[t, t] ty #[v, .slice ao 0 c]).run P w = .ok v w := by
  rcases hown.2 with ⟨rfl, rfl⟩ | ⟨g, cap, cur, rfl, _, _, hnc, _⟩
  · cases ao <;> simp [Builtin.append_, run_underlying ht, sizeOf, typeInfo, hi, Builtin.lenOf, Builtin.firstCells, loadCells, loadCellsFrom]
  · cases ao <;> simp [Builtin.append_, run_underlying ht, sizeOf, typeInfo, hi, Builtin.lenOf, Builtin.firstCells, hnc, storeCells, loadCells, loadCellsFrom]

theorem wpList_append_zero {P : Program} {w : World} {ops : Array Oper} {rest : List Oper} {o : Oper} {a : Act} {Q : Exit → Act → World → Prop} (hgd : o.guard = none) (s x : Operand) (t : TypeId)
    (ho : o.op = .call { callee := .builtin .append, args := #[s, x], argTypes := #[t, t] })
    (base : Nat) (e : TypeId) (i : TypeInfo) (size c m : Nat) (ao : Option Addr) (ht : P.underlying t = some (.slice e)) (hi : P.info? e = some i)
    (v : Value) (n : Nat) (xs : List Value) (hs : a.eval s = v) (hown : w.ownsRow base e size v n xs) (hm : m = 0) (hx : a.eval x = .slice ao m c)
    (h : wpList P ops Q rest (a.put o.dst v) w) : wpList P ops Q (o :: rest) a w := by
  subst hm
  refine wpList_plain hgd fun K hK => ?_
  have hrun := run_append_zero (P := P) (w := w) base t o.type e i size c ao ht hi v n xs hown
  unfold Oper.wp
  simp [execOp, ho, resolve, invoke, builtin, hs, hx, hrun, Result.andThen]
  exact hK _ _ h

theorem infoPtrT : (Try.prog.info? 32).map (fun i => (i.zero, i.size, i.bytes)) = some (some (.agg #[.int .i64 0, .int .i64 0]), 2, 16) := by kernel_rfl

set_option maxRecDepth 20000 in
set_option maxHeartbeats 400000 in
theorem clonePtrs_any (v : Value) (n lo hi : Nat) (f g : Nat → Int) (w : World) (h1 : PtrsAt w lo hi v n f g) (hn : n ≤ 1048576) :
    Calls Try.prog 117 #[v] w fun e w' => (∃ v' kb, e = .returned v' ∧ PtrsOwn w' kb v' n f g ∧ (0 < n → w.heap.size ≤ kb ∧ kb < w'.heap.size)) ∧ Below w.heap.size w w' := by
  obtain ⟨m1, a, c, rfl, mc, g1⟩ := h1
  have G1 : Hid (0 < n → ∃ b off, a = some ⟨b, off, none⟩ ∧ lo ≤ b ∧ b < hi ∧ ∀ i, i < n → w.cell? ⟨b, off + i * 2, none⟩ = some (.int .i64 (f i)) ∧ w.cell? ⟨b, off + i * 2 + 1, none⟩ = some (.int .i64 (g i))) := g1
  have Hm : Hid (n ≤ maxLen) := m1
  clear g1 m1
  have heq := fun w => Lib.run_eql_slice_nil (P := Try.prog) w 33 32 a n c 0 0 (by kernel_rfl)
  cases a with
  | none =>
    have hn0 : n = 0 := by
      by_cases h : 0 < n
      · obtain ⟨b, off, ha, _⟩ := G1.out h; simp at ha
      · omega
    subst hn0
    go_enter Try.func117, Try.ntmps117
    go_wp2
    go_ret
    exact ⟨⟨_, 0, rfl, ⟨Nat.zero_le _, none, 0, rfl, Nat.le_refl _, fun h => absurd h (Nat.lt_irrefl _)⟩, fun h => absurd h (Nat.lt_irrefl _)⟩, Below.refl _ _⟩
  | some ad =>
    obtain ⟨i0, hi, hzz⟩ := Option.map_eq_some_iff.1 infoPtrT
    simp only [Prod.mk.injEq] at hzz
    obtain ⟨hz, hs, hby⟩ := hzz
    have hsrc : ∀ (w' : World), Below w.heap.size w w' → ∀ j u, (kc f g n)[j]? = some u → w'.cell? (ad.add j) = some u := fun w' hb j u hj => by
      by_cases h0 : 0 < n
      · obtain ⟨b, off, ha, _, _, hc⟩ := G1.out h0
        simp only [Option.some.injEq] at ha
        subst ha
        have := kc_cells hc j u hj
        have hadd : (⟨b, off, none⟩ : Addr).add j = ⟨b, off + j, none⟩ := by unfold Addr.add; split <;> simp_all
        rw [hadd] at this ⊢
        exact (hb.cell (lt_of_cell this)).trans this
      · obtain rfl : n = 0 := by omega
        simp [kc] at hj
    have Hsrc : Hid (∀ (w' : World), Below w.heap.size w w' → ∀ j u, (kc f g n)[j]? = some u → w'.cell? (ad.add j) = some u) := hsrc
    have HI : Hid (Try.prog.info? 32 = some i0 ∧ i0.zero = some (.agg #[.int .i64 0, .int .i64 0]) ∧ i0.size = 2 ∧ i0.bytes = 16) := ⟨hi, hz, hs, hby⟩
    have hown0 : (w.alloc (.cells #[] 32)).ownsRow w.heap.size 32 2 (.slice (some ⟨w.heap.size, 0, none⟩) 0 0) 0 [] := World.ownsRow_made w #[] 0 (Nat.le_refl _) (Nat.zero_le _) (by simp)
    have Hown0 : Hid ((w.alloc (.cells #[] 32)).ownsRow w.heap.size 32 2 (.slice (some ⟨w.heap.size, 0, none⟩) 0 0) 0 []) := hown0
    clear hi hz hs hby hsrc hown0
    go_enter Try.func117, Try.ntmps117
    go_wp2_with (first
      | (at_builtin; refine wpList_append_own _ rfl _ _ 33 rfl w.heap.size 32 i0 (.agg #[.int .i64 0, .int .i64 0]) 2 16 (by kernel_rfl) HI.out.1 HI.out.2.1 HI.out.2.2.1 HI.out.2.2.2 rfl (by decide) _ _ _ rfl Hown0.out ad n c (kc f g n) rfl (kc_len f g n) ?c1 (kc_one f g n) ?c3 ?c4 ?c5 ?_))
    case c1 => exact Hsrc.out _ ((Below.refl _ _).alloc (Nat.le_refl _) _)
    case c3 => unfold maxLen; omega
    case c4 => omega
    case c5 => simp
    intro v' w1 hown' hgrow hnil
    have hb1 : Below w.heap.size w w1 := ((Below.refl _ _).alloc (Nat.le_refl _) _).grown hgrow (by simp) (fun q hq => by have := Hown0.out.lt q hq; omega)
    have hown2 : w1.ownsRow w.heap.size 32 2 v' n (kc f g n) := by simpa using hown'
    obtain ⟨kb, hp, hk⟩ := ptrs_of_owns Hm.out hown2
    have Hp : Hid (PtrsOwn w1 kb v' n f g ∧ (0 < n → w.heap.size ≤ kb ∧ kb < w1.heap.size)) := ⟨hp, hk⟩
    clear hp hk hown' hown2 hgrow hnil
    go_wp2
    go_ret
    exact ⟨⟨v', kb, rfl, Hp.out.1, Hp.out.2⟩, hb1⟩

set_option maxRecDepth 20000 in
set_option maxHeartbeats 400000 in
theorem cloneSlot_any (v0 v1 v2 : Value) (lo hi : Nat) (s : SlotD) (w : World) (h1 : SlotAt w lo hi v0 v1 v2 s) (hn : s.kn ≤ 1048576) :
    Calls Try.prog 116 #[.agg #[v0, v1, v2]] w (NewSlot s w) := by
  obtain ⟨rfl, p1, rfl, m1⟩ := h1
  have q1 := p1
  obtain ⟨_, a, c, rfl, _⟩ := p1
  go_enter Try.func116, Try.ntmps116
  go_wp2_with fail
  have ha1 := below_alloc w (.cells #[.int .i64 s.birth, .slice a s.kn c, .string s.data] 75)
  have ha2 := below_next ha1 (below_alloc _ (.cells #[.int .i64 0, .slice none 0 0, .string ⟨#[]⟩] 75))
  refine (clonePtrs_any _ s.kn lo hi _ _ _ (q1.below ha2) hn).mono ?_
  rintro e w1 ⟨⟨kv, kb, rfl, hp, hk⟩, hb1⟩
  have HB : Hid (Box3 w1 w.heap.size (.int .i64 s.birth) (.slice a s.kn c) (.string s.data)) := ((Box3.new w _ _ _ _).below (below_alloc _ _)).below hb1
  have HR : Hid (Box3 w1 (w.heap.size + 1) (.int .i64 0) (.slice none 0 0) (.string ⟨#[]⟩)) := by
    have := ((Box3.new (w.alloc (.cells #[.int .i64 s.birth, .slice a s.kn c, .string s.data] 75)) (.int .i64 0) (.slice none 0 0) (.string ⟨#[]⟩) 75).below hb1)
    rw [World.size_alloc] at this
    exact this
  have hb2 := below_next ha2 hb1
  rw [World.size_alloc, World.size_alloc] at hk
  have Hp : Hid (PtrsOwn w1 kb kv s.kn s.ks s.kb ∧ (0 < s.kn → w.heap.size + 1 + 1 ≤ kb ∧ kb < w1.heap.size)) := ⟨hp, hk⟩
  obtain ⟨_, ka, kc', rfl, _⟩ := hp
  clear ha1 ha2 hb1 hk
  obtain ⟨⟨x0, x1⟩, ⟨x2, x3⟩, ⟨x4, x5⟩⟩ := HB.out
  obtain ⟨⟨y0, y1⟩, ⟨y2, y3⟩, ⟨y4, y5⟩⟩ := HR.out
  go_wp2
  have HR2 := (HR.out.other (b' := w.heap.size) (o' := 1) (.slice ka s.kn kc') (by omega)).put (.int .i64 s.birth) (.slice ka s.kn kc') (.string s.data)
  refine bodyPost_ret (v := .agg #[.int .i64 s.birth, .slice ka s.kn kc', .string s.data]) (by simp [results, Try.results116, go_sem, HR2.1.1, HR2.2.1.1, HR2.2.2.1]) rfl ⟨_, kb, rfl, ?_, ?_, ?_⟩
  · have hk := Hp.out.2
    refine (((Hp.out.1.turned (Turned.put _ _ _ _) ?_).turned (Turned.put _ _ _ _) ?_).turned (Turned.put _ _ _ _) ?_).turned (Turned.put _ _ _ _) ?_
    all_goals exact fun h0 e => by have := hk h0; omega
  · intro h0
    have := Hp.out.2 h0
    simp only [World.size_setCell]
    omega
  · exact (((hb2.setCell (by show _ ≤ w.heap.size; omega) _).setCell (by show _ ≤ w.heap.size + 1; omega) _).setCell (by show _ ≤ w.heap.size + 1; omega) _).setCell (by show _ ≤ w.heap.size + 1; omega) _

set_option maxRecDepth 20000 in
set_option maxHeartbeats 400000 in
theorem l01Slot_any (v0 v1 v2 : Value) (lo hi : Nat) (s : SlotD) (w : World) (h1 : SlotAt w lo hi v0 v1 v2 s) (hn : s.kn ≤ 1048576) :
    Calls Try.prog 79 #[.agg #[v0, v1, v2]] w (NewSlot s w) := by
  obtain ⟨rfl, ⟨m1, a, c, rfl, mc, g1⟩, rfl, m2⟩ := h1
  have G1 : Hid (0 < s.kn → ∃ b off, a = some ⟨b, off, none⟩ ∧ lo ≤ b ∧ b < hi ∧ ∀ i, i < s.kn → w.cell? ⟨b, off + i * 2, none⟩ = some (.int .i64 (s.ks i)) ∧ w.cell? ⟨b, off + i * 2 + 1, none⟩ = some (.int .i64 (s.kb i))) := g1
  have Hm : Hid (s.kn ≤ maxLen) := m1
  clear g1 m1
  obtain ⟨i0, hi', hzz⟩ := Option.map_eq_some_iff.1 infoPtrT
  simp only [Prod.mk.injEq] at hzz
  obtain ⟨hz, hs, hby⟩ := hzz
  have HI : Hid (Try.prog.info? 32 = some i0 ∧ i0.zero = some (.agg #[.int .i64 0, .int .i64 0]) ∧ i0.size = 2 ∧ i0.bytes = 16) := ⟨hi', hz, hs, hby⟩
  clear hi' hz hs hby
  have ha1 := below_alloc w (.cells #[.int .i64 s.birth, .slice a s.kn c, .string s.data] 75)
  have ha2 := below_next ha1 (below_alloc _ (.cells #[.int .i64 0, .slice none 0 0, .string ⟨#[]⟩] 75))
  have ha3 := below_next ha2 (below_alloc _ (.cells #[] 32))
  have Hb3 : Hid (Below w.heap.size w (((w.alloc (.cells #[.int .i64 s.birth, .slice a s.kn c, .string s.data] 75)).alloc (.cells #[.int .i64 0, .slice none 0 0, .string ⟨#[]⟩] 75)).alloc (.cells #[] 32))) := ha3
  have hown0 := World.ownsRow_made (base := w.heap.size + 1 + 1) (e := 32) (size := 2) ((w.alloc (.cells #[.int .i64 s.birth, .slice a s.kn c, .string s.data] 75)).alloc (.cells #[.int .i64 0, .slice none 0 0, .string ⟨#[]⟩] 75)) #[] 0 (by simp) (Nat.zero_le _) (by simp)
  rw [World.size_alloc, World.size_alloc] at hown0
  have Hown0 : Hid ((((w.alloc (.cells #[.int .i64 s.birth, .slice a s.kn c, .string s.data] 75)).alloc (.cells #[.int .i64 0, .slice none 0 0, .string ⟨#[]⟩] 75)).alloc (.cells #[] 32)).ownsRow (w.heap.size + 1 + 1) 32 2 (.slice (some ⟨w.heap.size + 1 + 1, 0, none⟩) 0 0) 0 []) := hown0
  have HB3 : Hid (Box3 (((w.alloc (.cells #[.int .i64 s.birth, .slice a s.kn c, .string s.data] 75)).alloc (.cells #[.int .i64 0, .slice none 0 0, .string ⟨#[]⟩] 75)).alloc (.cells #[] 32)) w.heap.size (.int .i64 s.birth) (.slice a s.kn c) (.string s.data)) := ((Box3.new w _ _ _ _).below (below_alloc _ _)).below (below_alloc _ _)
  have HR3 : Hid (Box3 (((w.alloc (.cells #[.int .i64 s.birth, .slice a s.kn c, .string s.data] 75)).alloc (.cells #[.int .i64 0, .slice none 0 0, .string ⟨#[]⟩] 75)).alloc (.cells #[] 32)) (w.heap.size + 1) (.int .i64 0) (.slice none 0 0) (.string ⟨#[]⟩)) := by
    have := ((Box3.new (w.alloc (.cells #[.int .i64 s.birth, .slice a s.kn c, .string s.data] 75)) (.int .i64 0) (.slice none 0 0) (.string ⟨#[]⟩) 75).below (below_alloc _ (.cells #[] 32)))
    rw [World.size_alloc] at this
    exact this
  clear ha1 ha2 ha3 hown0
  go_enter Try.func79, Try.ntmps79
  cases a with
  | none =>
    have hn0 : s.kn = 0 := by
      by_cases h : 0 < s.kn
      · obtain ⟨b, off, ha, _⟩ := G1.out h; simp at ha
      · omega
    have Hn0 : Hid (s.kn = 0) := hn0
    clear hn0
    go_wp2_with (first
      | (at_builtin; refine wpList_append_nil rfl _ _ 33 rfl (w.heap.size + 1 + 1) 32 i0 2 c s.kn (by kernel_rfl) HI.out.1 (.slice (some ⟨w.heap.size + 1 + 1, 0, none⟩) 0 0) 0 [] rfl ?c0 Hn0.out rfl ?_))
    case c0 => exact Hown0.out
    refine bodyPost_ret (v := .agg #[.int .i64 s.birth, .slice (some ⟨w.heap.size + 1 + 1, 0, none⟩) 0 0, .string s.data]) (by simp [results, Try.results79, go_sem]) rfl ⟨_, 0, rfl, ?_, ?_, ?_⟩
    · exact ⟨Hm.out, _, 0, by rw [Hn0.out], by rw [Hn0.out]; exact Nat.le_refl _, fun h => absurd h (by rw [Hn0.out]; exact Nat.lt_irrefl _)⟩
    · exact fun h => absurd h (by rw [Hn0.out]; exact Nat.lt_irrefl _)
    · exact below_next (below_next (below_alloc _ _) (below_alloc _ _)) (below_alloc _ _)
  | some ad =>
    have Hsrc : Hid (∀ (w' : World), Below w.heap.size w w' → ∀ j u, (kc s.ks s.kb s.kn)[j]? = some u → w'.cell? (ad.add j) = some u) := fun w' hb j u hj => by
      by_cases h0 : 0 < s.kn
      · obtain ⟨b, off, ha, _, _, hc⟩ := G1.out h0
        simp only [Option.some.injEq] at ha
        subst ha
        have := kc_cells hc j u hj
        have hadd : (⟨b, off, none⟩ : Addr).add j = ⟨b, off + j, none⟩ := by unfold Addr.add; split <;> simp_all
        rw [hadd] at this ⊢
        exact (hb.cell (lt_of_cell this)).trans this
      · have h00 : s.kn = 0 := by omega
        rw [h00] at hj
        simp [kc] at hj
    go_wp2_with (first
      | (at_builtin; refine wpList_append_own _ rfl _ _ 33 rfl (w.heap.size + 1 + 1) 32 i0 (.agg #[.int .i64 0, .int .i64 0]) 2 16 (by kernel_rfl) HI.out.1 HI.out.2.1 HI.out.2.2.1 HI.out.2.2.2 rfl (by decide) _ 0 [] rfl ?c0 ad s.kn c (kc s.ks s.kb s.kn) rfl (kc_len _ _ _) ?c1 (kc_one _ _ _) ?c3 ?c4 ?c5 ?_))
    case c0 => exact Hown0.out
    case c1 => exact Hsrc.out _ Hb3.out
    case c3 => unfold maxLen; omega
    case c4 => omega
    case c5 => simp
    intro v' w1 hown' hgrow hnil
    have hown2 : w1.ownsRow (w.heap.size + 1 + 1) 32 2 v' s.kn (kc s.ks s.kb s.kn) := by simpa using hown'
    have hb1 : Below w.heap.size w w1 := Hb3.out.grown hgrow (by simp; omega) (fun q hq => by have := Hown0.out.lt q hq; omega)
    have hbl : ∀ b, b < w.heap.size + 1 + 1 → ∀ o x, Cell (((w.alloc (.cells #[.int .i64 s.birth, .slice (some ad) s.kn c, .string s.data] 75)).alloc (.cells #[.int .i64 0, .slice none 0 0, .string ⟨#[]⟩] 75)).alloc (.cells #[] 32)) b o x → Cell w1 b o x := fun b hb o x hx => by
      have e := grown_block hgrow Hown0.out hb hx.lt
      exact ⟨(World.cell?_of_block (a := ⟨b, o, none⟩) e).trans hx.1, (World.frozen?_of_block (a := ⟨b, o, none⟩) e).trans hx.2⟩
    have HB4 : Hid (Box3 w1 w.heap.size (.int .i64 s.birth) (.slice (some ad) s.kn c) (.string s.data)) := ⟨hbl _ (by omega) _ _ HB3.out.1, hbl _ (by omega) _ _ HB3.out.2.1, hbl _ (by omega) _ _ HB3.out.2.2⟩
    have HR4 : Hid (Box3 w1 (w.heap.size + 1) (.int .i64 0) (.slice none 0 0) (.string ⟨#[]⟩)) := ⟨hbl _ (by omega) _ _ HR3.out.1, hbl _ (by omega) _ _ HR3.out.2.1, hbl _ (by omega) _ _ HR3.out.2.2⟩
    obtain ⟨kb, hp, hk⟩ := ptrs_of_owns Hm.out hown2
    have Hp : Hid (PtrsOwn w1 kb v' s.kn s.ks s.kb ∧ (0 < s.kn → w.heap.size + 1 + 1 ≤ kb ∧ kb < w1.heap.size)) := ⟨hp, hk⟩
    obtain ⟨_, ka, kc', rfl, _⟩ := hp
    clear hk hown' hown2 hgrow hnil hbl HB3 HR3 Hown0 Hb3
    obtain ⟨⟨x0, x1⟩, ⟨x2, x3⟩, ⟨x4, x5⟩⟩ := HB4.out
    obtain ⟨⟨y0, y1⟩, ⟨y2, y3⟩, ⟨y4, y5⟩⟩ := HR4.out
    go_wp2
    have HR2 := (HR4.out.other (b' := w.heap.size) (o' := 1) (.slice ka s.kn kc') (by omega)).put (.int .i64 s.birth) (.slice ka s.kn kc') (.string s.data)
    refine bodyPost_ret (v := .agg #[.int .i64 s.birth, .slice ka s.kn kc', .string s.data]) (by simp [results, Try.results79, go_sem, HR2.1.1, HR2.2.1.1, HR2.2.2.1]) rfl ⟨_, kb, rfl, ?_, ?_, ?_⟩
    · have hk := Hp.out.2
      refine (((Hp.out.1.turned (Turned.put _ _ _ _) ?_).turned (Turned.put _ _ _ _) ?_).turned (Turned.put _ _ _ _) ?_).turned (Turned.put _ _ _ _) ?_
      all_goals exact fun h0 e => by have := hk h0; omega
    · intro h0
      have := Hp.out.2 h0
      simp only [World.size_setCell]
      omega
    · exact (((hb1.setCell (by show _ ≤ w.heap.size; omega) _).setCell (by show _ ≤ w.heap.size + 1; omega) _).setCell (by show _ ≤ w.heap.size + 1; omega) _).setCell (by show _ ≤ w.heap.size + 1; omega) _

end Go.Proofs.Ytikhipekmlhibae

namespace Go.Proofs.Ytikhipekmlhibae
open Go.RowKit
set_option linter.unusedVariables false

/-- The blocks of a row of slots. -/
def SlotsB (bs : Nat) (kb : Nat → Nat) (n : Nat) (f : Nat → SlotD) (k : Nat) : Prop := (0 < n ∧ k = bs) ∨ ∃ i, i < n ∧ 0 < (f i).kn ∧ k = kb i

theorem SlotsOwn.lt {w : World} {bs : Nat} {kb : Nat → Nat} {kv : Nat → Value} {v : Value} {n : Nat} {f : Nat → SlotD} (h : SlotsOwn w bs kb kv v n f) {k : Nat} (hk : SlotsB bs kb n f k) : k < w.heap.size := by
  obtain ⟨_, a, cap, _, _, hc⟩ := h
  rcases hk with ⟨h0, rfl⟩ | ⟨i, hi, h0, rfl⟩
  · obtain ⟨off, _, h3⟩ := hc h0
    exact (h3 0 h0).birth.lt
  · obtain ⟨off, _, h3⟩ := hc (by omega)
    obtain ⟨_, _, _, _, _, h4⟩ := (h3 i hi).kids
    obtain ⟨o, _, h5⟩ := h4 h0
    exact (h5 0 h0).1.lt

/-- A pool in blocks from lo to hi, no two of its lists in one block, all of them free to be written. -/
def PoolOwn (w : World) (lo hi : Nat) (v0 v1 : Value) (p : PoolD) : Prop :=
  ∃ (bs hb : Nat) (kb : Nat → Nat) (kv : Nat → Value), SlotsOwn w bs kb kv v0 p.n p.s ∧ KidsApart kb p.n p.s ∧ IntsOwn w hb v1 p.hn p.h ∧ (0 < p.hn → ¬ SlotsB bs kb p.n p.s hb) ∧
    ∀ k, SlotsB bs kb p.n p.s k ∨ (0 < p.hn ∧ k = hb) → lo ≤ k ∧ k < hi

theorem PoolOwn.at {w : World} {lo hi : Nat} {v0 v1 : Value} {p : PoolD} (h : PoolOwn w lo hi v0 v1 p) : PoolAt w lo hi v0 v1 p := by
  obtain ⟨bs, hb, kb, kv, h1, h2, h3, h4, h5⟩ := h
  exact ⟨h1.at fun h0 => ⟨h5 _ (Or.inl (Or.inl ⟨h0, rfl⟩)), fun i hi h => h5 _ (Or.inl (Or.inr ⟨i, hi, h, rfl⟩))⟩, h3.at fun h0 => h5 _ (Or.inr ⟨h0, rfl⟩)⟩

theorem PoolOwn.below {w w' : World} {lo hi : Nat} {v0 v1 : Value} {p : PoolD} (h : PoolOwn w lo hi v0 v1 p) (t : Below w.heap.size w w') : PoolOwn w' lo hi v0 v1 p := by
  obtain ⟨bs, hb, kb, kv, h1, h2, h3, h4, h5⟩ := h
  exact ⟨bs, hb, kb, kv, h1.below t, h2, h3.below t, h4, h5⟩

theorem PoolOwn.turned {S : Nat → Prop} {w w' : World} {lo hi : Nat} {v0 v1 : Value} {p : PoolD} (h : PoolOwn w lo hi v0 v1 p) (t : Turned S w w') (hs : ∀ k, S k → k < lo ∨ hi ≤ k) : PoolOwn w' lo hi v0 v1 p := by
  obtain ⟨bs, hb, kb, kv, h1, h2, h3, h4, h5⟩ := h
  have out : ∀ k, SlotsB bs kb p.n p.s k ∨ (0 < p.hn ∧ k = hb) → ¬ S k := fun k hk hx => by
    have a := h5 k hk
    have b := hs k hx
    omega
  exact ⟨bs, hb, kb, kv, h1.turned t (fun h0 => out _ (Or.inl (Or.inl ⟨h0, rfl⟩))) (fun i hi h => out _ (Or.inl (Or.inr ⟨i, hi, h, rfl⟩))), h2, h3.turned t (fun h0 => out _ (Or.inr ⟨h0, rfl⟩)), h4, h5⟩

theorem PoolOwn.wide {w : World} {lo hi lo' hi' : Nat} {v0 v1 : Value} {p : PoolD} (h : PoolOwn w lo hi v0 v1 p) (h1 : lo' ≤ lo) (h2 : hi ≤ hi') : PoolOwn w lo' hi' v0 v1 p := by
  obtain ⟨bs, hb, kb, kv, g1, g2, g3, g4, g5⟩ := h
  exact ⟨bs, hb, kb, kv, g1, g2, g3, g4, fun k hk => by have := g5 k hk; omega⟩

theorem PoolOwn.form {w : World} {lo hi : Nat} {v0 v1 : Value} {p : PoolD} (h : PoolOwn w lo hi v0 v1 p) : ∃ a c a' c', v0 = .slice a p.n c ∧ v1 = .slice a' p.hn c' := by
  obtain ⟨bs, hb, kb, kv, ⟨_, a, c, h1, _⟩, h2, ⟨_, a', c', h3, _, _⟩, h4, h5⟩ := h
  exact ⟨a, c, a', c', h1, h3⟩

theorem PoolAt.form {w : World} {lo hi : Nat} {v0 v1 : Value} {p : PoolD} (h : PoolAt w lo hi v0 v1 p) : ∃ a c a' c', v0 = .slice a p.n c ∧ v1 = .slice a' p.hn c' := by
  obtain ⟨⟨_, a, c, h1, _⟩, ⟨_, a', c', h3, _⟩⟩ := h
  exact ⟨a, c, a', c', h1, h3⟩

/-- The answer is a new pool that holds what p tells; what was there is as it was. -/
def NewPool (p : PoolD) (w : World) (e : Ending) (w' : World) : Prop := ∃ v0 v1, e = .returned (.agg #[v0, v1]) ∧ PoolOwn w' w.heap.size w'.heap.size v0 v1 p ∧ Below w.heap.size w w'

/-- A free slot; a pool of n free slots. -/
def zeroS : SlotD := { birth := 0, kn := 0, ks := fun _ => 0, kb := fun _ => 0, data := ⟨#[]⟩ }
def newP (n : Nat) : PoolD := { n := n, s := fun _ => zeroS, hn := 0, h := fun _ => 0 }

theorem slotsB_zero {bs : Nat} {kb : Nat → Nat} {n k : Nat} : SlotsB bs kb n (fun _ => zeroS) k ↔ 0 < n ∧ k = bs := by
  constructor
  · rintro (h | ⟨i, _, h0, _⟩)
    · exact h
    · exact absurd h0 (by simp [zeroS])
  · exact Or.inl

/-- A new pool out of a row of free slots. -/
theorem newP_own {w : World} {lo hi g n : Nat} {v0 : Value} (hn : n ≤ maxLen) (hv : ∃ a cap, v0 = .slice a n cap ∧ n ≤ cap ∧ (0 < n → a = some ⟨g, 0, none⟩ ∧ lo ≤ g ∧ g < hi))
    (hc : ∀ i, i < n → Cell w g (0 + i * 3) (.int .i64 0) ∧ Cell w g (0 + i * 3 + 1) (.slice none 0 0) ∧ Cell w g (0 + i * 3 + 2) (.string ⟨#[]⟩)) :
    PoolOwn w lo hi v0 (.slice none 0 0) (newP n) := by
  obtain ⟨a, cap, rfl, hcap, ha⟩ := hv
  refine ⟨g, 0, fun _ => 0, fun _ => .slice none 0 0, ⟨hn, a, cap, rfl, hcap, fun h0 => ⟨0, (ha h0).1, fun i hi => ?_⟩⟩, fun i j _ _ _ h0 _ => absurd h0 (by simp [newP, zeroS]), ⟨Nat.zero_le _, none, 0, rfl, Nat.le_refl _, fun h => absurd h (Nat.lt_irrefl _), fun h => absurd h (Nat.lt_irrefl _)⟩, fun h => absurd h (Nat.lt_irrefl _), ?_⟩
  · exact ⟨(hc i hi).1, (hc i hi).2.1, (hc i hi).2.2, ⟨Nat.zero_le _, none, 0, rfl, Nat.le_refl _, fun h => absurd h (Nat.lt_irrefl _)⟩, Nat.zero_le _, fun h => absurd h (Nat.lt_irrefl _)⟩
  · rintro k (h | h)
    · obtain ⟨h0, rfl⟩ := slotsB_zero.1 h
      exact (ha h0).2
    · exact absurd h.1 (Nat.lt_irrefl _)

def slotN (s : SlotD) : Nat := s.kn + s.data.size
def slotsN (f : Nat → SlotD) : Nat → Nat
  | 0 => 0
  | k + 1 => slotsN f k + slotN (f k)
def poolN (p : PoolD) : Nat := p.n + slotsN p.s p.n + p.hn

theorem slotN_le (f : Nat → SlotD) {j n : Nat} (h : j < n) : slotN (f j) ≤ slotsN f n := by
  induction n with
  | zero => omega
  | succ n ih =>
    show _ ≤ slotsN f n + slotN (f n)
    by_cases e : j = n
    · subst e; omega
    · have := ih (by omega); omega

theorem infoInt64 : (Try.prog.info? 2).map (fun i => (i.zero, i.size, i.bytes)) = some (some (.int .i64 0), 1, 8) := by kernel_rfl
theorem infoPtr : (Try.prog.info? 32).map (fun i => (i.zero, i.size, i.bytes)) = some (some (.agg #[.int .i64 0, .int .i64 0]), 2, 16) := by kernel_rfl
theorem infoSlotT : (Try.prog.info? 75).map (fun i => (i.zero, i.size, i.bytes)) = some (some (.agg #[.int .i64 0, .slice none 0 0, .string ⟨#[]⟩]), 3, 48) := by kernel_rfl

/-- n times the cells zs. -/
def zeros (zs : Array Value) (n : Nat) : Array Value := madeCells zs (n * zs.size)

theorem zeros_at (zs : Array Value) (n i r : Nat) (hi : i < n) (hr : r < zs.size) : (zeros zs n)[i * zs.size + r]? = some (zs[r]!) := by
  unfold zeros madeCells
  have h1 : i * zs.size + r < n * zs.size := by
    have : (i + 1) * zs.size ≤ n * zs.size := Nat.mul_le_mul_right _ hi
    rw [Nat.add_mul] at this
    omega
  have h2 : (i * zs.size + r) % zs.size = r := by rw [Nat.mul_comm, Nat.mul_add_mod]; exact Nat.mod_eq_of_lt hr
  simp only [Array.getElem?_map, Array.getElem?_range, h1, if_true, Option.map_some, h2]

theorem make_zeros (t e : TypeId) (z : Value) (size bytes : Nat) (ht : Try.prog.underlying t = some (.slice e)) (hinfo : (Try.prog.info? e).map (fun i => (i.zero, i.size, i.bytes)) = some (some z, size, bytes)) (hs : z.cells.size = size)
    (n : Nat) (hn : n ≤ 1048576) (hb : bytes ≤ 1000) (w : World) : (Instr.makeSlice t (.int .i64 (n : Int)) (.int .i64 (n : Int))).run Try.prog w = .ok (.slice (some ⟨w.heap.size, 0, none⟩) n n) (w.alloc (.cells (zeros z.cells n) e)) := by
  obtain ⟨i, hi, hzz⟩ := Option.map_eq_some_iff.1 hinfo
  simp only [Prod.mk.injEq] at hzz
  obtain ⟨hz, hs', hb'⟩ := hzz
  have hbn : (bytes : Int) * (n : Int) ≤ 281474976710656 := by
    have h : bytes * n ≤ 1000 * 1048576 := Nat.mul_le_mul hb hn
    have h2 : ((bytes * n : Nat) : Int) ≤ ((1000 * 1048576 : Nat) : Int) := Int.ofNat_le.2 h
    rw [Int.natCast_mul] at h2
    omega
  have hr := run_make (P := Try.prog) w t e i z ht hi hz .i64 .i64 n n (by omega) (Int.le_refl _) (by rw [hb']; exact hbn) (by omega)
  rw [hs', ← hs] at hr
  simp only [Int.toNat_natCast] at hr
  exact hr

theorem new_cell (w : World) (zs : Array Value) (n i r : Nat) (t : TypeId) (hi : i < n) (hr : r < zs.size) : Cell (w.alloc (.cells (zeros zs n) t)) w.heap.size (i * zs.size + r) (zs[r]!) :=
  ⟨by rw [World.cell?_alloc_at (hn := rfl)]; exact zeros_at zs n i r hi hr, by rw [World.frozen?_alloc_at (hn := rfl)]⟩

end Go.Proofs.Ytikhipekmlhibae
