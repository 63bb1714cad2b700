/- What the laws' own functions of copying leave (toPtr, toPtrS, toSlot, toSlotS, toInt64S, toPool): new memory that holds the same. -/
import Derived.Test.YtikhipekmlhibaeG22
import Derived.Deep.OwnRows
import Derived.Test.YtikhipekmlhibaeG3
import Derived.Test.YtikhipekmlhibaeG14
namespace Go.Proofs.Ytikhipekmlhibae
open Go.RowKit
set_option linter.unusedVariables false

set_option maxRecDepth 20000 in
set_option maxHeartbeats 400000 in
theorem toInt64S_any (v : Value) (n lo hi : Nat) (f : Nat → Int) (w : World) (h1 : IntsAt w lo hi v n f) (hn : n ≤ 1048576) :
    Calls Try.prog 49 #[v] w fun e w' => (∃ v', e = .returned v' ∧ IntsOwn w' w.heap.size v' n f) ∧ Below w.heap.size w w' ∧ w.heap.size < w'.heap.size := by
  obtain ⟨m1, a, c, rfl, mc, g1⟩ := h1
  have hm1 := m1
  unfold maxLen at m1
  have G1 : Hid (0 < n → ∃ b off, a = some ⟨b, off, none⟩ ∧ lo ≤ b ∧ b < hi ∧ ∀ i, i < n → w.cell? ⟨b, off + i, none⟩ = some (.int .i64 (f i))) := g1
  clear g1
  have hmk := make_zeros 23 2 (.int .i64 0) 1 8 (by kernel_rfl) infoInt64 rfl n hn (by omega)
  go_enter Try.func49, Try.ntmps49
  go_wp2
  go_loopw [4] (fun i wr => ∃ k : Nat, k ≤ n ∧ i = .int .i64 k ∧ (∀ j, j < n → Cell wr w.heap.size (0 + j) (.int .i64 (if j < k then f j else 0))) ∧ Below w.heap.size w wr ∧ w.heap.size < wr.heap.size) (fun i _ => n - (intOf i).toNat)
  case atStart => exact ⟨0, Nat.zero_le _, rfl, fun j hj => by have := new_cell w #[.int .i64 0] n j 0 2 hj (by simp); simpa using this, below_alloc _ _, by simp⟩
  case round =>
    obtain ⟨k, hk, rfl, hall, hb, hsz⟩ := hrel
    have Hall : Hid (∀ j, j < n → Cell wr w.heap.size (0 + j) (.int .i64 (if j < k then f j else 0))) := hall
    clear hall
    by_cases hlt : k < n
    · have hlt' : (k : Int) < (n : Int) := by omega
      obtain ⟨b, off, rfl, _, _, k1⟩ := G1.out (by omega)
      have hc1 := (hb.cell (lt_of_cell (k1 k hlt))).trans (k1 k hlt)
      obtain ⟨hc2, hf2⟩ := Hall.out k hlt
      rw [if_neg (Nat.lt_irrefl k), Nat.zero_add] at hc2
      rw [Nat.zero_add] at hf2
      go_wp2
      go_roundw
      case rel =>
        refine ⟨k + 1, by omega, by go_num, fun j hj => ?_, hb.setCell (Nat.le_refl _) _, by simpa using hsz⟩
        by_cases e : j = k
        · subst e
          rw [if_pos (by omega)]
          simpa using (Hall.out j hj).set (.int .i64 (f j))
        · have := (Hall.out j hj).other (b' := w.heap.size) (o' := k) (.int .i64 (f k)) (Or.inr (by omega))
          by_cases e2 : j < k
          · rw [if_pos (by omega)]; rw [if_pos e2] at this; exact this
          · rw [if_neg (by omega)]; rw [if_neg e2] at this; exact this
      case measure => simp [intOf]; omega
    · obtain rfl : k = n := by omega
      go_wp2
      go_ret
      refine ⟨⟨_, rfl, hm1, _, k, rfl, Nat.le_refl _, fun _ => ⟨0, rfl, fun i hi => ?_⟩, fun h => absurd h (Nat.lt_irrefl _)⟩, hb, hsz⟩
      have := Hall.out i hi
      rw [if_pos hi] at this
      exact this

set_option maxRecDepth 20000 in
set_option maxHeartbeats 400000 in
theorem toPtr_any (a b : Int) (w : World) :
    Calls Try.prog 12 #[.agg #[.int .i64 a, .int .i64 b]] w fun e w' => e = .returned (.agg #[.int .i64 a, .int .i64 b]) ∧ Below w.heap.size w w' := by
  go_enter Try.func12, Try.ntmps12
  go_wp2
  refine bodyPost_ret (v := .agg #[.int .i64 a, .int .i64 b]) (by simp [results, Try.results12, go_sem]) rfl ⟨rfl, ?_⟩
  exact (((Below.refl _ _).alloc (Nat.le_refl _) _).alloc (by simp) _).alloc (by simp; omega) _

set_option maxRecDepth 20000 in
set_option maxHeartbeats 400000 in
theorem toPtrS_any (v : Value) (n lo hi : Nat) (f g : Nat → Int) (w : World) (h1 : PtrsAt w lo hi v n f g) (hn : n ≤ 1048576) :
    Calls Try.prog 28 #[v] w fun e w' => (∃ v', e = .returned v' ∧ PtrsOwn w' w.heap.size v' n f g) ∧ Below w.heap.size w w' ∧ w.heap.size < w'.heap.size := by
  obtain ⟨m1, a, c, rfl, mc, g1⟩ := h1
  have hm1 := m1
  unfold maxLen at m1
  have G1 : Hid (0 < n → ∃ b off, a = some ⟨b, off, none⟩ ∧ lo ≤ b ∧ b < hi ∧ ∀ i, i < n → w.cell? ⟨b, off + i * 2, none⟩ = some (.int .i64 (f i)) ∧ w.cell? ⟨b, off + i * 2 + 1, none⟩ = some (.int .i64 (g i))) := g1
  clear g1
  have hmk := make_zeros 33 32 (.agg #[.int .i64 0, .int .i64 0]) 2 16 (by kernel_rfl) infoPtr rfl n hn (by omega)
  go_enter Try.func28, Try.ntmps28
  go_wp2
  go_loopw [4] (fun i wr => ∃ k : Nat, k ≤ n ∧ i = .int .i64 k ∧ (∀ j, j < n → Cell wr w.heap.size (0 + j * 2) (.int .i64 (if j < k then f j else 0)) ∧ Cell wr w.heap.size (0 + j * 2 + 1) (.int .i64 (if j < k then g j else 0))) ∧ Below w.heap.size w wr ∧ w.heap.size < wr.heap.size) (fun i _ => n - (intOf i).toNat)
  case atStart =>
    refine ⟨0, Nat.zero_le _, rfl, fun j hj => ⟨?_, ?_⟩, below_alloc _ _, by simp⟩
    · have := new_cell w #[.int .i64 0, .int .i64 0] n j 0 32 hj (by simp); simpa using this
    · have := new_cell w #[.int .i64 0, .int .i64 0] n j 1 32 hj (by simp); simpa using this
  case round =>
    obtain ⟨k, hk, rfl, hall, hb, hsz⟩ := hrel
    have Hall : Hid (∀ j, j < n → Cell wr w.heap.size (0 + j * 2) (.int .i64 (if j < k then f j else 0)) ∧ Cell wr w.heap.size (0 + j * 2 + 1) (.int .i64 (if j < k then g j else 0))) := hall
    clear hall
    by_cases hlt : k < n
    · have hlt' : (k : Int) < (n : Int) := by omega
      obtain ⟨b, off, rfl, _, _, k1⟩ := G1.out (by omega)
      have hc1 := (hb.cell (lt_of_cell (k1 k hlt).1)).trans (k1 k hlt).1
      have hd1 := (hb.cell (lt_of_cell (k1 k hlt).2)).trans (k1 k hlt).2
      clear k1 G1
      go_wp2_with fail
      refine (toPtr_any _ _ _).mono ?_
      rintro e w1 ⟨rfl, hb1⟩
      have hb2 := below_next hb hb1
      have hsz2 : w.heap.size < w1.heap.size := Nat.lt_of_lt_of_le hsz hb1.size
      have Hall2 : Hid (∀ j, j < n → Cell w1 w.heap.size (0 + j * 2) (.int .i64 (if j < k then f j else 0)) ∧ Cell w1 w.heap.size (0 + j * 2 + 1) (.int .i64 (if j < k then g j else 0))) := fun j hj => ⟨(Hall.out j hj).1.below hb1, (Hall.out j hj).2.below hb1⟩
      clear Hall hb1 hc1 hd1
      obtain ⟨⟨hc2, hf2⟩, ⟨hc3, hf3⟩⟩ := Hall2.out k hlt
      rw [if_neg (Nat.lt_irrefl k), Nat.zero_add] at hc2 hc3
      rw [Nat.zero_add] at hf2 hf3
      go_wp2
      go_roundw
      case rel =>
        refine ⟨k + 1, by omega, by go_num, fun j hj => ?_, (hb2.setCell (Nat.le_refl _) _).setCell (Nat.le_refl _) _, by simpa using hsz2⟩
        by_cases e : j = k
        · subst e
          rw [if_pos (by omega), if_pos (by omega)]
          have t1 := ((Hall2.out j hj).1.set (.int .i64 (f j))).other (b' := w.heap.size) (o' := 0 + j * 2 + 1) (.int .i64 (g j)) (Or.inr (by omega))
          have t2 := ((Hall2.out j hj).2.other (b' := w.heap.size) (o' := 0 + j * 2) (.int .i64 (f j)) (Or.inr (by omega))).set (.int .i64 (g j))
          simp only [Nat.zero_add] at t1 t2 ⊢
          exact ⟨t1, t2⟩
        · have t1 := ((Hall2.out j hj).1.other (b' := w.heap.size) (o' := k * 2) (.int .i64 (f k)) (Or.inr (by omega))).other (b' := w.heap.size) (o' := k * 2 + 1) (.int .i64 (g k)) (Or.inr (by omega))
          have t2 := ((Hall2.out j hj).2.other (b' := w.heap.size) (o' := k * 2) (.int .i64 (f k)) (Or.inr (by omega))).other (b' := w.heap.size) (o' := k * 2 + 1) (.int .i64 (g k)) (Or.inr (by omega))
          by_cases e2 : j < k
          · rw [if_pos (by omega), if_pos (by omega)]; rw [if_pos e2] at t1 t2; exact ⟨t1, t2⟩
          · rw [if_neg (by omega), if_neg (by omega)]; rw [if_neg e2] at t1 t2; exact ⟨t1, t2⟩
      case measure => simp [intOf]; omega
    · obtain rfl : k = n := by omega
      go_wp2
      go_ret
      refine ⟨⟨_, rfl, hm1, _, k, rfl, Nat.le_refl _, fun _ => ⟨0, rfl, fun i hi => ?_⟩⟩, hb, hsz⟩
      have := Hall.out i hi
      rw [if_pos hi, if_pos hi] at this
      exact this

set_option maxRecDepth 20000 in
set_option maxHeartbeats 400000 in
theorem toSlot_any (v0 v1 v2 : Value) (lo hi : Nat) (s : SlotD) (w : World) (h1 : SlotAt w lo hi v0 v1 v2 s) (hn : s.kn ≤ 1048576) :
    Calls Try.prog 80 #[.agg #[v0, v1, v2]] w fun e w' => (∃ kv kb, e = .returned (.agg #[.int .i64 s.birth, kv, .string s.data]) ∧ PtrsOwn w' kb kv s.kn s.ks s.kb ∧ w.heap.size ≤ kb ∧ kb < w'.heap.size) ∧ Below w.heap.size w w' := by
  obtain ⟨rfl, p1, rfl, m1⟩ := h1
  have q1 := p1
  obtain ⟨_, a, c, rfl, _⟩ := p1
  go_enter Try.func80, Try.ntmps80
  go_wp2_with fail
  have ha1 := below_alloc w (.cells #[.int .i64 s.birth, .slice a s.kn c, .string s.data] 106)
  have ha2 := below_next ha1 (below_alloc _ (.cells #[.int .i64 0, .slice none 0 0, .string ⟨#[]⟩] 75))
  have ha3 := below_next ha2 (below_alloc _ (.cells #[.int .i64 s.birth, .slice none 0 0, .string ⟨#[]⟩] 75))
  refine (toPtrS_any _ s.kn lo hi _ _ _ (q1.below ha3) hn).mono ?_
  rintro e w1 ⟨⟨kv, rfl, hown⟩, hb1, hsz⟩
  have HB : Hid (Box3 w1 w.heap.size (.int .i64 s.birth) (.slice a s.kn c) (.string s.data)) := (((Box3.new w _ _ _ _).below (below_alloc _ _)).below (below_alloc _ _)).below hb1
  have HR : Hid (Box3 w1 (w.heap.size + 1) (.int .i64 0) (.slice none 0 0) (.string ⟨#[]⟩)) := by
    have := (((Box3.new (w.alloc (.cells #[.int .i64 s.birth, .slice a s.kn c, .string s.data] 106)) (.int .i64 0) (.slice none 0 0) (.string ⟨#[]⟩) 75).below (below_alloc _ _)).below hb1)
    rw [World.size_alloc] at this
    exact this
  have HO : Hid (Box3 w1 (w.heap.size + 1 + 1) (.int .i64 s.birth) (.slice none 0 0) (.string ⟨#[]⟩)) := by
    have := ((Box3.new ((w.alloc (.cells #[.int .i64 s.birth, .slice a s.kn c, .string s.data] 106)).alloc (.cells #[.int .i64 0, .slice none 0 0, .string ⟨#[]⟩] 75)) (.int .i64 s.birth) (.slice none 0 0) (.string ⟨#[]⟩) 75).below hb1)
    rw [World.size_alloc, World.size_alloc] at this
    exact this
  have hb2 := below_next ha3 hb1
  have Hown : Hid (PtrsOwn w1 (w.heap.size + 1 + 1 + 1) kv s.kn s.ks s.kb) := by
    have := hown
    rw [World.size_alloc, World.size_alloc, World.size_alloc] at this
    exact this
  have hsz' : w.heap.size + 1 + 1 + 1 < w1.heap.size := by
    rw [World.size_alloc, World.size_alloc, World.size_alloc] at hsz
    exact hsz
  clear hsz
  obtain ⟨_, ka, kc, rfl, _⟩ := hown
  clear ha1 ha2 ha3 hb1
  obtain ⟨⟨x0, x1⟩, ⟨x2, x3⟩, ⟨x4, x5⟩⟩ := HB.out
  obtain ⟨⟨y0, y1⟩, ⟨y2, y3⟩, ⟨y4, y5⟩⟩ := HR.out
  obtain ⟨⟨z0, z1⟩, ⟨z2, z3⟩, ⟨z4, z5⟩⟩ := HO.out
  go_wp2
  have HR2 := ((HR.out.other (b' := w.heap.size + 1 + 1) (o' := 1) (.slice ka s.kn kc) (by omega)).other (b' := w.heap.size + 1 + 1) (o' := 2) (.string s.data) (by omega)).put (.int .i64 s.birth) (.slice ka s.kn kc) (.string s.data)
  refine bodyPost_ret (v := .agg #[.int .i64 s.birth, .slice ka s.kn kc, .string s.data]) (by simp [results, Try.results80, go_sem, HR2.1.1, HR2.2.1.1, HR2.2.2.1]) rfl ⟨⟨_, w.heap.size + 1 + 1 + 1, rfl, ?_, by omega, by simpa using hsz'⟩, ?_⟩
  · exact ((((Hown.out.put _ (by omega)).put _ (by omega)).put _ (by omega)).put _ (by omega)).put _ (by omega)
  · exact ((((hb2.setCell (by show _ ≤ w.heap.size + 1 + 1; omega) _).setCell (by show _ ≤ w.heap.size + 1 + 1; omega) _).setCell (by show _ ≤ w.heap.size + 1; omega) _).setCell (by show _ ≤ w.heap.size + 1; omega) _).setCell (by show _ ≤ w.heap.size + 1; omega) _

/-- The first k slots of a row of n are laid. -/
structure Part (wr : World) (bs n k : Nat) (f : Nat → SlotD) (kb : Nat → Nat) (kv : Nat → Value) : Prop where
  slots : ∀ j, j < n → SlotOwn wr bs (0 + j * 3) (kb j) (kv j) (if j < k then f j else zeroS)
  apart : KidsApart kb k f
  place : ∀ j, j < k → 0 < (f j).kn → bs < kb j ∧ kb j < wr.heap.size

theorem Part.below {wr w' : World} {bs n k : Nat} {f : Nat → SlotD} {kb : Nat → Nat} {kv : Nat → Value} (h : Part wr bs n k f kb kv) (t : Below wr.heap.size wr w') : Part w' bs n k f kb kv :=
  ⟨fun j hj => (h.slots j hj).below t, h.apart, fun j hj h0 => by have := h.place j hj h0; have := t.size; omega⟩

theorem Part.next {wr w1 : World} {bs n k b : Nat} {f : Nat → SlotD} {kb : Nat → Nat} {kv : Nat → Value} {v : Value} (h : Part wr bs n k f kb kv) (hk : k < n) (hbs : bs < wr.heap.size) (t : Below wr.heap.size wr w1)
    (hp : PtrsOwn w1 b v (f k).kn (f k).ks (f k).kb) (hb : wr.heap.size ≤ b) (hb2 : b < w1.heap.size) (hs : (f k).data.size ≤ maxLen) :
    Part (((w1.setCell ⟨bs, 0 + k * 3, none⟩ (.int .i64 (f k).birth)).setCell ⟨bs, 0 + k * 3 + 1, none⟩ v).setCell ⟨bs, 0 + k * 3 + 2, none⟩ (.string (f k).data)) bs n (k + 1) f (fun j => if j = k then b else kb j) (fun j => if j = k then v else kv j) := by
  have h' := h.below t
  refine ⟨fun j hj => ?_, fun i j hi hj hij h1 h2 => ?_, fun j hj h0 => ?_⟩
  · have hj' := h'.slots j hj
    by_cases e : j = k
    · subst e
      simp only [if_true]
      rw [if_pos (by omega)]
      refine ⟨?_, ?_, ?_, ?_, hs, fun _ => by omega⟩
      · exact ((hj'.birth.set _).other _ (Or.inr (by omega))).other _ (Or.inr (by omega))
      · exact ((hj'.kidsv.other _ (Or.inr (by omega))).set _).other _ (Or.inr (by omega))
      · exact ((hj'.data.other _ (Or.inr (by omega))).other _ (Or.inr (by omega))).set _
      · exact ((hp.put _ (by omega)).put _ (by omega)).put _ (by omega)
    · simp only [if_neg e]
      have es : (if j < k + 1 then f j else zeroS) = if j < k then f j else zeroS := by
        by_cases e2 : j < k
        · rw [if_pos e2, if_pos (by omega)]
        · rw [if_neg e2, if_neg (by omega)]
      rw [es]
      refine ⟨?_, ?_, ?_, ?_, hj'.small, hj'.apart⟩
      · exact ((hj'.birth.other _ (Or.inr (by omega))).other _ (Or.inr (by omega))).other _ (Or.inr (by omega))
      · exact ((hj'.kidsv.other _ (Or.inr (by omega))).other _ (Or.inr (by omega))).other _ (Or.inr (by omega))
      · exact ((hj'.data.other _ (Or.inr (by omega))).other _ (Or.inr (by omega))).other _ (Or.inr (by omega))
      · refine ((hj'.kids.turned (Turned.put _ _ _ _) ?_).turned (Turned.put _ _ _ _) ?_).turned (Turned.put _ _ _ _) ?_
        all_goals exact fun h0 hx => hj'.apart h0 hx
  · show (if i = k then b else kb i) ≠ (if j = k then b else kb j)
    by_cases e1 : i = k
    · by_cases e2 : j = k
      · omega
      · rw [if_pos e1, if_neg e2]
        have := h.place j (by omega) h2
        omega
    · by_cases e2 : j = k
      · rw [if_neg e1, if_pos e2]
        have := h.place i (by omega) h1
        omega
      · rw [if_neg e1, if_neg e2]
        exact h.apart i j (by omega) (by omega) hij h1 h2
  · simp only [World.size_setCell]
    by_cases e : j = k
    · rw [if_pos e]; omega
    · rw [if_neg e]
      have := h'.place j (by omega) h0
      omega

theorem zeroS_own {w : World} {bs n j : Nat} (hj : j < n) (hbs : bs = w.heap.size) : SlotOwn (w.alloc (.cells (zeros #[.int .i64 0, .slice none 0 0, .string ⟨#[]⟩] n) 75)) bs (0 + j * 3) 0 (.slice none 0 0) zeroS := by
  subst hbs
  have c0 := new_cell w #[.int .i64 0, .slice none 0 0, .string ⟨#[]⟩] n j 0 75 hj (by simp)
  have c1 := new_cell w #[.int .i64 0, .slice none 0 0, .string ⟨#[]⟩] n j 1 75 hj (by simp)
  have c2 := new_cell w #[.int .i64 0, .slice none 0 0, .string ⟨#[]⟩] n j 2 75 hj (by simp)
  refine ⟨?_, ?_, ?_, ⟨Nat.zero_le _, none, 0, rfl, Nat.le_refl _, fun h => absurd h (Nat.lt_irrefl _)⟩, Nat.zero_le _, fun h => absurd h (Nat.lt_irrefl _)⟩
  · show Cell _ _ _ (.int .i64 0)
    simpa using c0
  · simpa using c1
  · show Cell _ _ _ (.string ⟨#[]⟩)
    simpa using c2

set_option maxRecDepth 20000 in
set_option maxHeartbeats 400000 in
theorem toSlotS_any (v : Value) (n lo hi : Nat) (f : Nat → SlotD) (w : World) (h1 : SlotsAt w lo hi v n f) (hn : n + slotsN f n ≤ 1048576) :
    Calls Try.prog 48 #[v] w fun e w' => (∃ v' kb kv, e = .returned v' ∧ SlotsOwn w' w.heap.size kb kv v' n f ∧ KidsApart kb n f ∧ ∀ j, j < n → 0 < (f j).kn → w.heap.size < kb j ∧ kb j < w'.heap.size) ∧ Below w.heap.size w w' ∧ w.heap.size < w'.heap.size := by
  obtain ⟨m1, a, c, rfl, mc, g1⟩ := h1
  have hm1 := m1
  unfold maxLen at m1
  have G1 : Hid (0 < n → ∃ b off, a = some ⟨b, off, none⟩ ∧ lo ≤ b ∧ b < hi ∧ ∀ i, i < n → ∃ v0 v1 v2, w.cell? ⟨b, off + i * 3, none⟩ = some v0 ∧ w.cell? ⟨b, off + i * 3 + 1, none⟩ = some v1 ∧ w.cell? ⟨b, off + i * 3 + 2, none⟩ = some v2 ∧ SlotAt w lo hi v0 v1 v2 (f i)) := g1
  have Hn : Hid (n + slotsN f n ≤ 1048576) := hn
  clear g1
  have hmk := make_zeros 29 75 (.agg #[.int .i64 0, .slice none 0 0, .string ⟨#[]⟩]) 3 48 (by kernel_rfl) infoSlotT rfl n (by omega) (by omega)
  clear hn
  go_enter Try.func48, Try.ntmps48
  go_wp2
  go_loopw [4] (fun i wr => ∃ (k : Nat) (kb : Nat → Nat) (kv : Nat → Value), k ≤ n ∧ i = .int .i64 k ∧ Part wr w.heap.size n k f kb kv ∧ Below w.heap.size w wr ∧ w.heap.size < wr.heap.size) (fun i _ => n - (intOf i).toNat)
  case atStart => exact ⟨0, fun _ => 0, fun _ => .slice none 0 0, Nat.zero_le _, rfl, ⟨fun j hj => by rw [if_neg (by omega)]; exact zeroS_own hj rfl, fun i j hi => absurd hi (by omega), fun j hj => absurd hj (by omega)⟩, below_alloc _ _, by simp⟩
  case round =>
    obtain ⟨k, kb, kv, hk, rfl, hpart, hb, hsz⟩ := hrel
    by_cases hlt : k < n
    · have hlt' : (k : Int) < (n : Int) := by omega
      obtain ⟨b, off, rfl, _, _, k1⟩ := G1.out (by omega)
      obtain ⟨x0, x1, x2, c0, c1, c2, hs⟩ := k1 k hlt
      have hd0 := (hb.cell (lt_of_cell c0)).trans c0
      have hd1 := (hb.cell (lt_of_cell c1)).trans c1
      have hd2 := (hb.cell (lt_of_cell c2)).trans c2
      have hs' := hs.below hb
      have Hs : Hid (SlotAt wr lo hi x0 x1 x2 (f k)) := hs'
      clear k1 G1 c0 c1 c2 hs
      obtain ⟨rfl, ⟨_, ka, kc, rfl, _⟩, rfl, hsmall⟩ := hs'
      go_wp2_with fail
      refine (toSlot_any _ _ _ lo hi (f k) _ Hs.out (by have h1 := Hn.out; have h2 := slotN_le f hlt; unfold slotN at h2; omega)).mono ?_
      rintro e w1 ⟨⟨nv, nb, rfl, hp, hnb1, hnb2⟩, hb1⟩
      have hb2 := below_next hb hb1
      have hz := (hpart.slots k hlt).below hb1
      obtain ⟨e0, e1⟩ := hz.birth
      obtain ⟨e2, e3⟩ := hz.kidsv
      obtain ⟨e4, e5⟩ := hz.data
      clear hd0 hd1 hd2 hz
      rw [Nat.zero_add] at e0 e1 e2 e3 e4 e5
      have Hp : Hid (PtrsOwn w1 nb nv (f k).kn (f k).ks (f k).kb) := hp
      obtain ⟨_, na, nc, rfl, _⟩ := hp
      have hsz1 : w.heap.size < w1.heap.size := by have := hb1.size; omega
      go_wp2
      go_roundw
      case rel =>
        refine ⟨k + 1, (fun j => if j = k then nb else kb j), (fun j => if j = k then .slice na (f k).kn nc else kv j), by omega, by go_num, ?_, ((hb2.setCell (Nat.le_refl _) _).setCell (Nat.le_refl _) _).setCell (Nat.le_refl _) _, by simpa using hsz1⟩
        have hx := hpart.next hlt hsz hb1 Hp.out hnb1 hnb2 hsmall
        rw [Nat.zero_add] at hx
        exact hx
      case measure => simp [intOf]; omega
    · obtain rfl : k = n := by omega
      go_wp2
      go_ret
      refine ⟨⟨_, kb, kv, rfl, ⟨hm1, _, k, rfl, Nat.le_refl _, fun _ => ⟨0, rfl, fun i hi => ?_⟩⟩, hpart.apart, hpart.place⟩, hb, hsz⟩
      have := hpart.slots i hi
      rw [if_pos hi] at this
      exact this

set_option maxRecDepth 20000 in
set_option maxHeartbeats 400000 in
theorem toPool_any (v0 v1 : Value) (lo hi : Nat) (p : PoolD) (w : World) (h1 : PoolAt w lo hi v0 v1 p) (hn : poolN p ≤ 1048576) : Calls Try.prog 11 #[.agg #[v0, v1]] w (NewPool p w) := by
  have q1 := h1
  obtain ⟨⟨_, a, c, rfl, _⟩, ⟨_, a', c', rfl, _⟩⟩ := h1
  unfold poolN at hn
  go_enter Try.func11, Try.ntmps11
  go_wp2_with fail
  have ha1 := below_alloc w (.cells #[.slice a p.n c, .slice a' p.hn c'] 25)
  have ha2 := below_next ha1 (below_alloc _ (.cells #[.slice none 0 0, .slice none 0 0] 31))
  have ha3 := below_next ha2 (below_alloc _ (.cells #[.slice none 0 0, .slice none 0 0] 31))
  refine (toSlotS_any _ p.n lo hi p.s _ (q1.1.below ha3) (by omega)).mono ?_
  rintro e w1 ⟨⟨sv, kb, kv, rfl, hown, hap, hpl⟩, hb1, hsz⟩
  have HB : Hid (Box2 w1 w.heap.size (.slice a p.n c) (.slice a' p.hn c')) := (((Box2.new w _ _ _).below (below_alloc _ _)).below (below_alloc _ _)).below hb1
  have HR : Hid (Box2 w1 (w.heap.size + 1) (.slice none 0 0) (.slice none 0 0)) := by
    have := (((Box2.new (w.alloc (.cells #[.slice a p.n c, .slice a' p.hn c'] 25)) (.slice none 0 0) (.slice none 0 0) 31).below (below_alloc _ _)).below hb1)
    rw [World.size_alloc] at this
    exact this
  have HO : Hid (Box2 w1 (w.heap.size + 1 + 1) (.slice none 0 0) (.slice none 0 0)) := by
    have := ((Box2.new ((w.alloc (.cells #[.slice a p.n c, .slice a' p.hn c'] 25)).alloc (.cells #[.slice none 0 0, .slice none 0 0] 31)) (.slice none 0 0) (.slice none 0 0) 31).below hb1)
    rw [World.size_alloc, World.size_alloc] at this
    exact this
  have hb2 := below_next ha3 hb1
  rw [World.size_alloc, World.size_alloc, World.size_alloc] at hown hpl hsz
  have Hown : Hid (SlotsOwn w1 (w.heap.size + 1 + 1 + 1) kb kv sv p.n p.s) := hown
  have Hap : Hid (KidsApart kb p.n p.s) := hap
  have Hpl : Hid (∀ j, j < p.n → 0 < (p.s j).kn → w.heap.size + 1 + 1 + 1 < kb j ∧ kb j < w1.heap.size) := hpl
  obtain ⟨_, sa, sc, rfl, _⟩ := hown
  clear hap hpl ha1 ha2 ha3 hb1
  obtain ⟨⟨x0, x1⟩, ⟨x2, x3⟩⟩ := HB.out
  obtain ⟨⟨z0, z1⟩, ⟨z2, z3⟩⟩ := HO.out
  go_wp2_with fail
  have hb3 := hb2.setCell (p := ⟨w.heap.size + 1 + 1, 0, none⟩) (by show _ ≤ w.heap.size + 1 + 1; omega) (.slice sa p.n sc)
  refine (toInt64S_any _ p.hn lo hi p.h _ (q1.2.below hb3) (by omega)).mono ?_
  rintro e w2 ⟨⟨hv, rfl, hiown⟩, hb4, hsz4⟩
  rw [World.size_setCell] at hiown hsz4
  have hb5 := below_next hb3 hb4
  have HR2 : Hid (Box2 w2 (w.heap.size + 1) (.slice none 0 0) (.slice none 0 0)) := (HR.out.other _ (by omega)).below hb4
  have HO2 : Hid (Box2 w2 (w.heap.size + 1 + 1) (.slice sa p.n sc) (.slice none 0 0)) := (show Box2 (w1.setCell ⟨w.heap.size + 1 + 1, 0, none⟩ (.slice sa p.n sc)) (w.heap.size + 1 + 1) (.slice sa p.n sc) (.slice none 0 0) from ⟨HO.out.1.set _, HO.out.2.other _ (Or.inr (by omega))⟩).below hb4
  have Hown2 : Hid (SlotsOwn w2 (w.heap.size + 1 + 1 + 1) kb kv (.slice sa p.n sc) p.n p.s) :=
    (Hown.out.turned (Turned.put _ _ _ _) (fun _ e => by omega) (fun i hi h0 e => by have := Hpl.out i hi h0; omega)).below hb4
  have Hiown : Hid (IntsOwn w2 w1.heap.size hv p.hn p.h) := hiown
  obtain ⟨_, ia, ic, rfl, _⟩ := hiown
  clear x0 x1 x2 x3 z0 z1 z2 z3 hb4 hb3 HB HR HO Hown hb2
  obtain ⟨⟨y0, y1⟩, ⟨y2, y3⟩⟩ := HR2.out
  obtain ⟨⟨z0, z1⟩, ⟨z2, z3⟩⟩ := HO2.out
  go_wp2
  have HR3 := (HR2.out.other (b' := w.heap.size + 1 + 1) (o' := 1) (.slice ia p.hn ic) (by omega)).put (.slice sa p.n sc) (.slice ia p.hn ic)
  refine bodyPost_ret (v := .agg #[.slice sa p.n sc, .slice ia p.hn ic]) (by simp [results, Try.results11, go_sem, HR3.1.1, HR3.2.1]) rfl ⟨_, _, rfl, ?_, ?_⟩
  · refine ⟨w.heap.size + 1 + 1 + 1, w1.heap.size, kb, kv, ?_, Hap.out, ?_, ?_, ?_⟩
    · have pl := Hpl.out
      refine ((Hown2.out.turned (Turned.put _ _ _ _) ?_ ?_).turned (Turned.put _ _ _ _) ?_ ?_).turned (Turned.put _ _ _ _) ?_ ?_
      · exact fun _ e => by omega
      · exact fun i hi h0 e => by have := pl i hi h0; omega
      · exact fun _ e => by omega
      · exact fun i hi h0 e => by have := pl i hi h0; omega
      · exact fun _ e => by omega
      · exact fun i hi h0 e => by have := pl i hi h0; omega
    · exact ((Hiown.out.put _ (by omega)).put _ (by omega)).put _ (by omega)
    · rintro h0 (⟨_, e⟩ | ⟨i, hi, h1, e⟩)
      · omega
      · have := Hpl.out i hi h1; omega
    · simp only [World.size_setCell]
      rintro k ((⟨_, rfl⟩ | ⟨i, hi, h1, rfl⟩) | ⟨_, rfl⟩)
      · omega
      · have := Hpl.out i hi h1; omega
      · omega
  · exact ((hb5.setCell (by show _ ≤ w.heap.size + 1 + 1; omega) _).setCell (by show _ ≤ w.heap.size + 1; omega) _).setCell (by show _ ≤ w.heap.size + 1; omega) _

end Go.Proofs.Ytikhipekmlhibae

namespace Go.Proofs.Ytikhipekmlhibae
open Go.RowKit
set_option linter.unusedVariables false

theorem cnt_size (f : Nat → SlotD) : ∀ n, cnt f 1 n ≤ 1 + 2 * (n : Int) + 2 * (slotsN f n : Int)
  | 0 => by show (1 : Int) ≤ _; omega
  | n + 1 => by
    have := cnt_size f n
    show cnt f 1 n + 2 + 2 * ((f n).kn : Int) ≤ 1 + 2 * ((n + 1 : Nat) : Int) + 2 * ((slotsN f n + ((f n).kn + (f n).data.size) : Nat) : Int)
    omega
theorem end_small {p : PoolD} (h : poolN p ≤ 1048576) : endP p 1 ≤ 1000000000000 ∧ 0 ≤ endP p 1 := by
  have h1 := cnt_size p.s p.n
  have h2 := cnt_le p.s 1 (Nat.zero_le p.n)
  have h3 : cnt p.s 1 0 = 1 := rfl
  unfold poolN at h
  unfold endP
  omega

end Go.Proofs.Ytikhipekmlhibae

namespace Go.Proofs.Ytikhipekmlhibae
open Go Go.RowKit
set_option linter.unusedVariables false

/-- A pool and a row of pointers in blocks from lo to hi, apart from each other. -/
def TreeMem (w : World) (lo hi : Nat) (v0 v1 vo : Value) (p : PoolD) (n : Nat) (f g : Nat → Int) : Prop :=
  ∃ pl ph ob, lo ≤ pl ∧ ph ≤ hi ∧ PoolOwn w pl ph v0 v1 p ∧ PtrsOwn w ob vo n f g ∧ (0 < n → lo ≤ ob ∧ ob < hi ∧ (ob < pl ∨ ph ≤ ob))
theorem TreeMem.below {w w' : World} {lo hi : Nat} {v0 v1 vo : Value} {p : PoolD} {n : Nat} {f g : Nat → Int} (h : TreeMem w lo hi v0 v1 vo p n f g) (t : Below w.heap.size w w') : TreeMem w' lo hi v0 v1 vo p n f g := by
  obtain ⟨pl, ph, ob, h1, h2, h3, h4, h5⟩ := h
  exact ⟨pl, ph, ob, h1, h2, h3.below t, h4.below t, h5⟩
theorem TreeMem.turned {S : Nat → Prop} {w w' : World} {lo hi : Nat} {v0 v1 vo : Value} {p : PoolD} {n : Nat} {f g : Nat → Int} (h : TreeMem w lo hi v0 v1 vo p n f g) (t : Turned S w w') (hs : ∀ k, S k → k < lo ∨ hi ≤ k) : TreeMem w' lo hi v0 v1 vo p n f g := by
  obtain ⟨pl, ph, ob, h1, h2, h3, h4, h5⟩ := h
  exact ⟨pl, ph, ob, h1, h2, h3.turned t (fun k hk => by have := hs k hk; omega), h4.turned t (fun h0 hx => by have := h5 h0; have := hs _ hx; omega), h5⟩
theorem TreeMem.pool {w : World} {lo hi : Nat} {v0 v1 vo : Value} {p : PoolD} {n : Nat} {f g : Nat → Int} (h : TreeMem w lo hi v0 v1 vo p n f g) : PoolAt w lo hi v0 v1 p := by
  obtain ⟨pl, ph, ob, h1, h2, h3, h4, h5⟩ := h
  exact (h3.wide h1 h2).at
theorem TreeMem.row {w : World} {lo hi : Nat} {v0 v1 vo : Value} {p : PoolD} {n : Nat} {f g : Nat → Int} (h : TreeMem w lo hi v0 v1 vo p n f g) : PtrsAt w lo hi vo n f g := by
  obtain ⟨pl, ph, ob, h1, h2, h3, h4, h5⟩ := h
  exact h4.at (fun h0 => ⟨(h5 h0).1, (h5 h0).2.1⟩)
theorem TreeMem.form {w : World} {lo hi : Nat} {v0 v1 vo : Value} {p : PoolD} {n : Nat} {f g : Nat → Int} (h : TreeMem w lo hi v0 v1 vo p n f g) : ∃ a c a' c' oa oc, v0 = .slice a p.n c ∧ v1 = .slice a' p.hn c' ∧ vo = .slice oa n oc := by
  obtain ⟨a, c, a', c', h1, h2⟩ := h.pool.form
  obtain ⟨_, oa, oc, h3, _⟩ := h.row
  exact ⟨a, c, a', c', oa, oc, h1, h2, h3⟩
/-- What is new is so. -/
theorem NewTree.mem {t : TOutD} {w w' : World} {e : Ending} (h : NewTree t w e w') (hl : t.old.length ≤ 3) :
    ∃ v0 v1 vo, e = .returned (.agg #[v0, v1, .int .i64 t.rs, .int .i64 t.rb, vo, .int .i64 t.code]) ∧ TreeMem w' w.heap.size w'.heap.size v0 v1 vo t.pool t.old.length (fstL t.old) (sndL t.old) ∧ Below w.heap.size w w' := by
  obtain ⟨v0, v1, vo, lo, hi, he, h1, h2, h3, h4, h5, h6⟩ := h
  obtain ⟨ob, h7, h8⟩ := h4.own (by unfold maxLen; omega)
  exact ⟨v0, v1, vo, he, ⟨lo, hi, ob, h1, h2, h3, h7, fun h0 => ⟨(h8 h0).2.1, (h8 h0).2.2, h5 _ (h8 h0).1⟩⟩, h6⟩

/-- A variable that holds an answer, and what is read through it. -/
structure TreeV (w : World) (b lo hi : Nat) (v0 v1 vo : Value) (o : TOutD) : Prop where
  box : Box6 w b v0 v1 (.int .i64 o.rs) (.int .i64 o.rb) vo (.int .i64 o.code)
  mem : TreeMem w lo hi v0 v1 vo o.pool o.old.length (fstL o.old) (sndL o.old)
theorem TreeV.below {w w' : World} {b lo hi : Nat} {v0 v1 vo : Value} {o : TOutD} (h : TreeV w b lo hi v0 v1 vo o) (t : Below w.heap.size w w') : TreeV w' b lo hi v0 v1 vo o := ⟨h.box.below t, h.mem.below t⟩
theorem TreeV.turned {S : Nat → Prop} {w w' : World} {b lo hi : Nat} {v0 v1 vo : Value} {o : TOutD} (h : TreeV w b lo hi v0 v1 vo o) (t : Turned S w w') (hb : ¬ S b) (hs : ∀ k, S k → k < lo ∨ hi ≤ k) : TreeV w' b lo hi v0 v1 vo o := ⟨h.box.turned t hb, h.mem.turned t hs⟩

/-- A new variable that holds an answer, made since w1. -/
def NewTreeVar (o : TOutD) (w1 : World) (t : Value) (wx : World) : Prop :=
  ∃ L a c a' c' oa oc lo hi, t = .pointer (some ⟨L, 0, none⟩) ∧ TreeV wx L lo hi (.slice a o.pool.n c) (.slice a' o.pool.hn c') (.slice oa o.old.length oc) o ∧ w1.heap.size ≤ lo ∧ hi ≤ wx.heap.size ∧ (L < lo ∨ hi ≤ L) ∧ w1.heap.size ≤ L ∧ L < wx.heap.size ∧ Below w1.heap.size w1 wx
theorem newTree_late {o : TOutD} {w1 w2 : World} {m : Nat} {a a' oa : Option Addr} {c c' oc : Nat} {t : TypeId} (hC : Below w1.heap.size w1 w2) (hm : w1.heap.size ≤ m) (ho : TreeMem w2 m w2.heap.size (.slice a o.pool.n c) (.slice a' o.pool.hn c') (.slice oa o.old.length oc) o.pool o.old.length (fstL o.old) (sndL o.old)) :
    NewTreeVar o w1 (.pointer (some ⟨w2.heap.size, 0, none⟩)) (w2.alloc (.cells #[.slice a o.pool.n c, .slice a' o.pool.hn c', .int .i64 o.rs, .int .i64 o.rb, .slice oa o.old.length oc, .int .i64 o.code] t)) :=
  ⟨_, a, c, a', c', oa, oc, m, w2.heap.size, rfl, ⟨Box6.new _ _ _ _ _ _ _ _, ho.below (below_alloc _ _)⟩, hm, by rw [World.size_alloc]; omega, Or.inr (Nat.le_refl _), hC.size, by rw [World.size_alloc]; omega, below_next hC (below_alloc _ _)⟩
theorem newTree_early {o : TOutD} {w1 w2 : World} {m B : Nat} {a a' oa : Option Addr} {c c' oc : Nat} {o0 o1 o2 o3 o4 o5 : Value} (hC : Below w1.heap.size w1 w2) (hL : Box6 w2 B o0 o1 o2 o3 o4 o5) (hB : w1.heap.size ≤ B) (hm : B < m) (ho : TreeMem w2 m w2.heap.size (.slice a o.pool.n c) (.slice a' o.pool.hn c') (.slice oa o.old.length oc) o.pool o.old.length (fstL o.old) (sndL o.old)) :
    NewTreeVar o w1 (.pointer (some ⟨B, 0, none⟩)) (put6 w2 B (.slice a o.pool.n c) (.slice a' o.pool.hn c') (.int .i64 o.rs) (.int .i64 o.rb) (.slice oa o.old.length oc) (.int .i64 o.code)) := by
  have t := Turned.put6 w2 B (.slice a o.pool.n c) (.slice a' o.pool.hn c') (.int .i64 o.rs) (.int .i64 o.rb) (.slice oa o.old.length oc) (.int .i64 o.code)
  have hBC := hL.1.lt
  have hz := t.size
  exact ⟨_, a, c, a', c', oa, oc, m, w2.heap.size, rfl, ⟨hL.put _ _ _ _ _ _, ho.turned t (fun k hk => by omega)⟩, by omega, hz, Or.inl hm, hB, by omega, ((Turned.of_below (S := fun k => k = B) hC).trans t).below (Nat.le_refl _) (fun k hk => hk ▸ hB)⟩
theorem newTree_late' {o : TOutD} {w1 w2 : World} {m : Nat} {a a' oa : Option Addr} {c c' oc : Nat} {t : TypeId} (hC : Below w1.heap.size w1 w2) (ho : TreeMem w2 m w2.heap.size (.slice a o.pool.n c) (.slice a' o.pool.hn c') (.slice oa o.old.length oc) o.pool o.old.length (fstL o.old) (sndL o.old)) (hm : w1.heap.size ≤ m) (wx : World)
    (he : wx = w2.alloc (.cells #[.slice a o.pool.n c, .slice a' o.pool.hn c', .int .i64 o.rs, .int .i64 o.rb, .slice oa o.old.length oc, .int .i64 o.code] t)) : NewTreeVar o w1 (.pointer (some ⟨w2.heap.size, 0, none⟩)) wx := by
  rw [he]
  exact newTree_late hC hm ho
theorem newTree_early' {o : TOutD} {w1 w2 : World} {m B : Nat} {a a' oa : Option Addr} {c c' oc : Nat} {o0 o1 o2 o3 o4 o5 : Value} (hC : Below w1.heap.size w1 w2) (hL : Box6 w2 B o0 o1 o2 o3 o4 o5) (ho : TreeMem w2 m w2.heap.size (.slice a o.pool.n c) (.slice a' o.pool.hn c') (.slice oa o.old.length oc) o.pool o.old.length (fstL o.old) (sndL o.old)) (hB : w1.heap.size ≤ B) (hm : B < m) (wx : World)
    (he : wx = put6 w2 B (.slice a o.pool.n c) (.slice a' o.pool.hn c') (.int .i64 o.rs) (.int .i64 o.rb) (.slice oa o.old.length oc) (.int .i64 o.code)) : NewTreeVar o w1 (.pointer (some ⟨B, 0, none⟩)) wx := by
  rw [he]
  exact newTree_early hC hL hB hm ho
theorem PoolOwn.at00 {w : World} {lo hi : Nat} {v0 v1 : Value} {p : PoolD} (h : PoolOwn w lo hi v0 v1 p) : PoolAt w 0 hi v0 v1 p := (h.wide (Nat.zero_le _) (Nat.le_refl _)).at
theorem end_small3 {p : PoolD} (h : poolN p ≤ 4000000) : endP p 1 ≤ 100000000000 ∧ 0 ≤ endP p 1 := by
  have h1 := cnt_size p.s p.n
  have h2 := cnt_le p.s 1 (Nat.zero_le p.n)
  have h3 : cnt p.s 1 0 = 1 := rfl
  unfold poolN at h
  unfold endP
  omega

set_option maxRecDepth 20000 in
set_option maxHeartbeats 1000000 in
theorem eqTreeOut_same (v0 v1 vo u0 u1 uo : Value) (lo hi lo' hi' : Nat) (o : TOutD) (w : World) (h1 : PoolAt w lo hi v0 v1 o.pool) (h2 : PoolAt w lo' hi' u0 u1 o.pool) (g1 : PtrsAt w lo hi vo o.old.length (fstL o.old) (sndL o.old)) (g2 : PtrsAt w lo' hi' uo o.old.length (fstL o.old) (sndL o.old)) :
    Calls Try.prog 14 #[.agg #[v0, v1, .int .i64 o.rs, .int .i64 o.rb, vo, .int .i64 o.code], .agg #[u0, u1, .int .i64 o.rs, .int .i64 o.rb, uo, .int .i64 o.code]] w fun e w' => e = .returned (.bool true) ∧ Below w.heap.size w w' := by
  have H1 := hideT h1
  have H2 := hideT h2
  have G1 := hideT g1
  have G2 := hideT g2
  obtain ⟨a, c, a', c', rfl, rfl⟩ := h1.form
  obtain ⟨b, d, b', d', rfl, rfl⟩ := h2.form
  obtain ⟨_, ao, co, rfl, _⟩ := g1
  obtain ⟨_, bo, eo, rfl, _⟩ := g2
  clear h1 h2
  have hcc : (o.code != o.code) = false := by simp
  go_enter Try.func14, Try.ntmps14
  go_wp2_with fail
  have ha := below_next (below_alloc w (.cells #[.slice a o.pool.n c, .slice a' o.pool.hn c', .int .i64 o.rs, .int .i64 o.rb, .slice ao o.old.length co, .int .i64 o.code] 35)) (below_alloc _ (.cells #[.slice b o.pool.n d, .slice b' o.pool.hn d', .int .i64 o.rs, .int .i64 o.rb, .slice bo o.old.length eo, .int .i64 o.code] 35))
  have HA := hideT ((Box6.new w (.slice a o.pool.n c) (.slice a' o.pool.hn c') (.int .i64 o.rs) (.int .i64 o.rb) (.slice ao o.old.length co) (.int .i64 o.code) 35).below (below_alloc _ (.cells #[.slice b o.pool.n d, .slice b' o.pool.hn d', .int .i64 o.rs, .int .i64 o.rb, .slice bo o.old.length eo, .int .i64 o.code] 35)))
  have hb := Box6.new (w.alloc (.cells #[.slice a o.pool.n c, .slice a' o.pool.hn c', .int .i64 o.rs, .int .i64 o.rb, .slice ao o.old.length co, .int .i64 o.code] 35)) (.slice b o.pool.n d) (.slice b' o.pool.hn d') (.int .i64 o.rs) (.int .i64 o.rb) (.slice bo o.old.length eo) (.int .i64 o.code) 35
  rw [World.size_alloc] at hb
  have HB := hideT hb
  clear hb
  refine (eqPool_any _ _ _ _ _ _ _ _ o.pool o.pool _ (H1.out.below ha) (H2.out.below ha)).mono ?_
  rintro e w1 ⟨⟨t, rfl, ht⟩, hb1⟩
  obtain rfl : t = true := ht.2 (PoolEq.refl _)
  have HA1 := hideT (HA.out.below hb1)
  have HB1 := hideT (HB.out.below hb1)
  have hB1 := below_next ha hb1
  clear ht hb1 ha HA HB
  obtain ⟨_, _, ⟨x0, _⟩, ⟨x1, _⟩, ⟨x2, _⟩, ⟨x3, _⟩⟩ := HA1.out
  obtain ⟨_, _, ⟨y0, _⟩, ⟨y1, _⟩, ⟨y2, _⟩, ⟨y3, _⟩⟩ := HB1.out
  go_wp2_with fail
  refine (eqPtr_any _ _ _ _ _).mono ?_
  rintro e w2 ⟨⟨t, rfl, ht⟩, hb2⟩
  obtain rfl : t = true := ht.2 ⟨rfl, rfl⟩
  have HA2 := hideT (HA1.out.below hb2)
  have HB2 := hideT (HB1.out.below hb2)
  have hB2 := below_next hB1 hb2
  clear ht hb2 hB1 HA1 HB1 x0 x1 x2 x3 y0 y1 y2 y3
  obtain ⟨_, _, _, _, ⟨x2, _⟩, ⟨x3, _⟩⟩ := HA2.out
  obtain ⟨_, _, _, _, ⟨y2, _⟩, ⟨y3, _⟩⟩ := HB2.out
  go_wp2_with fail
  refine (eqPtrS_any _ _ _ _ lo hi lo' hi' _ _ _ _ _ (G1.out.below hB2) (G2.out.below hB2)).mono ?_
  rintro e w3 ⟨⟨t, rfl, ht⟩, hb3⟩
  obtain rfl : t = true := ht.2 ⟨rfl, fun _ _ => ⟨rfl, rfl⟩⟩
  have HA3 := hideT (HA2.out.below hb3)
  have HB3 := hideT (HB2.out.below hb3)
  have hB3 := below_next hB2 hb3
  clear ht hb3 hB2 HA2 HB2 x2 x3 y2 y3
  obtain ⟨_, _, _, _, _, ⟨x3, _⟩⟩ := HA3.out
  obtain ⟨_, _, _, _, _, ⟨y3, _⟩⟩ := HB3.out
  go_wp2
  go_ret
  exact ⟨rfl, hB3⟩

set_option maxRecDepth 20000 in
set_option maxHeartbeats 1000000 in
theorem markTreeOut_own (lo hi : Nat) (v0 v1 vo x y z : Value) (p : PoolD) (n : Nat) (f g : Nat → Int) (k0 : Int) (w : World) (h : TreeMem w lo hi v0 v1 vo p n f g) (hh : hi ≤ w.heap.size) (hx : x.oneCell' = true) (hk0 : 0 ≤ k0) (hk1 : endP p k0 ≤ 100000000000) (hk2 : 0 ≤ endP p k0) (hn : n ≤ 3) :
    Calls Try.prog 17 #[.agg #[v0, v1, x, y, vo, z], .int .i64 k0] w fun e w' => e = .returned (.int .i64 (endP p k0 + 2 * n)) ∧ TreeMem w' lo hi v0 v1 vo (markP p k0) n (fun i => endP p k0 + 2 * i) (fun i => endP p k0 + 2 * i + 1) ∧ Turned (fun k => lo ≤ k ∧ k < hi) w w' := by
  have H := hideT h
  obtain ⟨a, c, a', c', oa, oc, rfl, rfl, rfl⟩ := h.form
  obtain ⟨pl, ph, ob, h1, h2, h3, h4, h5⟩ := h
  have H3 := hideT h3
  have H4 := hideT h4
  have H5 := hideT h5
  clear h3 h4 h5
  go_enter Try.func17, Try.ntmps17
  go_wp2_with fail
  have ha := below_alloc w (.cells #[.slice a p.n c, .slice a' p.hn c', x, y, .slice oa n oc, z] 35)
  have HX := hideT (Box6.new w (.slice a p.n c) (.slice a' p.hn c') x y (.slice oa n oc) z 35)
  generalize w.alloc (.cells #[.slice a p.n c, .slice a' p.hn c', x, y, .slice oa n oc, z] 35) = W at ha HX ⊢
  refine (markPool_own pl ph _ _ p k0 _ (H3.out.below ha) hk0 (by omega)).mono ?_
  rintro e w1 ⟨rfl, ho, ht⟩
  have Ho := hideT ho
  have htt : Turned (fun k => lo ≤ k ∧ k < hi) w w1 := (Turned.of_below ha).trans (ht.mono (fun k hk => by omega))
  have H41 := hideT ((H4.out.below ha).turned ht (fun h0 => by have := H5.out h0; omega))
  have HX1 := hideT (HX.out.turned ht (by omega))
  clear ho ht ha HX
  generalize hq : endP p k0 = q at hk1 hk2 ⊢
  have Hq := hideT hq
  clear hq
  obtain ⟨_, _, _, _, ⟨x4, _⟩, _⟩ := HX1.out
  go_wp2_with fail
  refine (markPtrS_any ob _ n f g q _ H41.out (by omega) (by omega)).mono ?_
  rintro e w2 ⟨rfl, ho2, ht2⟩
  have Ho2 := hideT ho2
  have Ho1 := hideT (Ho.out.turned ht2 (fun k hk => by have := H5.out hk.1; omega))
  have htt2 : Turned (fun k => lo ≤ k ∧ k < hi) w w2 := htt.trans (ht2.mono (fun k hk => by have := H5.out hk.1; omega))
  clear ho2 ht2
  go_wp2
  go_ret
  obtain rfl := Hq.out
  exact ⟨rfl, ⟨pl, ph, ob, h1, h2, Ho1.out, Ho2.out, H5.out⟩, htt2⟩

set_option maxRecDepth 20000 in
set_option maxHeartbeats 1000000 in
theorem heldTreeOut_own (lo hi : Nat) (v0 v1 vo x y z : Value) (p : PoolD) (n : Nat) (k0 : Int) (w : World) (h : PoolAt w lo hi v0 v1 (markP p k0)) (hr : PtrsAt w lo hi vo n (fun i => endP p k0 + 2 * i) (fun i => endP p k0 + 2 * i + 1)) (hk0 : 0 ≤ k0) (hk1 : endP p k0 ≤ 100000000000) (hk2 : 0 ≤ endP p k0) (hn : n ≤ 3) :
    Calls Try.prog 18 #[.agg #[v0, v1, x, y, vo, z], .int .i64 k0] w fun e w' => e = .returned (.int .i64 (endP p k0 + 2 * n)) ∧ Below w.heap.size w w' := by
  have H := hideT h
  have HR := hideT hr
  obtain ⟨a, c, a', c', rfl, rfl⟩ := h.form
  obtain ⟨_, oa, oc, rfl, _⟩ := hr
  clear h
  go_enter Try.func18, Try.ntmps18
  go_wp2_with fail
  have ha := below_alloc w (.cells #[.slice a (markP p k0).n c, .slice a' (markP p k0).hn c', x, y, .slice oa n oc, z] 35)
  have HX := hideT (Box6.new w (.slice a (markP p k0).n c) (.slice a' (markP p k0).hn c') x y (.slice oa n oc) z 35)
  generalize w.alloc (.cells #[.slice a (markP p k0).n c, .slice a' (markP p k0).hn c', x, y, .slice oa n oc, z] 35) = W at ha HX ⊢
  refine (heldPool_own _ _ _ _ p k0 _ (H.out.below ha) hk0 (by omega)).mono ?_
  rintro e w1 ⟨rfl, hb1⟩
  have hbn := below_next ha hb1
  have HX1 := hideT (HX.out.below hb1)
  have HR1 := hideT (HR.out.below hbn)
  clear ha hb1 HX HR
  generalize hq : endP p k0 = q at hk1 hk2 HR1 ⊢
  have hge : ¬ q < 0 := by omega
  have hge2 : ¬ q + 2 * (n : Int) < 0 := by omega
  have Hq := hideT hq
  clear hq
  obtain ⟨_, _, _, _, ⟨x4, _⟩, _⟩ := HX1.out
  go_wp2_with fail
  refine (heldPtrS_any _ n lo hi _ _ q _ HR1.out (by omega) (by omega) (fun i _ => ⟨rfl, rfl⟩)).mono ?_
  rintro e w2 ⟨rfl, hb2⟩
  have hb3 := below_next hbn hb2
  clear hb2
  go_wp2
  go_ret
  obtain rfl := Hq.out
  exact ⟨rfl, hb3⟩

end Go.Proofs.Ytikhipekmlhibae
