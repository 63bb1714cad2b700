/- What impl.PoolNew and spec.PoolNew answer (no law is proved here). -/
import Derived.Test.YtiijnmpenljniafPoolOwn
import Derived.ProofKit
namespace Go.Proofs.Ytiijnmpenljniaf
open Go.RowKit
set_option linter.unusedVariables false

/-- How many slots PoolNew makes. -/
def many (x : Int) : Nat := if 0 ≤ x ∧ x ≤ 200 then x.toNat else 0

theorem infoSlot : (Try.prog.info? 44).map (fun i => (i.zero, i.size, i.bytes)) = some (some (.agg #[.int .i64 0, .slice none 0 0, .string ⟨#[]⟩]), 3, 48) := by kernel_rfl

def zrow (n : Nat) : Array Value := madeCells #[.int .i64 0, .slice none 0 0, .string ⟨#[]⟩] (n * 3)

theorem zrow_at (n i r : Nat) (hi : i < n) (hr : r < 3) : (zrow n)[0 + i * 3 + r]? = #[Value.int .i64 0, .slice none 0 0, .string ⟨#[]⟩][r]? := by
  unfold zrow madeCells
  have h1 : 0 + i * 3 + r < n * 3 := by omega
  have h2 : (0 + i * 3 + r) % 3 = r := by omega
  simp only [Array.getElem?_map, Array.getElem?_range, h1, if_true, Option.map_some]
  show some (#[Value.int .i64 0, .slice none 0 0, .string ⟨#[]⟩][(0 + i * 3 + r) % 3]!) = _
  rw [h2]
  rcases r with _ | _ | _ | r
  · rfl
  · rfl
  · rfl
  · omega

theorem makeSlots (n : Nat) (hn : n ≤ 200) (w : World) : (Instr.makeSlice 22 (.int .i64 (n : Int)) (.int .i64 (n : Int))).run Try.prog w = .ok (.slice (some ⟨w.heap.size, 0, none⟩) n n) (w.alloc (.cells (zrow n) 44)) := by
  obtain ⟨i, hi, hzz⟩ := Option.map_eq_some_iff.1 infoSlot
  simp only [Prod.mk.injEq] at hzz
  obtain ⟨hz, hs, hb⟩ := hzz
  have hr := run_make (P := Try.prog) w 22 44 i _ (by kernel_rfl) hi hz .i64 .i64 n n (by omega) (Int.le_refl _) (by rw [hb]; omega) (by omega)
  rw [hs] at hr
  simp only [Int.toNat_natCast] at hr
  exact hr

theorem zero_own {w w' : World} {lo hi : Nat} : PoolOwn w' lo hi (.slice none 0 0) (.slice none 0 0) (newP 0) :=
  newP_own (g := 0) (Nat.zero_le _) ⟨none, 0, rfl, Nat.le_refl _, fun h => absurd h (Nat.lt_irrefl _)⟩ (fun i h => absurd h (Nat.not_lt_zero _))

theorem made_own (w : World) (o : Obj) (n : Nat) (hn : n ≤ 200) : PoolOwn ((w.alloc o).alloc (.cells (zrow n) 44)) w.heap.size ((w.alloc o).alloc (.cells (zrow n) 44)).heap.size (.slice (some ⟨w.heap.size + 1, 0, none⟩) n n) (.slice none 0 0) (newP n) := by
  have hz : (w.alloc o).heap.size = w.heap.size + 1 := by simp
  refine newP_own (g := w.heap.size + 1) (by unfold maxLen; omega) ⟨_, n, rfl, Nat.le_refl _, fun _ => ⟨rfl, by omega, by simp⟩⟩ (fun i hi => ?_)
  have cell : ∀ r v, r < 3 → #[Value.int .i64 0, .slice none 0 0, .string ⟨#[]⟩][r]? = some v → Cell ((w.alloc o).alloc (.cells (zrow n) 44)) (w.heap.size + 1) (0 + i * 3 + r) v := by
    intro r v hr hv
    rw [← hz]
    refine ⟨?_, ?_⟩
    · rw [World.cell?_alloc_at (hn := rfl), zrow_at n i r hi hr]; exact hv
    · rw [World.frozen?_alloc_at (hn := rfl)]
  exact ⟨cell 0 _ (by omega) rfl, cell 1 _ (by omega) rfl, cell 2 _ (by omega) rfl⟩

set_option maxRecDepth 20000 in
set_option maxHeartbeats 400000 in
theorem implPoolNew_any (x : Int) (w : World) : Calls Try.prog 11 #[.int .i64 x] w (NewPool (newP (many x)) w) := by
  by_cases h1 : x < 0
  · have hm : Hid (many x = 0) := if_neg (by omega)
    go_enter Try.func11, Try.ntmps11
    go_wp2
    refine bodyPost_ret (v := .agg #[.slice none 0 0, .slice none 0 0]) (by simp [results, Try.results11, go_sem]) rfl ?_
    rw [hm.out]
    exact ⟨_, _, rfl, zero_own (w := w), (Below.refl _ _).alloc (Nat.le_refl _) _⟩
  · obtain ⟨n, rfl⟩ := Int.eq_ofNat_of_zero_le (by omega : 0 ≤ x)
    by_cases h2 : (200 : Int) < n
    · have hm : Hid (many (n : Int) = 0) := if_neg (by omega)
      go_enter Try.func11, Try.ntmps11
      go_wp2
      refine bodyPost_ret (v := .agg #[.slice none 0 0, .slice none 0 0]) (by simp [results, Try.results11, go_sem]) rfl ?_
      rw [hm.out]
      exact ⟨_, _, rfl, zero_own (w := w), (Below.refl _ _).alloc (Nat.le_refl _) _⟩
    · have hm : Hid (many (n : Int) = n) := (if_pos ⟨by omega, by omega⟩).trans (by simp)
      have hmk := makeSlots n (by omega)
      go_enter Try.func11, Try.ntmps11
      go_wp2
      refine bodyPost_ret (v := .agg #[.slice (some ⟨w.heap.size + 1, 0, none⟩) n n, .slice none 0 0]) (by simp [results, Try.results11, go_sem]) rfl ?_
      rw [hm.out]
      exact ⟨_, _, rfl, made_own _ _ _ (by omega), ((Below.refl _ _).alloc (Nat.le_refl _) _).alloc (by simp) _⟩

/-- The cells of k free slots. -/
def zl : Nat → List Value
  | 0 => []
  | k + 1 => zl k ++ [.int .i64 0, .slice none 0 0, .string ⟨#[]⟩]

theorem zl_len (k : Nat) : (zl k).length = k * 3 := by
  induction k with
  | zero => rfl
  | succ k ih => simp [zl, ih]; omega

theorem zl_at (k i r : Nat) (hi : i < k) (hr : r < 3) : (zl k)[i * 3 + r]? = [Value.int .i64 0, .slice none 0 0, .string ⟨#[]⟩][r]? := by
  induction k with
  | zero => omega
  | succ k ih =>
    unfold zl
    by_cases e : i < k
    · rw [List.getElem?_append_left (by rw [zl_len]; omega)]; exact ih e
    · obtain rfl : i = k := by omega
      rw [List.getElem?_append_right (by rw [zl_len]; omega), zl_len]
      congr 1; omega

theorem two_alloc (w : World) (o1 o2 : Obj) : ((w.alloc o1).alloc o2).heap[w.heap.size]? = some o1 ∧ ((w.alloc o1).alloc o2).heap[w.heap.size + 1]? = some o2 ∧ w.heap.size + 2 ≤ ((w.alloc o1).alloc o2).heap.size := by
  refine ⟨?_, ?_, by simp⟩
  · show ((w.heap.push o1).push o2)[w.heap.size]? = _
    simp only [Array.getElem?_push, Array.size_push]
    rw [if_neg (by omega), if_pos trivial]
  · show ((w.heap.push o1).push o2)[w.heap.size + 1]? = _
    simp only [Array.getElem?_push, Array.size_push]
    rw [if_pos trivial]

theorem rows_own {w wr w' : World} {n : Nat} {v : Value} (hn : n ≤ 200) (hown : wr.ownsRow (w.heap.size + 2) 44 3 v n (zl n)) (hc : ∀ b o u, w.heap.size + 2 ≤ b → Cell wr b o u → Cell w' b o u) (hs : wr.heap.size ≤ w'.heap.size) :
    PoolOwn w' w.heap.size w'.heap.size v (.slice none 0 0) (newP n) := by
  have hm : n ≤ maxLen := by unfold maxLen; omega
  by_cases h0 : 0 < n
  · obtain ⟨g, cap, rfl, hcp, hg, hlt, hcell⟩ := owns_cell hown h0
    refine newP_own (g := g) hm ⟨_, cap, rfl, hcp, fun _ => ⟨rfl, by omega, by omega⟩⟩ (fun i hi => ?_)
    have cell : ∀ r u, r < 3 → [Value.int .i64 0, .slice none 0 0, .string ⟨#[]⟩][r]? = some u → Cell w' g (0 + i * 3 + r) u := fun r u hr hu => by
      rw [Nat.zero_add]
      exact hc g _ u hg (hcell _ u (by rw [zl_at n i r hi hr]; exact hu))
    exact ⟨cell 0 _ (by omega) rfl, cell 1 _ (by omega) rfl, cell 2 _ (by omega) rfl⟩
  · obtain ⟨a, cap, rfl, hcp⟩ := owns_form hown
    exact newP_own (g := 0) hm ⟨a, cap, rfl, hcp, fun h => absurd h h0⟩ (fun i hi => absurd hi (by omega))

set_option maxRecDepth 20000 in
set_option maxHeartbeats 400000 in
theorem specPoolNew_any (x : Int) (w : World) : Calls Try.prog 10 #[.int .i64 x] w (NewPool (newP (many x)) w) := by
  by_cases h1 : x < 0 ∨ 200 < x
  · have hm : Hid (many x = 0) := if_neg (by omega)
    go_enter Try.func10, Try.ntmps10
    go_wp2
    refine wp_loop_rounds 1 ?_
    rw [rounds_succ]
    rcases h1 with h1 | h1
    · have h2 : ¬ 0 < x := by omega
      go_wp2
      refine bodyPost_ret (v := .agg #[.slice none 0 0, .slice none 0 0]) (by simp [results, Try.results10, go_sem]) rfl ?_
      rw [hm.out]
      exact ⟨_, _, rfl, zero_own (w := w), ((Below.refl _ _).alloc (Nat.le_refl _) _).alloc (by simp) _⟩
    · have h2 : 0 < x := by omega
      have h3 : ¬ x ≤ 200 := by omega
      go_wp2
      refine bodyPost_ret (v := .agg #[.slice none 0 0, .slice none 0 0]) (by simp [results, Try.results10, go_sem]) rfl ?_
      rw [hm.out]
      exact ⟨_, _, rfl, zero_own (w := w), ((Below.refl _ _).alloc (Nat.le_refl _) _).alloc (by simp) _⟩
  · obtain ⟨n, rfl⟩ := Int.eq_ofNat_of_zero_le (by omega : 0 ≤ x)
    have hn : (n : Int) ≤ 200 := by omega
    have hm : Hid (many (n : Int) = n) := (if_pos ⟨by omega, by omega⟩).trans (by simp)
    clear h1
    obtain ⟨i0, hi, hzz⟩ := Option.map_eq_some_iff.1 infoSlot
    simp only [Prod.mk.injEq] at hzz
    obtain ⟨hz, hs, hby⟩ := hzz
    have HI : Hid (Try.prog.info? 44 = some i0 ∧ i0.zero = some (.agg #[.int .i64 0, .slice none 0 0, .string ⟨#[]⟩]) ∧ i0.size = 3 ∧ i0.bytes = 48) := ⟨hi, hz, hs, hby⟩
    clear hi hz hs hby
    go_enter Try.func10, Try.ntmps10
    go_wp2
    go_loopw [4] (fun i wr => ∃ (k : Nat) (v : Value), k ≤ n ∧ i = .int .i64 k ∧ wr.heap[w.heap.size]? = some (.cells #[.slice none 0 0, .slice none 0 0] 25) ∧ wr.heap[w.heap.size + 1]? = some (.cells #[v, .slice none 0 0] 25) ∧
        wr.ownsRow (w.heap.size + 2) 44 3 v k (zl k) ∧ Below w.heap.size w wr ∧ w.heap.size + 2 ≤ wr.heap.size) (fun i _ => n - (intOf i).toNat)
    case atStart =>
      obtain ⟨t1, t2, t3⟩ := two_alloc w (.cells #[.slice none 0 0, .slice none 0 0] 25) (.cells #[.slice none 0 0, .slice none 0 0] 25)
      exact ⟨0, .slice none 0 0, Nat.zero_le _, rfl, t1, t2, World.ownsRow_nil _ _ _ _, ((Below.refl _ _).alloc (Nat.le_refl _) _).alloc (by simp) _, t3⟩
    case round =>
      obtain ⟨k, v, hk, rfl, hb0, hb1, hown, hb, hsz⟩ := hrel
      obtain ⟨a, cap, rfl, _⟩ := owns_form hown
      obtain ⟨hc0, hf0⟩ := cell_of_block (i := 0) (v := .slice a k cap) hb1 rfl
      obtain ⟨hc1, hf1⟩ := cell_of_block (i := 1) (v := .slice none 0 0) hb1 rfl
      obtain ⟨hc2, hf2⟩ := cell_of_block (i := 0) (v := .slice none 0 0) hb0 rfl
      obtain ⟨hc3, hf3⟩ := cell_of_block (i := 1) (v := .slice none 0 0) hb0 rfl
      have Hb : Hid (wr.heap[w.heap.size]? = some (.cells #[.slice none 0 0, .slice none 0 0] 25) ∧ wr.heap[w.heap.size + 1]? = some (.cells #[.slice a k cap, .slice none 0 0] 25)) := ⟨hb0, hb1⟩
      clear hb0 hb1
      by_cases hlt : k < n
      · have hlt' : (k : Int) < (n : Int) := by omega
        obtain ⟨hi, hz, hs, hby⟩ := HI.out
        have hu := Try.underlying22
        go_wp2_with (first
          | (at_builtin; refine wpList_append_own _ rfl _ _ 22 rfl (w.heap.size + 2) 44 i0 (.agg #[.int .i64 0, .slice none 0 0, .string ⟨#[]⟩]) 3 48 hu hi hz hs hby rfl (by decide) _ _ _ rfl (hown.alloc _) ⟨wr.heap.size, 0, none⟩ 1 1 [.int .i64 0, .slice none 0 0, .string ⟨#[]⟩] rfl rfl ?c1 ?c2 ?c3 ?c4 ?c5 ?_))
        case c1 =>
          intro j u hj
          match j, hj with
          | 0, hj => simp at hj; subst hj; simp [Addr.add]
          | 1, hj => simp at hj; subst hj; simp [Addr.add]
          | 2, hj => simp at hj; subst hj; simp [Addr.add]
        case c2 =>
          intro u hu
          simp at hu
          rcases hu with rfl | rfl | rfl <;> rfl
        case c3 => unfold maxLen; omega
        case c4 => omega
        case c5 => simp; omega
        intro v' w1 hown' hgrow hnil
        obtain ⟨a', cap', rfl, _⟩ := owns_form hown'
        have hbl : w1.heap[w.heap.size + 1]? = some (.cells #[.slice a k cap, .slice none 0 0] 25) := by
          rw [grown_block hgrow (hown.alloc _) (by omega) (by simp; omega), Below.heap_alloc _ _ _ (by omega)]; exact Hb.out.2
        have hbl0 : w1.heap[w.heap.size]? = some (.cells #[.slice none 0 0, .slice none 0 0] 25) := by
          rw [grown_block hgrow (hown.alloc _) (by omega) (by simp; omega), Below.heap_alloc _ _ _ (by omega)]; exact Hb.out.1
        obtain ⟨hd0, hg0⟩ := cell_of_block (i := 0) (v := .slice a k cap) hbl rfl
        have Hbl : Hid (w1.heap[w.heap.size]? = some (.cells #[.slice none 0 0, .slice none 0 0] 25) ∧ w1.heap[w.heap.size + 1]? = some (.cells #[.slice a k cap, .slice none 0 0] 25)) := ⟨hbl0, hbl⟩
        have hbn : Below w.heap.size w w1 := (hb.alloc hb.size _).grown hgrow (by simp; omega) (fun q hq => by have := (hown.alloc (.cells #[.int .i64 0, .slice none 0 0, .string ⟨#[]⟩] 44)).lt q hq; omega)
        have hs1 : w.heap.size + 2 ≤ w1.heap.size := by have := hgrow.size; simp at this; omega
        clear hbl hbl0 hc0 hf0 hc1 hf1 hc2 hf2 hc3 hf3 hnil
        go_wp2
        go_roundw
        case rel =>
          refine ⟨k + 1, .slice a' (k + 1) cap', by omega, by go_num, ?_, ?_, ownsRow_setCell_below hown' (by show w.heap.size + 1 < w.heap.size + 2; omega) _, hbn.setCell (by show w.heap.size ≤ w.heap.size + 1; omega) _, by simp; omega⟩
          · rw [Below.heap_setCell _ _ _ _ (by show w.heap.size ≠ w.heap.size + 1; omega)]; exact Hbl.out.1
          · exact heap_setCell_at _ Hbl.out.2
        case measure => simp [intOf]; omega
      · obtain rfl : k = n := by omega
        go_wp2
        refine bodyPost_ret (v := .agg #[.slice a k cap, .slice none 0 0]) ?_ rfl ?_
        · have z0 : ((wr.setCell ⟨w.heap.size, 0, none⟩ (.slice a k cap)).setCell ⟨w.heap.size, 1, none⟩ (.slice none 0 0)).cell? ⟨w.heap.size, 0, none⟩ = some (.slice a k cap) := (((show Cell wr w.heap.size 0 _ from ⟨hc2, hf2⟩).set (.slice a k cap)).other (b' := w.heap.size) (o' := 1) (.slice none 0 0) (Or.inr (by omega))).1
          have z1 : ((wr.setCell ⟨w.heap.size, 0, none⟩ (.slice a k cap)).setCell ⟨w.heap.size, 1, none⟩ (.slice none 0 0)).cell? ⟨w.heap.size, 1, none⟩ = some (.slice none 0 0) := (((show Cell wr w.heap.size 1 _ from ⟨hc3, hf3⟩).other (b' := w.heap.size) (o' := 0) (.slice a k cap) (Or.inr (by omega))).set (.slice none 0 0)).1
          simp [results, Try.results10, go_sem, z0, z1]
        rw [hm.out]
        refine ⟨_, _, rfl, rows_own (by omega) hown (fun b o u hb' hu => (hu.other _ (Or.inl (by omega))).other _ (Or.inl (by omega))) (by simp), (hb.setCell (Nat.le_refl _) _).setCell (Nat.le_refl _) _⟩

theorem cnt_zero (k0 : Int) (n : Nat) : cnt (fun _ => zeroS) k0 n = k0 + 2 * n := by
  induction n with
  | zero => simp [cnt]
  | succ n ih =>
    show cnt (fun _ => zeroS) k0 n + 2 + 2 * ((0 : Nat) : Int) = _
    rw [ih]
    omega

theorem many_le (x : Int) : many x ≤ 200 := by unfold many; split <;> omega

theorem end_new (x : Int) : endP (newP (many x)) 1 ≤ 1000000000000 ∧ 0 ≤ endP (newP (many x)) 1 := by
  have h := many_le x
  have e : endP (newP (many x)) 1 = 1 + 2 * ((many x : Nat) : Int) := by unfold endP newP; simp only [cnt_zero]; simp
  rw [e]
  omega

end Go.Proofs.Ytiijnmpenljniaf
