/- For every number the law FnExactPoolNew returns true: impl.PoolNew answers as spec.PoolNew, in memory of its own. No condition. -/
import Derived.Test.YteffacfdbhdppacPoolOwn
import Derived.ProofKit
import Derived.OpenShut
namespace Go.Proofs.Yteffacfdbhdppac
open Go.ChangeShapes Go.WideShapes Go.ChangeAt Go.RowKit
set_option linter.unusedVariables false

/-- How many slots PoolNew makes. -/
def many (x : Int) : Nat := if 0 ≤ x ∧ x ≤ 200 then x.toNat else 0

theorem infoSlot : (Try.prog.info? 42).map (fun i => (i.zero, i.size, i.bytes)) = some (some (.agg #[.int .i64 0, .slice none 0 0, .string ⟨#[]⟩]), 3, 48) := by kernel_rfl

def zrow (n : Nat) : Array Value := madeCells #[.int .i64 0, .slice none 0 0, .string ⟨#[]⟩] (n * 3)

theorem zrow_at (n i r : Nat) (hi : i < n) (hr : r < 3) : (zrow n)[0 + i * 3 + r]? = #[Value.int .i64 0, .slice none 0 0, .string ⟨#[]⟩][r]? := by
  unfold zrow madeCells
  have h1 : 0 + i * 3 + r < n * 3 := by omega
  have h2 : (0 + i * 3 + r) % 3 = r := by omega
  simp only [Array.getElem?_map, Array.getElem?_range, h1, if_true, Option.map_some]
  show some (#[Value.int .i64 0, .slice none 0 0, .string ⟨#[]⟩][(0 + i * 3 + r) % 3]!) = _
  rw [h2]
  rcases r with _ | _ | _ | r
  · rfl
  · rfl
  · rfl
  · omega

theorem makeSlots (n : Nat) (hn : n ≤ 200) (w : World) : (Instr.makeSlice 23 (.int .i64 (n : Int)) (.int .i64 (n : Int))).run Try.prog w = .ok (.slice (some ⟨w.heap.size, 0, none⟩) n n) (w.alloc (.cells (zrow n) 42)) := by
  obtain ⟨i, hi, hzz⟩ := Option.map_eq_some_iff.1 infoSlot
  simp only [Prod.mk.injEq] at hzz
  obtain ⟨hz, hs, hb⟩ := hzz
  have hr := run_make (P := Try.prog) w 23 42 i _ (by kernel_rfl) hi hz .i64 .i64 n n (by omega) (Int.le_refl _) (by rw [hb]; omega) (by omega)
  rw [hs] at hr
  simp only [Int.toNat_natCast] at hr
  exact hr

theorem zero_own {w w' : World} {lo hi : Nat} : PoolOwn w' lo hi (.slice none 0 0) (.slice none 0 0) (newP 0) :=
  newP_own (g := 0) (Nat.zero_le _) ⟨none, 0, rfl, fun h => absurd h (Nat.lt_irrefl _)⟩ (fun i h => absurd h (Nat.not_lt_zero _))

theorem made_own (w : World) (o : Obj) (n : Nat) (hn : n ≤ 200) : PoolOwn ((w.alloc o).alloc (.cells (zrow n) 42)) w.heap.size ((w.alloc o).alloc (.cells (zrow n) 42)).heap.size (.slice (some ⟨w.heap.size + 1, 0, none⟩) n n) (.slice none 0 0) (newP n) := by
  have hz : (w.alloc o).heap.size = w.heap.size + 1 := by simp
  refine newP_own (g := w.heap.size + 1) (by unfold maxLen; omega) ⟨_, n, rfl, fun _ => ⟨rfl, by omega, by simp⟩⟩ (fun i hi => ?_)
  have cell : ∀ r v, r < 3 → #[Value.int .i64 0, .slice none 0 0, .string ⟨#[]⟩][r]? = some v → Cell ((w.alloc o).alloc (.cells (zrow n) 42)) (w.heap.size + 1) (0 + i * 3 + r) v := by
    intro r v hr hv
    rw [← hz]
    refine ⟨?_, ?_⟩
    · rw [World.cell?_alloc_at (hn := rfl), zrow_at n i r hi hr]; exact hv
    · rw [World.frozen?_alloc_at (hn := rfl)]
  exact ⟨cell 0 _ (by omega) rfl, cell 1 _ (by omega) rfl, cell 2 _ (by omega) rfl⟩

set_option maxHeartbeats 400000 in
theorem implPoolNew_any (x : Int) (w : World) : Calls Try.prog 10 #[.int .i64 x] w (NewPool (newP (many x)) w) := by
  by_cases h1 : x < 0
  · have hm : Hid (many x = 0) := if_neg (by omega)
    go_enter Try.func10, Try.ntmps10
    go_wp2
    refine bodyPost_ret (v := .agg #[.slice none 0 0, .slice none 0 0]) (by simp [results, Try.results10, go_sem]) rfl ?_
    rw [hm.out]
    exact ⟨_, _, rfl, zero_own (w := w), (Below.refl _ _).alloc (Nat.le_refl _) _⟩
  · obtain ⟨n, rfl⟩ := Int.eq_ofNat_of_zero_le (by omega : 0 ≤ x)
    by_cases h2 : (200 : Int) < n
    · have hm : Hid (many (n : Int) = 0) := if_neg (by omega)
      go_enter Try.func10, Try.ntmps10
      go_wp2
      refine bodyPost_ret (v := .agg #[.slice none 0 0, .slice none 0 0]) (by simp [results, Try.results10, go_sem]) rfl ?_
      rw [hm.out]
      exact ⟨_, _, rfl, zero_own (w := w), (Below.refl _ _).alloc (Nat.le_refl _) _⟩
    · have hm : Hid (many (n : Int) = n) := (if_pos ⟨by omega, by omega⟩).trans (by simp)
      have hmk := makeSlots n (by omega)
      go_enter Try.func10, Try.ntmps10
      go_wp2
      refine bodyPost_ret (v := .agg #[.slice (some ⟨w.heap.size + 1, 0, none⟩) n n, .slice none 0 0]) (by simp [results, Try.results10, go_sem]) rfl ?_
      rw [hm.out]
      exact ⟨_, _, rfl, made_own _ _ _ (by omega), ((Below.refl _ _).alloc (Nat.le_refl _) _).alloc (by simp) _⟩

/-- The cells of k free slots. -/
def zl : Nat → List Value
  | 0 => []
  | k + 1 => zl k ++ [.int .i64 0, .slice none 0 0, .string ⟨#[]⟩]

theorem zl_len (k : Nat) : (zl k).length = k * 3 := by
  induction k with
  | zero => rfl
  | succ k ih => simp [zl, ih]; omega

theorem zl_at (k i r : Nat) (hi : i < k) (hr : r < 3) : (zl k)[i * 3 + r]? = [Value.int .i64 0, .slice none 0 0, .string ⟨#[]⟩][r]? := by
  induction k with
  | zero => omega
  | succ k ih =>
    unfold zl
    by_cases e : i < k
    · rw [List.getElem?_append_left (by rw [zl_len]; omega)]; exact ih e
    · obtain rfl : i = k := by omega
      rw [List.getElem?_append_right (by rw [zl_len]; omega), zl_len]
      congr 1; omega

theorem owns_form {w : World} {base e size : Nat} {v : Value} {n : Nat} {xs : List Value} (h : w.ownsRow base e size v n xs) : ∃ a cap, v = .slice a n cap := by
  obtain ⟨_, ⟨h, rfl⟩ | ⟨g, cap, cur, hv, _⟩⟩ := h
  · exact ⟨none, 0, h⟩
  · exact ⟨_, cap, hv⟩

theorem owns_cell {w : World} {base e size : Nat} {v : Value} {n : Nat} {xs : List Value} (h : w.ownsRow base e size v n xs) (hn : 0 < n) :
    ∃ g cap, v = .slice (some ⟨g, 0, none⟩) n cap ∧ base ≤ g ∧ g < w.heap.size ∧ ∀ j u, xs[j]? = some u → Cell w g j u := by
  obtain ⟨_, ⟨h, rfl⟩ | ⟨g, cap, cur, hv, hb, hg, h1, h2, h3, h4⟩⟩ := h
  · omega
  · refine ⟨g, cap, hv, hb, ?_, fun j u hj => ?_⟩
    · by_cases hlt : g < w.heap.size
      · exact hlt
      · rw [Array.getElem?_eq_none (by omega)] at hg; simp at hg
    · refine ⟨?_, ?_⟩
      · simp only [World.cell?, hg]
        have hj' : (cur.toList.take (n * size))[j]? = some u := by rw [h4]; exact hj
        rw [List.getElem?_take] at hj'
        split at hj'
        · simpa using hj'
        · simp at hj'
      · simp only [World.frozen?, hg]
        simp

theorem cell_of_block {w : World} {b i : Nat} {cs : Array Value} {t : TypeId} {v : Value} (h : w.heap[b]? = some (.cells cs t)) (hi : cs[i]? = some v) : Cell w b i v := by
  refine ⟨?_, ?_⟩
  · simp [World.cell?, h, hi]
  · simp [World.frozen?, h]

theorem grown_block {w w1 : World} {v : Value} {b base e size n : Nat} {xs : List Value} (hg : w.grownBy w1 v.ownBlock) (hown : w.ownsRow base e size v n xs) (hb : b < base) (hlt : b < w.heap.size) : w1.heap[b]? = w.heap[b]? :=
  hg.block b hlt (fun e => by have := hown.lt b e.symm; omega)

theorem heap_setCell_at {w : World} {b o : Nat} {cs : Array Value} {t : TypeId} (v : Value) (h : w.heap[b]? = some (.cells cs t)) : (w.setCell ⟨b, o, none⟩ v).heap[b]? = some (.cells (cs.setIfInBounds o v) t) := by
  simp [World.setCell, Array.getElem?_modify, h]

theorem two_alloc (w : World) (o1 o2 : Obj) : ((w.alloc o1).alloc o2).heap[w.heap.size]? = some o1 ∧ ((w.alloc o1).alloc o2).heap[w.heap.size + 1]? = some o2 ∧ w.heap.size + 2 ≤ ((w.alloc o1).alloc o2).heap.size := by
  refine ⟨?_, ?_, by simp⟩
  · show ((w.heap.push o1).push o2)[w.heap.size]? = _
    simp only [Array.getElem?_push, Array.size_push]
    rw [if_neg (by omega), if_pos trivial]
  · show ((w.heap.push o1).push o2)[w.heap.size + 1]? = _
    simp only [Array.getElem?_push, Array.size_push]
    rw [if_pos trivial]

theorem rows_own {w wr w' : World} {n : Nat} {v : Value} (hn : n ≤ 200) (hown : wr.ownsRow (w.heap.size + 2) 42 3 v n (zl n)) (hc : ∀ b o u, w.heap.size + 2 ≤ b → Cell wr b o u → Cell w' b o u) (hs : wr.heap.size ≤ w'.heap.size) :
    PoolOwn w' w.heap.size w'.heap.size v (.slice none 0 0) (newP n) := by
  have hm : n ≤ maxLen := by unfold maxLen; omega
  by_cases h0 : 0 < n
  · obtain ⟨g, cap, rfl, hg, hlt, hcell⟩ := owns_cell hown h0
    refine newP_own (g := g) hm ⟨_, cap, rfl, fun _ => ⟨rfl, by omega, by omega⟩⟩ (fun i hi => ?_)
    have cell : ∀ r u, r < 3 → [Value.int .i64 0, .slice none 0 0, .string ⟨#[]⟩][r]? = some u → Cell w' g (0 + i * 3 + r) u := fun r u hr hu => by
      rw [Nat.zero_add]
      exact hc g _ u hg (hcell _ u (by rw [zl_at n i r hi hr]; exact hu))
    exact ⟨cell 0 _ (by omega) rfl, cell 1 _ (by omega) rfl, cell 2 _ (by omega) rfl⟩
  · obtain ⟨a, cap, rfl⟩ := owns_form hown
    exact newP_own (g := 0) hm ⟨a, cap, rfl, fun h => absurd h h0⟩ (fun i hi => absurd hi (by omega))

set_option maxHeartbeats 400000 in
theorem specPoolNew_any (x : Int) (w : World) : Calls Try.prog 9 #[.int .i64 x] w (NewPool (newP (many x)) w) := by
  by_cases h1 : x < 0 ∨ 200 < x
  · have hm : Hid (many x = 0) := if_neg (by omega)
    go_enter Try.func9, Try.ntmps9
    go_wp2
    refine wp_loop_rounds 1 ?_
    rw [rounds_succ]
    rcases h1 with h1 | h1
    · have h2 : ¬ 0 < x := by omega
      go_wp2
      refine bodyPost_ret (v := .agg #[.slice none 0 0, .slice none 0 0]) (by simp [results, Try.results9, go_sem]) rfl ?_
      rw [hm.out]
      exact ⟨_, _, rfl, zero_own (w := w), ((Below.refl _ _).alloc (Nat.le_refl _) _).alloc (by simp) _⟩
    · have h2 : 0 < x := by omega
      have h3 : ¬ x ≤ 200 := by omega
      go_wp2
      refine bodyPost_ret (v := .agg #[.slice none 0 0, .slice none 0 0]) (by simp [results, Try.results9, go_sem]) rfl ?_
      rw [hm.out]
      exact ⟨_, _, rfl, zero_own (w := w), ((Below.refl _ _).alloc (Nat.le_refl _) _).alloc (by simp) _⟩
  · obtain ⟨n, rfl⟩ := Int.eq_ofNat_of_zero_le (by omega : 0 ≤ x)
    have hn : (n : Int) ≤ 200 := by omega
    have hm : Hid (many (n : Int) = n) := (if_pos ⟨by omega, by omega⟩).trans (by simp)
    clear h1
    obtain ⟨i0, hi, hzz⟩ := Option.map_eq_some_iff.1 infoSlot
    simp only [Prod.mk.injEq] at hzz
    obtain ⟨hz, hs, hby⟩ := hzz
    have HI : Hid (Try.prog.info? 42 = some i0 ∧ i0.zero = some (.agg #[.int .i64 0, .slice none 0 0, .string ⟨#[]⟩]) ∧ i0.size = 3 ∧ i0.bytes = 48) := ⟨hi, hz, hs, hby⟩
    clear hi hz hs hby
    go_enter Try.func9, Try.ntmps9
    go_wp2
    go_loopw [4] (fun i wr => ∃ (k : Nat) (v : Value), k ≤ n ∧ i = .int .i64 k ∧ wr.heap[w.heap.size]? = some (.cells #[.slice none 0 0, .slice none 0 0] 26) ∧ wr.heap[w.heap.size + 1]? = some (.cells #[v, .slice none 0 0] 26) ∧
        wr.ownsRow (w.heap.size + 2) 42 3 v k (zl k) ∧ Below w.heap.size w wr ∧ w.heap.size + 2 ≤ wr.heap.size) (fun i _ => n - (intOf i).toNat)
    case atStart =>
      obtain ⟨t1, t2, t3⟩ := two_alloc w (.cells #[.slice none 0 0, .slice none 0 0] 26) (.cells #[.slice none 0 0, .slice none 0 0] 26)
      exact ⟨0, .slice none 0 0, Nat.zero_le _, rfl, t1, t2, World.ownsRow_nil _ _ _ _, ((Below.refl _ _).alloc (Nat.le_refl _) _).alloc (by simp) _, t3⟩
    case round =>
      obtain ⟨k, v, hk, rfl, hb0, hb1, hown, hb, hsz⟩ := hrel
      obtain ⟨a, cap, rfl⟩ := owns_form hown
      obtain ⟨hc0, hf0⟩ := cell_of_block (i := 0) (v := .slice a k cap) hb1 rfl
      obtain ⟨hc1, hf1⟩ := cell_of_block (i := 1) (v := .slice none 0 0) hb1 rfl
      obtain ⟨hc2, hf2⟩ := cell_of_block (i := 0) (v := .slice none 0 0) hb0 rfl
      obtain ⟨hc3, hf3⟩ := cell_of_block (i := 1) (v := .slice none 0 0) hb0 rfl
      have Hb : Hid (wr.heap[w.heap.size]? = some (.cells #[.slice none 0 0, .slice none 0 0] 26) ∧ wr.heap[w.heap.size + 1]? = some (.cells #[.slice a k cap, .slice none 0 0] 26)) := ⟨hb0, hb1⟩
      clear hb0 hb1
      by_cases hlt : k < n
      · have hlt' : (k : Int) < (n : Int) := by omega
        obtain ⟨hi, hz, hs, hby⟩ := HI.out
        have hu := Try.underlying23
        go_wp2_with (first
          | (at_builtin; refine wpList_append_own _ rfl _ _ 23 rfl (w.heap.size + 2) 42 i0 (.agg #[.int .i64 0, .slice none 0 0, .string ⟨#[]⟩]) 3 48 hu hi hz hs hby rfl (by decide) _ _ _ rfl (hown.alloc _) ⟨wr.heap.size, 0, none⟩ 1 1 [.int .i64 0, .slice none 0 0, .string ⟨#[]⟩] rfl rfl ?c1 ?c2 ?c3 ?c4 ?c5 ?_))
        case c1 =>
          intro j u hj
          match j, hj with
          | 0, hj => simp at hj; subst hj; simp [Addr.add]
          | 1, hj => simp at hj; subst hj; simp [Addr.add]
          | 2, hj => simp at hj; subst hj; simp [Addr.add]
        case c2 =>
          intro u hu
          simp at hu
          rcases hu with rfl | rfl | rfl <;> rfl
        case c3 => unfold maxLen; omega
        case c4 => omega
        case c5 => simp; omega
        intro v' w1 hown' hgrow hnil
        obtain ⟨a', cap', rfl⟩ := owns_form hown'
        have hbl : w1.heap[w.heap.size + 1]? = some (.cells #[.slice a k cap, .slice none 0 0] 26) := by
          rw [grown_block hgrow (hown.alloc _) (by omega) (by simp; omega), Below.heap_alloc _ _ _ (by omega)]; exact Hb.out.2
        have hbl0 : w1.heap[w.heap.size]? = some (.cells #[.slice none 0 0, .slice none 0 0] 26) := by
          rw [grown_block hgrow (hown.alloc _) (by omega) (by simp; omega), Below.heap_alloc _ _ _ (by omega)]; exact Hb.out.1
        obtain ⟨hd0, hg0⟩ := cell_of_block (i := 0) (v := .slice a k cap) hbl rfl
        have Hbl : Hid (w1.heap[w.heap.size]? = some (.cells #[.slice none 0 0, .slice none 0 0] 26) ∧ w1.heap[w.heap.size + 1]? = some (.cells #[.slice a k cap, .slice none 0 0] 26)) := ⟨hbl0, hbl⟩
        have hbn : Below w.heap.size w w1 := (hb.alloc hb.size _).grown hgrow (by simp; omega) (fun q hq => by have := (hown.alloc (.cells #[.int .i64 0, .slice none 0 0, .string ⟨#[]⟩] 42)).lt q hq; omega)
        have hs1 : w.heap.size + 2 ≤ w1.heap.size := by have := hgrow.size; simp at this; omega
        clear hbl hbl0 hc0 hf0 hc1 hf1 hc2 hf2 hc3 hf3 hnil
        go_wp2
        go_roundw
        case rel =>
          refine ⟨k + 1, .slice a' (k + 1) cap', by omega, by go_num, ?_, ?_, ownsRow_setCell_below hown' (by show w.heap.size + 1 < w.heap.size + 2; omega) _, hbn.setCell (by show w.heap.size ≤ w.heap.size + 1; omega) _, by simp; omega⟩
          · rw [Below.heap_setCell _ _ _ _ (by show w.heap.size ≠ w.heap.size + 1; omega)]; exact Hbl.out.1
          · exact heap_setCell_at _ Hbl.out.2
        case measure => simp [intOf]; omega
      · obtain rfl : k = n := by omega
        go_wp2
        refine bodyPost_ret (v := .agg #[.slice a k cap, .slice none 0 0]) ?_ rfl ?_
        · have z0 : ((wr.setCell ⟨w.heap.size, 0, none⟩ (.slice a k cap)).setCell ⟨w.heap.size, 1, none⟩ (.slice none 0 0)).cell? ⟨w.heap.size, 0, none⟩ = some (.slice a k cap) := (((show Cell wr w.heap.size 0 _ from ⟨hc2, hf2⟩).set (.slice a k cap)).other (b' := w.heap.size) (o' := 1) (.slice none 0 0) (Or.inr (by omega))).1
          have z1 : ((wr.setCell ⟨w.heap.size, 0, none⟩ (.slice a k cap)).setCell ⟨w.heap.size, 1, none⟩ (.slice none 0 0)).cell? ⟨w.heap.size, 1, none⟩ = some (.slice none 0 0) := (((show Cell wr w.heap.size 1 _ from ⟨hc3, hf3⟩).other (b' := w.heap.size) (o' := 0) (.slice a k cap) (Or.inr (by omega))).set (.slice none 0 0)).1
          simp [results, Try.results9, go_sem, z0, z1]
        rw [hm.out]
        refine ⟨_, _, rfl, rows_own (by omega) hown (fun b o u hb' hu => (hu.other _ (Or.inl (by omega))).other _ (Or.inl (by omega))) (by simp), (hb.setCell (Nat.le_refl _) _).setCell (Nat.le_refl _) _⟩

theorem cnt_zero (k0 : Int) (n : Nat) : cnt (fun _ => zeroS) k0 n = k0 + 2 * n := by
  induction n with
  | zero => simp [cnt]
  | succ n ih =>
    show cnt (fun _ => zeroS) k0 n + 2 + 2 * ((0 : Nat) : Int) = _
    rw [ih]
    omega

theorem many_le (x : Int) : many x ≤ 200 := by unfold many; split <;> omega

theorem end_new (x : Int) : endP (newP (many x)) 1 ≤ 1000000000000 ∧ 0 ≤ endP (newP (many x)) 1 := by
  have h := many_le x
  have e : endP (newP (many x)) 1 = 1 + 2 * ((many x : Nat) : Int) := by unfold endP newP; simp only [cnt_zero]; simp
  rw [e]
  omega

set_option maxHeartbeats 1000000 in
theorem poolNew_walk (x : Int) (w : World) : Calls Try.prog 4 #[.int .i64 x] w fun e w' => e = .returned (.bool true) ∧ Below w.heap.size w w' := by
  have hend := end_new x
  generalize hp : newP (many x) = p at hend
  generalize hq : endP p 1 = q at hend
  have Hp : Hid (newP (many x) = p) := hp
  have Hq : Hid (endP p 1 = q) := hq
  clear hp hq
  obtain ⟨hend1, hend2⟩ := hend
  have hq0 : ¬ q < 0 := by omega
  have hqq : (q != q) = false := by simp
  go_enter Try.func4, Try.ntmps4
  go_wp2_with fail
  refine (specPoolNew_any x _).mono ?_
  rintro e w1 ⟨v0, v1, rfl, hw0, hb1⟩
  rw [Hp.out] at hw0
  obtain ⟨a0, c0, a1, c1, rfl, rfl⟩ := hw0.form
  have Hw0 : Hid (PoolOwn w1 w.heap.size w1.heap.size (.slice a0 p.n c0) (.slice a1 p.hn c1) p) := hw0
  clear hw0
  go_wp2_with fail
  refine (implPoolNew_any x _).mono ?_
  rintro e w2 ⟨u0, u1, rfl, hg0, hb2⟩
  rw [Hp.out] at hg0
  obtain ⟨b0, d0, b1, d1, rfl, rfl⟩ := hg0.form
  have hsz1 : w.heap.size ≤ w1.heap.size := hb1.size
  have hsz2 : w1.heap.size + 1 ≤ w2.heap.size := by have := hb2.size; simpa using this
  have hB1 : Below w.heap.size w w2 := (hb1.alloc hb1.size _).trans (hb2.mono (by simp; omega))
  have Hx0 : Hid (Box2 w2 w1.heap.size (.slice a0 p.n c0) (.slice a1 p.hn c1)) := (Box2.new w1 _ _ _).below hb2
  have Hw1 : Hid (PoolOwn w2 w.heap.size w1.heap.size (.slice a0 p.n c0) (.slice a1 p.hn c1) p) := (Hw0.out.below (below_alloc _ _)).below hb2
  have hg0' : PoolOwn w2 (w1.heap.size + 1) w2.heap.size (.slice b0 p.n d0) (.slice b1 p.hn d1) p := by simpa using hg0
  have Hg0 : Hid (PoolOwn w2 (w1.heap.size + 1) w2.heap.size (.slice b0 p.n d0) (.slice b1 p.hn d1) p) := hg0'
  have hl2 : w1.heap.size < w2.heap.size := by omega
  clear hb1 hb2 hg0 hg0' Hw0
  -- the first comparison
  obtain ⟨⟨x0, x1⟩, ⟨x2, x3⟩⟩ := Hx0.out
  go_wp2_with fail
  have hal := below_alloc w2 (.cells #[.slice b0 p.n d0, .slice b1 p.hn d1] 26)
  refine (eqPool_any _ _ _ _ _ _ _ _ p p _ (Hg0.out.at.below hal) (Hw1.out.at.below hal)).mono ?_
  rintro e w3 ⟨⟨t, rfl, ht⟩, hb3⟩
  obtain rfl : t = true := ht.2 (PoolEq.refl p)
  clear ht x0 x1 x2 x3
  have Hx1 : Hid (Box2 w3 w1.heap.size (.slice a0 p.n c0) (.slice a1 p.hn c1)) := (Hx0.out.below hal).below hb3
  have Hx2 : Hid (Box2 w3 w2.heap.size (.slice b0 p.n d0) (.slice b1 p.hn d1)) := (Box2.new w2 _ _ _).below hb3
  have Hw2 : Hid (PoolOwn w3 w.heap.size w1.heap.size (.slice a0 p.n c0) (.slice a1 p.hn c1) p) := (Hw1.out.below hal).below hb3
  have Hg1 : Hid (PoolOwn w3 (w1.heap.size + 1) w2.heap.size (.slice b0 p.n d0) (.slice b1 p.hn d1) p) := (Hg0.out.below hal).below hb3
  have hB2 : Below w.heap.size w w3 := below_next (below_next hB1 hal) hb3
  have hsz3 : w2.heap.size + 1 ≤ w3.heap.size := by have := hb3.size; simpa using this
  clear hb3 hal Hx0 Hw1 Hg0 hB1
  -- the marks are laid
  obtain ⟨⟨x0, x1⟩, ⟨x2, x3⟩⟩ := Hx2.out
  go_wp2_with fail
  refine (markPool_own _ _ _ _ p 1 _ Hg1.out (by omega) (by rw [Hq.out]; omega)).mono ?_
  rintro e w4 ⟨rfl, hg2, ht4⟩
  rw [Hq.out]
  clear x0 x1 x2 x3
  have Hx3 : Hid (Box2 w4 w1.heap.size (.slice a0 p.n c0) (.slice a1 p.hn c1)) := Hx1.out.turned ht4 (by omega)
  have Hx4 : Hid (Box2 w4 w2.heap.size (.slice b0 p.n d0) (.slice b1 p.hn d1)) := Hx2.out.turned ht4 (by omega)
  have Hw3 : Hid (PoolOwn w4 w.heap.size w1.heap.size (.slice a0 p.n c0) (.slice a1 p.hn c1) p) := Hw2.out.turned ht4 (by omega)
  have Hg2 : Hid (PoolOwn w4 (w1.heap.size + 1) w2.heap.size (.slice b0 p.n d0) (.slice b1 p.hn d1) (markP p 1)) := hg2
  have hB3 : Below w.heap.size w w4 := hB2.trans (ht4.below (by omega) (by omega))
  have hsz4 : w2.heap.size + 1 ≤ w4.heap.size := by have := ht4.size; omega
  clear ht4 hg2 Hx1 Hx2 Hw2 Hg1 hB2 hsz3
  -- and looked for
  obtain ⟨⟨x0, x1⟩, ⟨x2, x3⟩⟩ := Hx4.out
  go_wp2_with fail
  refine (heldPool_own _ _ _ _ p 1 _ Hg2.out.at (by omega) (by rw [Hq.out]; omega)).mono ?_
  rintro e w5 ⟨rfl, hb5⟩
  rw [Hq.out]
  clear x0 x1 x2 x3
  have Hx5 : Hid (Box2 w5 w1.heap.size (.slice a0 p.n c0) (.slice a1 p.hn c1)) := Hx3.out.below hb5
  have Hx6 : Hid (Box2 w5 w2.heap.size (.slice b0 p.n d0) (.slice b1 p.hn d1)) := Hx4.out.below hb5
  have Hw4 : Hid (PoolOwn w5 w.heap.size w1.heap.size (.slice a0 p.n c0) (.slice a1 p.hn c1) p) := Hw3.out.below hb5
  have Hg3 : Hid (PoolOwn w5 (w1.heap.size + 1) w2.heap.size (.slice b0 p.n d0) (.slice b1 p.hn d1) (markP p 1)) := Hg2.out.below hb5
  have hB4 : Below w.heap.size w w5 := below_next hB3 hb5
  have hsz5 : w2.heap.size + 1 ≤ w5.heap.size := by have := hb5.size; omega
  clear hb5 Hx3 Hx4 Hw3 Hg2 hB3 hsz4
  -- a second answer
  go_wp2_with fail
  refine (implPoolNew_any x _).mono ?_
  rintro e w6 ⟨y0, y1, rfl, hh0, hb6⟩
  rw [Hp.out] at hh0
  obtain ⟨e0, g0, e1, g1, rfl, rfl⟩ := hh0.form
  have Hx7 : Hid (Box2 w6 w1.heap.size (.slice a0 p.n c0) (.slice a1 p.hn c1)) := Hx5.out.below hb6
  have Hx8 : Hid (Box2 w6 w2.heap.size (.slice b0 p.n d0) (.slice b1 p.hn d1)) := Hx6.out.below hb6
  have Hw5 : Hid (PoolOwn w6 w.heap.size w1.heap.size (.slice a0 p.n c0) (.slice a1 p.hn c1) p) := Hw4.out.below hb6
  have Hg4 : Hid (PoolOwn w6 (w1.heap.size + 1) w2.heap.size (.slice b0 p.n d0) (.slice b1 p.hn d1) (markP p 1)) := Hg3.out.below hb6
  have Hh0 : Hid (PoolOwn w6 w5.heap.size w6.heap.size (.slice e0 p.n g0) (.slice e1 p.hn g1) p) := hh0
  have hB5 : Below w.heap.size w w6 := below_next hB4 hb6
  have hsz6 : w2.heap.size + 1 ≤ w6.heap.size := by have := hb6.size; omega
  have hl6 : w1.heap.size < w6.heap.size := by omega
  clear hb6 hh0 Hx5 Hx6 Hw4 Hg3 hB4 hsz5
  obtain ⟨⟨x0, x1⟩, ⟨x2, x3⟩⟩ := Hx7.out
  go_wp2_with fail
  have hal := below_alloc w6 (.cells #[.slice e0 p.n g0, .slice e1 p.hn g1] 26)
  refine (eqPool_any _ _ _ _ _ _ _ _ p p _ (Hh0.out.at.below hal) (Hw5.out.at.below hal)).mono ?_
  rintro e w7 ⟨⟨t, rfl, ht⟩, hb7⟩
  obtain rfl : t = true := ht.2 (PoolEq.refl p)
  clear ht x0 x1 x2 x3
  have Hx9 : Hid (Box2 w7 w2.heap.size (.slice b0 p.n d0) (.slice b1 p.hn d1)) := (Hx8.out.below hal).below hb7
  have Hg5 : Hid (PoolOwn w7 (w1.heap.size + 1) w2.heap.size (.slice b0 p.n d0) (.slice b1 p.hn d1) (markP p 1)) := (Hg4.out.below hal).below hb7
  have hB6 : Below w.heap.size w w7 := below_next (below_next hB5 hal) hb7
  clear hb7 hal Hx7 Hx8 Hw5 Hg4 Hh0 hB5
  -- the marks are there still
  obtain ⟨⟨x0, x1⟩, ⟨x2, x3⟩⟩ := Hx9.out
  go_wp2_with fail
  refine (heldPool_own _ _ _ _ p 1 _ Hg5.out.at (by omega) (by rw [Hq.out]; omega)).mono ?_
  rintro e w8 ⟨rfl, hb8⟩
  rw [Hq.out]
  clear x0 x1 x2 x3
  have hB7 : Below w.heap.size w w8 := below_next hB6 hb8
  clear hb8
  go_wp2
  go_ret
  exact ⟨rfl, hB7⟩

theorem own : ownKnob Try.prog.godebug = none := by kernel_rfl

set_option maxRecDepth 100000 in
theorem poolNew_lifted (os : Os) (started : os.Started) (H : Type) (enc : TypeId × Value → H) :
    ReturnsInHanded {} Try.checked os 4 .any (Rows.fnExactPoolNewSpec.pre6 enc Try.prog Try.f4 Rows.fnExactPoolNewRow.domain false) (Rows.fnExactPoolNewSpec.post enc Try.prog Try.f4 false true false false) := by
  refine returnsInHanded_of_change (C := Try.checked) own started (by kernel_rfl) Try.func4
    (ChangeSpec.witness6 (enc := enc) (C := Try.checked) false ⟨#[], #[.int .i64 0], []⟩ 8 (by kernel_rfl) (by kernel_rfl) (by kernel_rfl) (by kernel_rfl)) ?_
  intro W base args ds gs before hval0 hW hcnd _
  have hval : ∀ (j : Nat) t v, Try.f4.params[j]? = some t → args[j]? = some v → Value.okWide Try.prog W .any base t v := hval0
  have hW' := hW
  obtain ⟨p, q, hA0, hV, rfl, hfz, hnd⟩ := hW
  have hA : DataW.TrodAll enc Try.prog W 0 (fun _ => true) true Try.f4.params.toList args.toList ds p := hA0
  rw [Try.params4] at hA hval
  obtain ⟨v0, vs0, d0, ds0, p0, q0, hargs, rfl, rfl, h0, r0⟩ := trodAll_cons hA
  obtain ⟨rfl, rfl, rfl⟩ := trodAll_nil r0
  obtain rfl : args = #[v0] := by cases args; simp_all
  obtain ⟨rfl, rfl⟩ := trodVars_none hV
  obtain ⟨a0, rfl, rfl, rfl, w0⟩ := open_int Try.underlying2 (hval 0 2 v0 rfl rfl) h0
  clear hA0 hval0
  refine (poolNew_walk a0 W).mono fun e W' ⟨he, bel⟩ => ?_
  subst he
  exact ⟨_, rfl, _, _, _, [], _, [], hW', trodAll_mk1 (shut_bool Try.underlying4 _), (trodAll_cons_mk (shut_int Try.underlying2 w0) trodAll_mk0), rfl, bel.frame _, fun h => by cases h⟩

theorem fnExactPoolNew_holds : Rows.FnExactPoolNewSaid :=
  OpenClaim.holds_of_wide 4 Try.f4 rfl rfl rfl rfl rfl rfl rfl ⟨rfl, rfl, rfl, rfl, rfl⟩ rfl rfl rfl rfl rfl (by kernel_rfl) Try.func4 (by kernel_rfl)
    (of_decide_eq_true (by kernel_rfl)) (by unfold Func.isWrapper; first | (rw [if_pos (by decide +kernel)]; kernel_rfl) | (rw [if_neg (by decide +kernel)]; exact ⟨rfl, rfl⟩))
    (fun os started H enc _ => poolNew_lifted os started H enc)

end Go.Proofs.Yteffacfdbhdppac
