/- What impl.PoolNew and spec.PoolNew answer (no law is proved here). -/
import Derived.Test.YtebegmdbpapfgaaG5
import Derived.ProofKit
import Derived.Test.YtebegmdbpapfgaaG4
import Derived.Test.YtebegmdbpapfgaaG2
namespace Go.Proofs.Ytebegmdbpapfgaa
open Go.RowKit
set_option linter.unusedVariables false

/-- How many slots PoolNew makes. -/
def many (x : Int) : Nat := if 0 ≤ x ∧ x ≤ 200 then x.toNat else 0

theorem infoSlot : (Try.prog.info? 49).map (fun i => (i.zero, i.size, i.bytes)) = some (some (.agg #[.int .i64 0, .slice none 0 0, .string ⟨#[]⟩]), 3, 48) := by kernel_rfl

def zrow (n : Nat) : Array Value := madeCells #[.int .i64 0, .slice none 0 0, .string ⟨#[]⟩] (n * 3)

theorem zrow_at (n i r : Nat) (hi : i < n) (hr : r < 3) : (zrow n)[0 + i * 3 + r]? = #[Value.int .i64 0, .slice none 0 0, .string ⟨#[]⟩][r]? := by
  unfold zrow madeCells
  have h1 : 0 + i * 3 + r < n * 3 := by omega
  have h2 : (0 + i * 3 + r) % 3 = r := by omega
  simp only [Array.getElem?_map, Array.getElem?_range, h1, if_true, Option.map_some]
  show some (#[Value.int .i64 0, .slice none 0 0, .string ⟨#[]⟩][(0 + i * 3 + r) % 3]!) = _
  rw [h2]
  rcases r with _ | _ | _ | r
  · rfl
  · rfl
  · rfl
  · omega

theorem makeSlots (n : Nat) (hn : n ≤ 200) (w : World) : (Instr.makeSlice 22 (.int .i64 (n : Int)) (.int .i64 (n : Int))).run Try.prog w = .ok (.slice (some ⟨w.heap.size, 0, none⟩) n n) (w.alloc (.cells (zrow n) 49)) := by
  obtain ⟨i, hi, hzz⟩ := Option.map_eq_some_iff.1 infoSlot
  simp only [Prod.mk.injEq] at hzz
  obtain ⟨hz, hs, hb⟩ := hzz
  have hr := run_make (P := Try.prog) w 22 49 i _ (by kernel_rfl) hi hz .i64 .i64 n n (by omega) (Int.le_refl _) (by rw [hb]; omega) (by omega)
  rw [hs] at hr
  simp only [Int.toNat_natCast] at hr
  exact hr

theorem zero_own {w w' : World} {lo hi : Nat} : PoolOwn w' lo hi (.slice none 0 0) (.slice none 0 0) (newP 0) :=
  newP_own (g := 0) (Nat.zero_le _) ⟨none, 0, rfl, Nat.le_refl _, fun h => absurd h (Nat.lt_irrefl _)⟩ (fun i h => absurd h (Nat.not_lt_zero _))

theorem made_own (w : World) (o : Obj) (n : Nat) (hn : n ≤ 200) : PoolOwn ((w.alloc o).alloc (.cells (zrow n) 49)) w.heap.size ((w.alloc o).alloc (.cells (zrow n) 49)).heap.size (.slice (some ⟨w.heap.size + 1, 0, none⟩) n n) (.slice none 0 0) (newP n) := by
  have hz : (w.alloc o).heap.size = w.heap.size + 1 := by simp
  refine newP_own (g := w.heap.size + 1) (by unfold maxLen; omega) ⟨_, n, rfl, Nat.le_refl _, fun _ => ⟨rfl, by omega, by simp⟩⟩ (fun i hi => ?_)
  have cell : ∀ r v, r < 3 → #[Value.int .i64 0, .slice none 0 0, .string ⟨#[]⟩][r]? = some v → Cell ((w.alloc o).alloc (.cells (zrow n) 49)) (w.heap.size + 1) (0 + i * 3 + r) v := by
    intro r v hr hv
    rw [← hz]
    refine ⟨?_, ?_⟩
    · rw [World.cell?_alloc_at (hn := rfl), zrow_at n i r hi hr]; exact hv
    · rw [World.frozen?_alloc_at (hn := rfl)]
  exact ⟨cell 0 _ (by omega) rfl, cell 1 _ (by omega) rfl, cell 2 _ (by omega) rfl⟩

set_option maxRecDepth 20000 in
set_option maxHeartbeats 400000 in
theorem implPoolNew_any (x : Int) (w : World) : Calls Try.prog 16 #[.int .i64 x] w (NewPool (newP (many x)) w) := by
  by_cases h1 : x < 0
  · have hm : Hid (many x = 0) := if_neg (by omega)
    go_enter Try.func16, Try.ntmps16
    go_wp2
    refine bodyPost_ret (v := .agg #[.slice none 0 0, .slice none 0 0]) (by simp [results, Try.results16, go_sem]) rfl ?_
    rw [hm.out]
    exact ⟨_, _, rfl, zero_own (w := w), (Below.refl _ _).alloc (Nat.le_refl _) _⟩
  · obtain ⟨n, rfl⟩ := Int.eq_ofNat_of_zero_le (by omega : 0 ≤ x)
    by_cases h2 : (200 : Int) < n
    · have hm : Hid (many (n : Int) = 0) := if_neg (by omega)
      go_enter Try.func16, Try.ntmps16
      go_wp2
      refine bodyPost_ret (v := .agg #[.slice none 0 0, .slice none 0 0]) (by simp [results, Try.results16, go_sem]) rfl ?_
      rw [hm.out]
      exact ⟨_, _, rfl, zero_own (w := w), (Below.refl _ _).alloc (Nat.le_refl _) _⟩
    · have hm : Hid (many (n : Int) = n) := (if_pos ⟨by omega, by omega⟩).trans (by simp)
      have hmk := makeSlots n (by omega)
      go_enter Try.func16, Try.ntmps16
      go_wp2
      refine bodyPost_ret (v := .agg #[.slice (some ⟨w.heap.size + 1, 0, none⟩) n n, .slice none 0 0]) (by simp [results, Try.results16, go_sem]) rfl ?_
      rw [hm.out]
      exact ⟨_, _, rfl, made_own _ _ _ (by omega), ((Below.refl _ _).alloc (Nat.le_refl _) _).alloc (by simp) _⟩

/-- The cells of k free slots. -/
def zl : Nat → List Value
  | 0 => []
  | k + 1 => zl k ++ [.int .i64 0, .slice none 0 0, .string ⟨#[]⟩]

theorem zl_len (k : Nat) : (zl k).length = k * 3 := by
  induction k with
  | zero => rfl
  | succ k ih => simp [zl, ih]; omega

theorem zl_at (k i r : Nat) (hi : i < k) (hr : r < 3) : (zl k)[i * 3 + r]? = [Value.int .i64 0, .slice none 0 0, .string ⟨#[]⟩][r]? := by
  induction k with
  | zero => omega
  | succ k ih =>
    unfold zl
    by_cases e : i < k
    · rw [List.getElem?_append_left (by rw [zl_len]; omega)]; exact ih e
    · obtain rfl : i = k := by omega
      rw [List.getElem?_append_right (by rw [zl_len]; omega), zl_len]
      congr 1; omega

theorem two_alloc (w : World) (o1 o2 : Obj) : ((w.alloc o1).alloc o2).heap[w.heap.size]? = some o1 ∧ ((w.alloc o1).alloc o2).heap[w.heap.size + 1]? = some o2 ∧ w.heap.size + 2 ≤ ((w.alloc o1).alloc o2).heap.size := by
  refine ⟨?_, ?_, by simp⟩
  · show ((w.heap.push o1).push o2)[w.heap.size]? = _
    simp only [Array.getElem?_push, Array.size_push]
    rw [if_neg (by omega), if_pos trivial]
  · show ((w.heap.push o1).push o2)[w.heap.size + 1]? = _
    simp only [Array.getElem?_push, Array.size_push]
    rw [if_pos trivial]

theorem rows_own {w wr w' : World} {n : Nat} {v : Value} (hn : n ≤ 200) (hown : wr.ownsRow (w.heap.size + 2) 49 3 v n (zl n)) (hc : ∀ b o u, w.heap.size + 2 ≤ b → Cell wr b o u → Cell w' b o u) (hs : wr.heap.size ≤ w'.heap.size) :
    PoolOwn w' w.heap.size w'.heap.size v (.slice none 0 0) (newP n) := by
  have hm : n ≤ maxLen := by unfold maxLen; omega
  by_cases h0 : 0 < n
  · obtain ⟨g, cap, rfl, hcp, hg, hlt, hcell⟩ := owns_cell hown h0
    refine newP_own (g := g) hm ⟨_, cap, rfl, hcp, fun _ => ⟨rfl, by omega, by omega⟩⟩ (fun i hi => ?_)
    have cell : ∀ r u, r < 3 → [Value.int .i64 0, .slice none 0 0, .string ⟨#[]⟩][r]? = some u → Cell w' g (0 + i * 3 + r) u := fun r u hr hu => by
      rw [Nat.zero_add]
      exact hc g _ u hg (hcell _ u (by rw [zl_at n i r hi hr]; exact hu))
    exact ⟨cell 0 _ (by omega) rfl, cell 1 _ (by omega) rfl, cell 2 _ (by omega) rfl⟩
  · obtain ⟨a, cap, rfl, hcp⟩ := owns_form hown
    exact newP_own (g := 0) hm ⟨a, cap, rfl, hcp, fun h => absurd h h0⟩ (fun i hi => absurd hi (by omega))

set_option maxRecDepth 20000 in
set_option maxHeartbeats 400000 in
theorem specPoolNew_any (x : Int) (w : World) : Calls Try.prog 15 #[.int .i64 x] w (NewPool (newP (many x)) w) := by
  by_cases h1 : x < 0 ∨ 200 < x
  · have hm : Hid (many x = 0) := if_neg (by omega)
    go_enter Try.func15, Try.ntmps15
    go_wp2
    refine wp_loop_rounds 1 ?_
    rw [rounds_succ]
    rcases h1 with h1 | h1
    · have h2 : ¬ 0 < x := by omega
      go_wp2
      refine bodyPost_ret (v := .agg #[.slice none 0 0, .slice none 0 0]) (by simp [results, Try.results15, go_sem]) rfl ?_
      rw [hm.out]
      exact ⟨_, _, rfl, zero_own (w := w), ((Below.refl _ _).alloc (Nat.le_refl _) _).alloc (by simp) _⟩
    · have h2 : 0 < x := by omega
      have h3 : ¬ x ≤ 200 := by omega
      go_wp2
      refine bodyPost_ret (v := .agg #[.slice none 0 0, .slice none 0 0]) (by simp [results, Try.results15, go_sem]) rfl ?_
      rw [hm.out]
      exact ⟨_, _, rfl, zero_own (w := w), ((Below.refl _ _).alloc (Nat.le_refl _) _).alloc (by simp) _⟩
  · obtain ⟨n, rfl⟩ := Int.eq_ofNat_of_zero_le (by omega : 0 ≤ x)
    have hn : (n : Int) ≤ 200 := by omega
    have hm : Hid (many (n : Int) = n) := (if_pos ⟨by omega, by omega⟩).trans (by simp)
    clear h1
    obtain ⟨i0, hi, hzz⟩ := Option.map_eq_some_iff.1 infoSlot
    simp only [Prod.mk.injEq] at hzz
    obtain ⟨hz, hs, hby⟩ := hzz
    have HI : Hid (Try.prog.info? 49 = some i0 ∧ i0.zero = some (.agg #[.int .i64 0, .slice none 0 0, .string ⟨#[]⟩]) ∧ i0.size = 3 ∧ i0.bytes = 48) := ⟨hi, hz, hs, hby⟩
    clear hi hz hs hby
    go_enter Try.func15, Try.ntmps15
    go_wp2
    go_loopw [4] (fun i wr => ∃ (k : Nat) (v : Value), k ≤ n ∧ i = .int .i64 k ∧ wr.heap[w.heap.size]? = some (.cells #[.slice none 0 0, .slice none 0 0] 25) ∧ wr.heap[w.heap.size + 1]? = some (.cells #[v, .slice none 0 0] 25) ∧
        wr.ownsRow (w.heap.size + 2) 49 3 v k (zl k) ∧ Below w.heap.size w wr ∧ w.heap.size + 2 ≤ wr.heap.size) (fun i _ => n - (intOf i).toNat)
    case atStart =>
      obtain ⟨t1, t2, t3⟩ := two_alloc w (.cells #[.slice none 0 0, .slice none 0 0] 25) (.cells #[.slice none 0 0, .slice none 0 0] 25)
      exact ⟨0, .slice none 0 0, Nat.zero_le _, rfl, t1, t2, World.ownsRow_nil _ _ _ _, ((Below.refl _ _).alloc (Nat.le_refl _) _).alloc (by simp) _, t3⟩
    case round =>
      obtain ⟨k, v, hk, rfl, hb0, hb1, hown, hb, hsz⟩ := hrel
      obtain ⟨a, cap, rfl, _⟩ := owns_form hown
      obtain ⟨hc0, hf0⟩ := cell_of_block (i := 0) (v := .slice a k cap) hb1 rfl
      obtain ⟨hc1, hf1⟩ := cell_of_block (i := 1) (v := .slice none 0 0) hb1 rfl
      obtain ⟨hc2, hf2⟩ := cell_of_block (i := 0) (v := .slice none 0 0) hb0 rfl
      obtain ⟨hc3, hf3⟩ := cell_of_block (i := 1) (v := .slice none 0 0) hb0 rfl
      have Hb : Hid (wr.heap[w.heap.size]? = some (.cells #[.slice none 0 0, .slice none 0 0] 25) ∧ wr.heap[w.heap.size + 1]? = some (.cells #[.slice a k cap, .slice none 0 0] 25)) := ⟨hb0, hb1⟩
      clear hb0 hb1
      by_cases hlt : k < n
      · have hlt' : (k : Int) < (n : Int) := by omega
        obtain ⟨hi, hz, hs, hby⟩ := HI.out
        have hu := Try.underlying22
        go_wp2_with (first
          | (at_builtin; refine wpList_append_own _ rfl _ _ 22 rfl (w.heap.size + 2) 49 i0 (.agg #[.int .i64 0, .slice none 0 0, .string ⟨#[]⟩]) 3 48 hu hi hz hs hby rfl (by decide) _ _ _ rfl (hown.alloc _) ⟨wr.heap.size, 0, none⟩ 1 1 [.int .i64 0, .slice none 0 0, .string ⟨#[]⟩] rfl rfl ?c1 ?c2 ?c3 ?c4 ?c5 ?_))
        case c1 =>
          intro j u hj
          match j, hj with
          | 0, hj => simp at hj; subst hj; simp [Addr.add]
          | 1, hj => simp at hj; subst hj; simp [Addr.add]
          | 2, hj => simp at hj; subst hj; simp [Addr.add]
        case c2 =>
          intro u hu
          simp at hu
          rcases hu with rfl | rfl | rfl <;> rfl
        case c3 => unfold maxLen; omega
        case c4 => omega
        case c5 => simp; omega
        intro v' w1 hown' hgrow hnil
        obtain ⟨a', cap', rfl, _⟩ := owns_form hown'
        have hbl : w1.heap[w.heap.size + 1]? = some (.cells #[.slice a k cap, .slice none 0 0] 25) := by
          rw [grown_block hgrow (hown.alloc _) (by omega) (by simp; omega), Below.heap_alloc _ _ _ (by omega)]; exact Hb.out.2
        have hbl0 : w1.heap[w.heap.size]? = some (.cells #[.slice none 0 0, .slice none 0 0] 25) := by
          rw [grown_block hgrow (hown.alloc _) (by omega) (by simp; omega), Below.heap_alloc _ _ _ (by omega)]; exact Hb.out.1
        obtain ⟨hd0, hg0⟩ := cell_of_block (i := 0) (v := .slice a k cap) hbl rfl
        have Hbl : Hid (w1.heap[w.heap.size]? = some (.cells #[.slice none 0 0, .slice none 0 0] 25) ∧ w1.heap[w.heap.size + 1]? = some (.cells #[.slice a k cap, .slice none 0 0] 25)) := ⟨hbl0, hbl⟩
        have hbn : Below w.heap.size w w1 := (hb.alloc hb.size _).grown hgrow (by simp; omega) (fun q hq => by have := (hown.alloc (.cells #[.int .i64 0, .slice none 0 0, .string ⟨#[]⟩] 49)).lt q hq; omega)
        have hs1 : w.heap.size + 2 ≤ w1.heap.size := by have := hgrow.size; simp at this; omega
        clear hbl hbl0 hc0 hf0 hc1 hf1 hc2 hf2 hc3 hf3 hnil
        go_wp2
        go_roundw
        case rel =>
          refine ⟨k + 1, .slice a' (k + 1) cap', by omega, by go_num, ?_, ?_, ownsRow_setCell_below hown' (by show w.heap.size + 1 < w.heap.size + 2; omega) _, hbn.setCell (by show w.heap.size ≤ w.heap.size + 1; omega) _, by simp; omega⟩
          · rw [Below.heap_setCell _ _ _ _ (by show w.heap.size ≠ w.heap.size + 1; omega)]; exact Hbl.out.1
          · exact heap_setCell_at _ Hbl.out.2
        case measure => simp [intOf]; omega
      · obtain rfl : k = n := by omega
        go_wp2
        refine bodyPost_ret (v := .agg #[.slice a k cap, .slice none 0 0]) ?_ rfl ?_
        · have z0 : ((wr.setCell ⟨w.heap.size, 0, none⟩ (.slice a k cap)).setCell ⟨w.heap.size, 1, none⟩ (.slice none 0 0)).cell? ⟨w.heap.size, 0, none⟩ = some (.slice a k cap) := (((show Cell wr w.heap.size 0 _ from ⟨hc2, hf2⟩).set (.slice a k cap)).other (b' := w.heap.size) (o' := 1) (.slice none 0 0) (Or.inr (by omega))).1
          have z1 : ((wr.setCell ⟨w.heap.size, 0, none⟩ (.slice a k cap)).setCell ⟨w.heap.size, 1, none⟩ (.slice none 0 0)).cell? ⟨w.heap.size, 1, none⟩ = some (.slice none 0 0) := (((show Cell wr w.heap.size 1 _ from ⟨hc3, hf3⟩).other (b' := w.heap.size) (o' := 0) (.slice a k cap) (Or.inr (by omega))).set (.slice none 0 0)).1
          simp [results, Try.results15, go_sem, z0, z1]
        rw [hm.out]
        refine ⟨_, _, rfl, rows_own (by omega) hown (fun b o u hb' hu => (hu.other _ (Or.inl (by omega))).other _ (Or.inl (by omega))) (by simp), (hb.setCell (Nat.le_refl _) _).setCell (Nat.le_refl _) _⟩

theorem cntSl_zero (k0 : Int) (n : Nat) : cntSl (fun _ => zeroS) k0 n = k0 + 2 * n := by
  induction n with
  | zero => simp [cntSl]
  | succ n ih =>
    show cntSl (fun _ => zeroS) k0 n + 2 + 2 * ((0 : Nat) : Int) = _
    rw [ih]
    omega

theorem many_le (x : Int) : many x ≤ 200 := by unfold many; split <;> omega

theorem end_new (x : Int) : endP (newP (many x)) 1 ≤ 1000000000000 ∧ 0 ≤ endP (newP (many x)) 1 := by
  have h := many_le x
  have e : endP (newP (many x)) 1 = 1 + 2 * ((many x : Nat) : Int) := by unfold endP newP; simp only [cntSl_zero]; simp
  rw [e]
  omega

end Go.Proofs.Ytebegmdbpapfgaa

namespace Go.Proofs.Ytebegmdbpapfgaa
open Go.ChangeShapes Go.WideShapes Go.ChangeAt Go.RowKit
set_option linter.unusedVariables false

/-- The Time and the Next of a new world. -/
def stamp (x : Int) : Int := if 0 ≤ x ∧ x ≤ 200 then 1 else 0
/-- The answer is a new world of no sets and no snapshots. -/
def NewW0 (p : PoolD) (t : Int) (w : World) (e : Ending) (w' : World) : Prop := ∃ v0 v1, e = .returned (.agg #[v0, v1, .int .i64 t, .int .i64 t, .slice none 0 0, .slice none 0 0]) ∧ PoolOwn w' w.heap.size w'.heap.size v0 v1 p ∧ Below w.heap.size w w'

set_option maxRecDepth 20000 in
set_option maxHeartbeats 400000 in
theorem implWorldNew_any (x : Int) (w : World) : Calls Try.prog 10 #[.int .i64 x] w (NewW0 (newP (many x)) (stamp x) w) := by
  have hal := below_alloc w (.cells #[.slice none 0 0, .slice none 0 0, .int .i64 0, .int .i64 0, .slice none 0 0, .slice none 0 0] 29)
  by_cases h1 : x < 0 ∨ 200 < x
  · have hm : Hid (many x = 0) := if_neg (by omega)
    have hs : Hid (stamp x = 0) := if_neg (by omega)
    have Hal := hideM hal
    clear hal
    rcases h1 with h1 | h1
    · go_enter Try.func10, Try.ntmps10
      go_wp2
      refine bodyPost_ret (v := .agg #[.slice none 0 0, .slice none 0 0, .int .i64 0, .int .i64 0, .slice none 0 0, .slice none 0 0]) (by simp [results, Try.results10, go_sem]) rfl ?_
      rw [hm.out, hs.out]
      exact ⟨_, _, rfl, zero_own (w := w), (by first | exact Hal.out | exact Hal.out.drew)⟩
    · have h2 : ¬ x < 0 := by omega
      go_enter Try.func10, Try.ntmps10
      go_wp2
      refine bodyPost_ret (v := .agg #[.slice none 0 0, .slice none 0 0, .int .i64 0, .int .i64 0, .slice none 0 0, .slice none 0 0]) (by simp [results, Try.results10, go_sem]) rfl ?_
      rw [hm.out, hs.out]
      exact ⟨_, _, rfl, zero_own (w := w), (by first | exact Hal.out | exact Hal.out.drew)⟩
  · have h2 : ¬ x < 0 := by omega
    have h3 : ¬ 200 < x := by omega
    have hs : Hid (stamp x = 1) := if_pos (by omega)
    clear h1
    go_enter Try.func10, Try.ntmps10
    go_wp2_with fail
    refine (implPoolNew_any x _).mono ?_
    rintro e w1 ⟨v0, v1, rfl, ho, hb⟩
    have HB := hideM ((Box6.new w (.slice none 0 0) (.slice none 0 0) (.int .i64 0) (.int .i64 0) (.slice none 0 0) (.slice none 0 0) 29).below hb)
    have hB := below_next hal hb
    obtain ⟨a, c, a', c', rfl, rfl⟩ := ho.form
    rw [World.size_alloc] at ho
    have HO := hideM ho
    clear ho hb hal
    obtain ⟨⟨x0, x1⟩, ⟨x2, x3⟩, ⟨x4, x5⟩, ⟨x6, x7⟩, ⟨x8, x9⟩, ⟨x10, x11⟩⟩ := HB.out
    go_wp2
    obtain ⟨⟨y0, _⟩, ⟨y1, _⟩, ⟨y2, _⟩, ⟨y3, _⟩, ⟨y4, _⟩, ⟨y5, _⟩⟩ := HB.out.put (.slice a (newP (many x)).n c) (.slice a' (newP (many x)).hn c') (.int .i64 1) (.int .i64 1) (.slice none 0 0) (.slice none 0 0)
    have ht := Turned.put6 w1 w.heap.size (.slice a (newP (many x)).n c) (.slice a' (newP (many x)).hn c') (.int .i64 1) (.int .i64 1) (.slice none 0 0) (.slice none 0 0)
    refine bodyPost_ret (v := .agg #[.slice a (newP (many x)).n c, .slice a' (newP (many x)).hn c', .int .i64 1, .int .i64 1, .slice none 0 0, .slice none 0 0]) (by simp [results, Try.results10, go_sem, y0, y1, y2, y3, y4, y5]) rfl ?_
    rw [hs.out]
    exact ⟨_, _, rfl, (HO.out.turned ht (by omega)).wide (by omega) (by exact ht.size), hB.trans (ht.below hB.size (by intro k hk; omega))⟩

set_option maxRecDepth 20000 in
set_option maxHeartbeats 400000 in
theorem l01Is_any' (x a b : Int) (w : World) : Calls Try.prog 14 #[.int .i64 x, .int .i64 a, .int .i64 b] w fun e w' => BoolIs (a ≤ x ∧ x ≤ b) e ∧ w' = w := by
  by_cases h1 : a ≤ x
  · by_cases h2 : x ≤ b
    · go_enter Try.func14, Try.ntmps14
      go_wp2
      go_ret
      exact ⟨BoolIs.yes ⟨h1, h2⟩, rfl⟩
    · go_enter Try.func14, Try.ntmps14
      go_wp2
      go_ret
      exact ⟨BoolIs.no (fun h => by omega), rfl⟩
  · go_enter Try.func14, Try.ntmps14
    go_wp2
    go_ret
    exact ⟨BoolIs.no (fun h => by omega), rfl⟩

set_option maxRecDepth 20000 in
set_option maxHeartbeats 400000 in
theorem specWorldNew_any (x : Int) (w : World) : Calls Try.prog 9 #[.int .i64 x] w (NewW0 (newP (many x)) (stamp x) w) := by
  have hal := below_alloc w (.cells #[.slice none 0 0, .slice none 0 0, .int .i64 0, .int .i64 0, .slice none 0 0, .slice none 0 0] 29)
  by_cases h1 : 0 ≤ x ∧ x ≤ 200
  · have hs : Hid (stamp x = 1) := if_pos (by omega)
    have H1 := hideM h1
    clear h1
    go_enter Try.func9, Try.ntmps9
    go_wp2_with (first | (go_at_call 14; refine (l01Is_any' x 0 200 _).mono ?_; rintro e w0 ⟨⟨t0, rfl, ht0⟩, rfl⟩; obtain rfl : t0 = true := ht0.2 H1.out; clear ht0) | fail)
    go_wp2_with fail
    refine (specPoolNew_any x _).mono ?_
    rintro e w1 ⟨v0, v1, rfl, ho, hb⟩
    have HB := hideM ((Box6.new w (.slice none 0 0) (.slice none 0 0) (.int .i64 0) (.int .i64 0) (.slice none 0 0) (.slice none 0 0) 29).below hb)
    have hB := below_next hal hb
    obtain ⟨a, c, a', c', rfl, rfl⟩ := ho.form
    rw [World.size_alloc] at ho
    have HO := hideM ho
    clear ho hb hal
    obtain ⟨⟨x0, x1⟩, ⟨x2, x3⟩, ⟨x4, x5⟩, ⟨x6, x7⟩, ⟨x8, x9⟩, ⟨x10, x11⟩⟩ := HB.out
    go_wp2
    obtain ⟨⟨y0, _⟩, ⟨y1, _⟩, ⟨y2, _⟩, ⟨y3, _⟩, ⟨y4, _⟩, ⟨y5, _⟩⟩ := HB.out.put (.slice a (newP (many x)).n c) (.slice a' (newP (many x)).hn c') (.int .i64 1) (.int .i64 1) (.slice none 0 0) (.slice none 0 0)
    have ht := Turned.put6 w1 w.heap.size (.slice a (newP (many x)).n c) (.slice a' (newP (many x)).hn c') (.int .i64 1) (.int .i64 1) (.slice none 0 0) (.slice none 0 0)
    refine bodyPost_ret (v := .agg #[.slice a (newP (many x)).n c, .slice a' (newP (many x)).hn c', .int .i64 1, .int .i64 1, .slice none 0 0, .slice none 0 0]) (by simp [results, Try.results9, go_sem, y0, y1, y2, y3, y4, y5]) rfl ?_
    rw [hs.out]
    exact ⟨_, _, rfl, (HO.out.turned ht (by omega)).wide (by omega) (by exact ht.size), hB.trans (ht.below hB.size (by intro k hk; omega))⟩
  · have hm : Hid (many x = 0) := if_neg (by omega)
    have hs : Hid (stamp x = 0) := if_neg (by omega)
    have H1 := hideM h1
    have Hal := hideM hal
    clear h1 hal
    go_enter Try.func9, Try.ntmps9
    go_wp2_with (first | (go_at_call 14; refine (l01Is_any' x 0 200 _).mono ?_; rintro e w0 ⟨⟨t0, rfl, ht0⟩, rfl⟩; obtain rfl : t0 = false := Bool.eq_false_iff.2 (fun h => H1.out (ht0.1 h)); clear ht0) | fail)
    go_wp2
    refine bodyPost_ret (v := .agg #[.slice none 0 0, .slice none 0 0, .int .i64 0, .int .i64 0, .slice none 0 0, .slice none 0 0]) (by simp [results, Try.results9, go_sem]) rfl ?_
    rw [hm.out, hs.out]
    exact ⟨_, _, rfl, zero_own (w := w), (by first | exact Hal.out | exact Hal.out.drew)⟩

set_option maxRecDepth 20000 in
set_option maxHeartbeats 400000 in
theorem eqSetS_nil (w : World) : Calls Try.prog 18 #[.slice none 0 0, .slice none 0 0] w fun e w' => e = .returned (.bool true) ∧ w' = w := by
  go_enter Try.func18, Try.ntmps18
  go_wp2
  refine wp_loop_rounds 1 ?_
  rw [rounds_succ]
  go_wp2
  go_ret
  exact ⟨rfl, rfl⟩

set_option maxRecDepth 20000 in
set_option maxHeartbeats 400000 in
theorem eqSnapS_nil (w : World) : Calls Try.prog 19 #[.slice none 0 0, .slice none 0 0] w fun e w' => e = .returned (.bool true) ∧ w' = w := by
  go_enter Try.func19, Try.ntmps19
  go_wp2
  refine wp_loop_rounds 1 ?_
  rw [rounds_succ]
  go_wp2
  go_ret
  exact ⟨rfl, rfl⟩

set_option maxRecDepth 20000 in
set_option maxHeartbeats 1000000 in
theorem eqWorld_nil (v0 v1 u0 u1 : Value) (lo hi lo' hi' : Nat) (p : PoolD) (t t' : Int) (w : World) (h1 : PoolAt w lo hi v0 v1 p) (h2 : PoolAt w lo' hi' u0 u1 p) :
    Calls Try.prog 11 #[.agg #[v0, v1, .int .i64 t, .int .i64 t', .slice none 0 0, .slice none 0 0], .agg #[u0, u1, .int .i64 t, .int .i64 t', .slice none 0 0, .slice none 0 0]] w fun e w' => e = .returned (.bool true) ∧ Below w.heap.size w w' := by
  obtain ⟨a, c, a', c', rfl, rfl⟩ := h1.form
  obtain ⟨b, d, b', d', rfl, rfl⟩ := h2.form
  have H1 := hideM h1
  have H2 := hideM h2
  clear h1 h2
  have hbb := below_next (below_alloc w (.cells #[.slice a p.n c, .slice a' p.hn c', .int .i64 t, .int .i64 t', .slice none 0 0, .slice none 0 0] 29)) (below_alloc _ (.cells #[.slice b p.n d, .slice b' p.hn d', .int .i64 t, .int .i64 t', .slice none 0 0, .slice none 0 0] 29))
  have HX := hideM ((Box6.new w (.slice a p.n c) (.slice a' p.hn c') (.int .i64 t) (.int .i64 t') (.slice none 0 0) (.slice none 0 0) 29).below (below_alloc _ (.cells #[.slice b p.n d, .slice b' p.hn d', .int .i64 t, .int .i64 t', .slice none 0 0, .slice none 0 0] 29)))
  have HY : Hid (Box6 ((w.alloc (.cells #[.slice a p.n c, .slice a' p.hn c', .int .i64 t, .int .i64 t', .slice none 0 0, .slice none 0 0] 29)).alloc (.cells #[.slice b p.n d, .slice b' p.hn d', .int .i64 t, .int .i64 t', .slice none 0 0, .slice none 0 0] 29)) (w.heap.size + 1) (.slice b p.n d) (.slice b' p.hn d') (.int .i64 t) (.int .i64 t') (.slice none 0 0) (.slice none 0 0)) := by
    have := Box6.new (w.alloc (.cells #[.slice a p.n c, .slice a' p.hn c', .int .i64 t, .int .i64 t', .slice none 0 0, .slice none 0 0] 29)) (.slice b p.n d) (.slice b' p.hn d') (.int .i64 t) (.int .i64 t') (.slice none 0 0) (.slice none 0 0) 29
    rw [World.size_alloc] at this
    exact this
  go_enter Try.func11, Try.ntmps11
  go_wp2_with fail
  generalize (w.alloc (.cells #[.slice a p.n c, .slice a' p.hn c', .int .i64 t, .int .i64 t', .slice none 0 0, .slice none 0 0] 29)).alloc (.cells #[.slice b p.n d, .slice b' p.hn d', .int .i64 t, .int .i64 t', .slice none 0 0, .slice none 0 0] 29) = W at hbb HX HY ⊢
  refine (eqPool_any _ _ _ _ _ _ _ _ p p _ (H1.out.below hbb) (H2.out.below hbb)).mono ?_
  rintro e w1 ⟨⟨t1, rfl, ht1⟩, hb1⟩
  obtain rfl : t1 = true := ht1.2 (PoolEq.refl p)
  have hB := below_next hbb hb1
  obtain ⟨⟨x0, x1⟩, ⟨x2, x3⟩, ⟨x4, x5⟩, ⟨x6, x7⟩, ⟨x8, x9⟩, ⟨x10, x11⟩⟩ := HX.out.below hb1
  obtain ⟨⟨y0, y1⟩, ⟨y2, y3⟩, ⟨y4, y5⟩, ⟨y6, y7⟩, ⟨y8, y9⟩, ⟨y10, y11⟩⟩ := HY.out.below hb1
  clear hbb ht1 hb1
  have e1 : (t != t) = false := by simp
  have e2 : (t' != t') = false := by simp
  go_wp2_with (first | (go_at_call 18; refine (eqSetS_nil _).mono ?_; rintro e w2 ⟨rfl, rfl⟩) | (go_at_call 19; refine (eqSnapS_nil _).mono ?_; rintro e w3 ⟨rfl, rfl⟩) | fail)
  go_ret
  exact ⟨rfl, hB⟩

/-- A new world. -/
def newW (x : Int) : WorldD := { pool := newP (many x), time := stamp x, next := stamp x, sn := 0, sets := fun _ => ⟨⟨#[]⟩, 0, 0, 0, 0, 0, fun _ => 0, fun _ => 0⟩, pn := 0, snaps := fun _ => ⟨0, ⟨#[]⟩, ⟨#[]⟩, 0, 0, 0, 0, 0, fun _ => 0, fun _ => 0⟩ }
theorem NewW0.world {x : Int} {w w' : World} {e : Ending} (h : NewW0 (newP (many x)) (stamp x) w e w') : ∃ v0 v1, e = .returned (worldV v0 v1 (.slice none 0 0) (.slice none 0 0) (newW x)) ∧ WorldOwn w' w.heap.size w'.heap.size v0 v1 (.slice none 0 0) (.slice none 0 0) (newW x) ∧ Below w.heap.size w w' := by
  obtain ⟨v0, v1, he, hp, hb⟩ := h
  refine ⟨v0, v1, he, ⟨fun k => w.heap.size ≤ k ∧ k < w'.heap.size, fun _ => False, fun _ => False, ⟨hp.isIn (fun k h1 h2 => ⟨h1, h2⟩), ?_, ?_, fun _ _ h => h, fun _ _ h => h, fun _ h => h.elim⟩, fun k hk => ?_⟩, hb⟩
  · exact ⟨0, fun _ => 0, fun _ => .slice none 0 0, ⟨Nat.zero_le _, none, 0, rfl, Nat.le_refl _, fun h => absurd h (Nat.lt_irrefl _)⟩, fun i j hi => absurd hi (Nat.not_lt_zero _), fun k hk => by
      rcases hk with ⟨h, _⟩ | ⟨i, h, _⟩
      · exact absurd h (Nat.lt_irrefl _)
      · exact absurd h (Nat.not_lt_zero _)⟩
  · exact ⟨0, fun _ => 0, fun _ => .slice none 0 0, ⟨Nat.zero_le _, none, 0, rfl, Nat.le_refl _, fun h => absurd h (Nat.lt_irrefl _)⟩, fun i j hi => absurd hi (Nat.not_lt_zero _), fun k hk => by
      rcases hk with ⟨h, _⟩ | ⟨i, h, _⟩
      · exact absurd h (Nat.lt_irrefl _)
      · exact absurd h (Nat.not_lt_zero _)⟩
  · rcases hk with h | h | h
    · exact h
    · exact h.elim
    · exact h.elim

end Go.Proofs.Ytebegmdbpapfgaa
