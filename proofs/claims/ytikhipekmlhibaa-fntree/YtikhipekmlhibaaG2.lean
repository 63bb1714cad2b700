/- What spec.PoolRight and the functions that it calls answer (l01Free, l01Is, l01Birth, l01None, l01Points, l01Fits, l01Has): as plain facts on the pool. -/
import Derived.Test.YtikhipekmlhibaaRows
import Derived.Test.YtikhipekmlhibaaG1
import Derived.Deep.RegionHeld3
import Derived.Deep.QuietTactic
import Derived.BigQuiet
import Derived.Laws.BytesArg
namespace Go.Proofs.Ytikhipekmlhibaa
open Go.RowKit
set_option linter.unusedVariables false

/-- The first n of a slice's numbers. -/
theorem IntsAt.take {w : World} {lo hi : Nat} {a : Option Addr} {n c m c' : Nat} {f : Nat → Int} (h : IntsAt w lo hi (.slice a n c) n f) (hm : m ≤ n) (hc : m ≤ c') : IntsAt w lo hi (.slice a m c') m f := by
  obtain ⟨h0, a2, cap, hv, hcc, hx⟩ := h
  simp only [Value.slice.injEq, true_and] at hv
  obtain ⟨rfl, rfl⟩ := hv
  refine ⟨by omega, a, c', rfl, hc, fun h0 => ?_⟩
  obtain ⟨b, off, ha, h1, h2, h3⟩ := hx (by omega)
  exact ⟨b, off, ha, h1, h2, fun i hi => h3 i (by omega)⟩

/-- The cells of a slot, as they are read. -/
structure SlotCells (w : World) (b o : Nat) (lo hi : Nat) (ka : Option Addr) (kc : Nat) (s : SlotD) : Prop where
  c0 : w.cell? ⟨b, o, none⟩ = some (.int .i64 s.birth)
  c1 : w.cell? ⟨b, o + 1, none⟩ = some (.slice ka s.kn kc)
  c2 : w.cell? ⟨b, o + 2, none⟩ = some (.string s.data)
  slot : SlotAt w lo hi (.int .i64 s.birth) (.slice ka s.kn kc) (.string s.data) s

theorem SlotCells.below {w w' : World} {b o lo hi : Nat} {ka : Option Addr} {kc : Nat} {s : SlotD} (h : SlotCells w b o lo hi ka kc s) (t : Below w.heap.size w w') : SlotCells w' b o lo hi ka kc s :=
  ⟨(t.cell (lt_of_cell h.c0)).trans h.c0, (t.cell (lt_of_cell h.c1)).trans h.c1, (t.cell (lt_of_cell h.c2)).trans h.c2, h.slot.below t⟩

theorem SlotsAt.cells {w : World} {lo hi : Nat} {a : Option Addr} {n c : Nat} {f : Nat → SlotD} (h : SlotsAt w lo hi (.slice a n c) n f) {i : Nat} (hi' : i < n) :
    ∃ b off ka kc, a = some ⟨b, off, none⟩ ∧ SlotCells w b (off + i * 3) lo hi ka kc (f i) := by
  obtain ⟨h0, a2, cap, hv, hcc, hx⟩ := h
  simp only [Value.slice.injEq, true_and] at hv
  obtain ⟨rfl, rfl⟩ := hv
  obtain ⟨b, off, ha, h1, h2, h3⟩ := hx (by omega)
  obtain ⟨v0, v1, v2, c0, c1, c2, hs⟩ := h3 i hi'
  have hs' := hs
  obtain ⟨rfl, ⟨_, ka, kc, rfl, _⟩, rfl, _⟩ := hs
  exact ⟨b, off, ka, kc, ha, ⟨c0, c1, c2, hs'⟩⟩

theorem bool_no {P : Prop} {t : Bool} (ht : t = true ↔ P) (h : ¬ P) : t = false := Bool.eq_false_iff.2 (fun e => h (ht.1 e))

def Free (s : SlotD) : Prop := s.birth = 0 ∧ s.kn = 0 ∧ s.data.toList.isEmpty = true
def BirthOk (n : Int) : Prop := 1 ≤ n ∧ n ≤ 1000000
def Points (p : PoolD) (xs xb : Int) : Prop := 1 ≤ xb ∧ 0 ≤ xs ∧ xs < p.n ∧ (p.s xs.toNat).birth = xb
def KidOk (p : PoolD) (b : Int) (xs xb : Int) : Prop := (xs = 0 ∧ xb = 0) ∨ (Points p xs xb ∧ xb ≤ b)
def Fits (p : PoolD) (s : SlotD) : Prop := BirthOk s.birth ∧ ((s.kn = 0 ∧ s.data.size = 16) ∨ (s.kn = 8 ∧ s.data.toList.isEmpty = true ∧ ∀ i, i < s.kn → KidOk p s.birth (s.ks i) (s.kb i)))
def Has (n : Nat) (f : Nat → Int) (x : Int) : Prop := ∃ j, j < n ∧ f j = x
def HeldOk (p : PoolD) (i : Nat) : Prop := 0 ≤ p.h i ∧ p.h i < p.n ∧ ¬ Free (p.s (p.h i).toNat) ∧ ¬ Has i p.h (p.h i)
def Right (p : PoolD) : Prop := p.n ≤ 200 ∧ (∀ i, i < p.n → Free (p.s i) ∨ Fits p (p.s i)) ∧ ∀ i, i < p.hn → HeldOk p i

set_option maxRecDepth 20000 in
set_option maxHeartbeats 400000 in
theorem l01Free_any (v0 v1 v2 : Value) (lo hi : Nat) (s : SlotD) (w : World) (h1 : SlotAt w lo hi v0 v1 v2 s) :
    Calls Try.prog 46 #[.agg #[v0, v1, v2]] w fun e w' => BoolIs (Free s) e ∧ Below w.heap.size w w' := by
  obtain ⟨rfl, ⟨m1, a, c, rfl, _⟩, rfl, _⟩ := h1
  unfold maxLen at m1
  have hbw := (Below.refl w.heap.size w).alloc (Nat.le_refl _) (.cells #[.int .i64 s.birth, .slice a s.kn c, .string s.data] 29)
  by_cases h1 : s.birth = 0
  · by_cases h2 : s.kn = 0
    · by_cases h3 : s.data.toList.isEmpty = true
      · have H : Hid (Free s) := ⟨h1, h2, h3⟩
        have e1 : (s.birth == 0) = true := by simp [h1]
        have e2 : ((s.kn : Int) == 0) = true := by simp [h2]
        clear h1 h2
        go_enter Try.func46, Try.ntmps46
        go_wp2
        go_ret
        exact ⟨BoolIs.yes H.out, hbw⟩
      · have H : Hid (¬ Free s) := fun h => h3 h.2.2
        have e1 : (s.birth == 0) = true := by simp [h1]
        have e2 : ((s.kn : Int) == 0) = true := by simp [h2]
        have e3 : s.data.toList.isEmpty = false := by simpa using h3
        clear h1 h2 h3
        go_enter Try.func46, Try.ntmps46
        go_wp2
        go_ret
        exact ⟨BoolIs.no H.out, hbw⟩
    · have H : Hid (¬ Free s) := fun h => h2 h.2.1
      have e1 : (s.birth == 0) = true := by simp [h1]
      have e2 : ((s.kn : Int) == 0) = false := by simp; omega
      clear h1 h2
      go_enter Try.func46, Try.ntmps46
      go_wp2
      go_ret
      exact ⟨BoolIs.no H.out, hbw⟩
  · have H : Hid (¬ Free s) := fun h => h1 h.1
    have e1 : (s.birth == 0) = false := by simp [h1]
    clear h1
    go_enter Try.func46, Try.ntmps46
    go_wp2
    go_ret
    exact ⟨BoolIs.no H.out, hbw⟩

set_option maxRecDepth 20000 in
set_option maxHeartbeats 400000 in
theorem l01Birth_any (n : Int) (w : World) : Calls Try.prog 94 #[.int .i64 n] w fun e w' => BoolIs (BirthOk n) e ∧ w' = w := by
  by_cases h1 : 1 ≤ n
  · by_cases h2 : n ≤ 1000000
    · go_enter Try.func94, Try.ntmps94
      go_wp2
      go_ret
      exact ⟨BoolIs.yes ⟨h1, h2⟩, rfl⟩
    · go_enter Try.func94, Try.ntmps94
      go_wp2
      go_ret
      exact ⟨BoolIs.no fun h => by have := h.2; omega, rfl⟩
  · go_enter Try.func94, Try.ntmps94
    go_wp2
    go_ret
    exact ⟨BoolIs.no fun h => by have := h.1; omega, rfl⟩

set_option maxRecDepth 20000 in
set_option maxHeartbeats 400000 in
theorem l01None_any (a b : Int) (w : World) : Calls Try.prog 84 #[.agg #[.int .i64 a, .int .i64 b]] w fun e w' => BoolIs (PtrEq a b 0 0) e ∧ Below w.heap.size w w' := by
  have hbw := (Below.refl w.heap.size w).alloc (Nat.le_refl _) (.cells #[.int .i64 a, .int .i64 b] 33)
  by_cases h1 : a = 0
  · by_cases h2 : b = 0
    · subst h1 h2
      go_enter Try.func84, Try.ntmps84
      go_wp2
      go_ret
      exact ⟨BoolIs.yes ⟨rfl, rfl⟩, hbw⟩
    · subst h1
      have H : Hid (¬ PtrEq 0 b 0 0) := fun h => h2 h.2
      have e2 : (b == 0) = false := by simp [h2]
      clear h2
      go_enter Try.func84, Try.ntmps84
      go_wp2
      go_ret
      exact ⟨BoolIs.no H.out, hbw⟩
  · have H : Hid (¬ PtrEq a b 0 0) := fun h => h1 h.1
    have e2 : (a == 0) = false := by simp [h1]
    clear h1
    go_enter Try.func84, Try.ntmps84
    go_wp2
    go_ret
    exact ⟨BoolIs.no H.out, hbw⟩

set_option maxRecDepth 20000 in
set_option maxHeartbeats 400000 in
theorem l01Has_any (v : Value) (n lo hi : Nat) (f : Nat → Int) (x : Int) (w : World) (h1 : IntsAt w lo hi v n f) :
    Calls Try.prog 52 #[v, .int .i64 x] w fun e w' => BoolIs (Has n f x) e ∧ w' = w := by
  obtain ⟨m1, a, c, rfl, mc, g1⟩ := h1
  unfold maxLen at m1
  have G1 : Hid (0 < n → ∃ b off, a = some ⟨b, off, none⟩ ∧ lo ≤ b ∧ b < hi ∧ ∀ i, i < n → w.cell? ⟨b, off + i, none⟩ = some (.int .i64 (f i))) := g1
  clear g1
  go_enter Try.func52, Try.ntmps52
  go_wp2
  go_loop [5] (fun i => ∃ k : Nat, k ≤ n ∧ i = .int .i64 k ∧ ¬ Has k f x) (fun i => n - (intOf i).toNat)
  case atStart => exact ⟨0, Nat.zero_le _, rfl, fun ⟨j, hj, _⟩ => absurd hj (Nat.not_lt_zero _)⟩
  case round =>
    obtain ⟨k, hk, rfl, hno⟩ := hrel
    have Hno : Hid (¬ Has k f x) := hno
    clear hno
    by_cases hlt : k < n
    · have hlt' : (k : Int) < (n : Int) := by omega
      obtain ⟨b, off, rfl, _, _, k1⟩ := G1.out (by omega)
      have hc1 := k1 k hlt
      clear k1 G1
      by_cases he : f k = x
      · have H : Hid (Has n f x) := ⟨k, hlt, he⟩
        have he' : (f k == x) = true := by simp [he]
        clear he
        go_wp2
        go_ret
        exact ⟨BoolIs.yes H.out, rfl⟩
      · have H : Hid (¬ f k = x) := he
        have he' : (f k == x) = false := by simp [he]
        clear he
        go_wp2
        go_round
        case rel =>
          refine ⟨k + 1, by omega, by go_num, ?_⟩
          rintro ⟨j, hj, hjx⟩
          by_cases e : j = k
          · subst e; exact H.out hjx
          · exact Hno.out ⟨j, by omega, hjx⟩
        case measure => simp [intOf]; omega
    · obtain rfl : k = n := by omega
      go_wp2
      go_ret
      exact ⟨BoolIs.no Hno.out, rfl⟩

end Go.Proofs.Ytikhipekmlhibaa

namespace Go.Proofs.Ytikhipekmlhibaa
open Go.RowKit
set_option linter.unusedVariables false

/-- A source of draws in the block B, wherever it stands. -/
def Src (w : World) (B : Nat) : Prop := ∃ a n c at' mix size, SrcAt w B a n c at' mix size

theorem Src.lt {w : World} {B : Nat} (h : Src w B) : B < w.heap.size := by
  obtain ⟨a, n, c, at', mix, size, h⟩ := h
  exact h.c0.lt
theorem Src.turned {S : Nat → Prop} {w w' : World} {B : Nat} (h : Src w B) (t : Turned S w w') (hs : ∀ k, S k → B < k) : Src w' B := by
  obtain ⟨a, n, c, at', mix, size, h⟩ := h
  have hB : ¬ S B := fun hx => by have := hs B hx; omega
  refine ⟨a, n, c, at', mix, size, h.c0.turned t hB, h.c1.turned t hB, h.c2.turned t hB, h.c3.turned t hB, fun hn => ?_, h.len, h.pos, h.sized⟩
  obtain ⟨b, off, ha, hb, hc⟩ := h.bytes hn
  refine ⟨b, off, ha, hb, fun i hi => ?_⟩
  obtain ⟨x, hx, h0, h1⟩ := hc i hi
  exact ⟨x, (t.cell (lt_of_cell hx) (fun e => by have := hs b e; omega)).trans hx, h0, h1⟩
theorem Src.below {w w' : World} {B : Nat} (h : Src w B) (t : Below w.heap.size w w') : Src w' B := h.turned (Turned.of_below (S := fun _ => False) t) (fun k hk => hk.elim)

theorem n_any (B : Nat) (most : Int) (w : World) (h : Src w B) (hm : most ≤ 1000000) :
    Calls Try.prog 66 #[.pointer (some ⟨B, 0, none⟩), .int .i64 most] w fun e w' => (∃ r : Int, e = .returned (.int .i64 r) ∧ 0 ≤ r ∧ (r < most ∨ r = 0)) ∧ Src w' B ∧ Turned (fun k => k = B) w w' := by
  obtain ⟨a, n, c, at', mix, size, h⟩ := h
  refine (srcN_any B n c at' a mix size most w h hm).mono ?_
  rintro e w' ⟨h1, ⟨at2, mix2, h2⟩, h3⟩
  exact ⟨h1, ⟨a, n, c, at2, mix2, size, h2⟩, h3⟩

set_option maxRecDepth 20000 in
set_option maxHeartbeats 400000 in
theorem one_any (B : Nat) (most : Int) (w : World) (h : Src w B) (hm : most ≤ 1000000) :
    Calls Try.prog 64 #[.pointer (some ⟨B, 0, none⟩), .int .i64 most] w fun e w' => (∃ b : Bool, e = .returned (.bool b)) ∧ Src w' B ∧ Turned (fun k => k = B) w w' := by
  go_enter Try.func64, Try.ntmps64
  go_wp2_with fail
  refine (n_any B most _ h hm).mono ?_
  rintro e w1 ⟨⟨r, rfl, h0, h1⟩, hs, ht⟩
  have Hs := hideS hs
  clear hs h
  go_wp2
  go_ret
  exact ⟨⟨_, rfl⟩, Hs.out, ht⟩

def edges : Array Value := #[.int .i64 0, .int .i64 1, .int .i64 (-1), .int .i64 2, .int .i64 1000, .int .i64 1001, .int .i64 2147483648, .int .i64 2147483647, .int .i64 (-2147483648), .int .i64 4611686018427387904, .int .i64 9223372036854775807, .int .i64 (-9223372036854775808), .int .i64 1000000, .int .i64 1000001]
theorem edges_at {k : Nat} (h : k < 14) : ∃ y : Int, edges[k]? = some (.int .i64 y) := by
  rcases k with _ | _ | _ | _ | _ | _ | _ | _ | _ | _ | _ | _ | _ | _ | k
  all_goals first | exact ⟨_, rfl⟩ | omega

set_option maxRecDepth 20000 in
set_option maxHeartbeats 1000000 in
theorem edge_any (B : Nat) (w : World) (h : Src w B) :
    Calls Try.prog 87 #[.pointer (some ⟨B, 0, none⟩)] w fun e w' => (∃ r : Int, e = .returned (.int .i64 r)) ∧ Src w' B ∧ Turned (fun k => k = B) w w' := by
  have hB := h.lt
  go_enter Try.func87, Try.ntmps87
  go_wp2_with fail
  have ha := below_alloc w (.cells edges 2)
  refine (n_any B 14 _ (h.below ha) (by omega)).mono ?_
  rintro e w1 ⟨⟨r, rfl, h0, h1⟩, hs, ht⟩
  obtain ⟨k, rfl⟩ := Int.eq_ofNat_of_zero_le h0
  have hk : k < 14 := by omega
  obtain ⟨y, hy⟩ := edges_at hk
  have hc : w1.cell? ⟨w.heap.size, k, none⟩ = some (.int .i64 y) := ((cell_of_block (i := k) (heap_alloc_new w (.cells edges 2)) hy).turned ht (by omega)).1
  have hk' : (k : Int) < 14 := by omega
  have Hs := hideS hs
  have Ht := hideS ((Turned.of_below (S := fun k => k = B) ha).trans ht)
  clear hs ht h ha hy h1
  go_wp2
  go_ret
  exact ⟨⟨_, rfl⟩, Hs.out, Ht.out⟩

end Go.Proofs.Ytikhipekmlhibaa

namespace Go.Proofs.Ytikhipekmlhibaa
open Go.RowKit
set_option linter.unusedVariables false

theorem infoU8 : (Try.prog.info? 5).map (fun i => (i.zero, i.size, i.bytes)) = some (some (.int .u8 0), 1, 1) := by kernel_rfl

set_option maxRecDepth 20000 in
set_option maxHeartbeats 1000000 in
theorem data_any (B : Nat) (w : World) (h : Src w B) :
    Calls Try.prog 63 #[.pointer (some ⟨B, 0, none⟩)] w fun e w' => (∃ d : ByteArray, e = .returned (.string d) ∧ d.size = 16) ∧ Src w' B ∧ Turned (fun k => k = B) w w' := by
  have hB := h.lt
  have hmk := make_zeros 22 5 (.int .u8 0) 1 1 (by kernel_rfl) infoU8 rfl 16 (by omega) (by omega)
  have hmk' : ∀ w, (Instr.makeSlice 22 (.int .i64 16) (.int .i64 16)).run Try.prog w = .ok (.slice (some ⟨w.heap.size, 0, none⟩) 16 16) (w.alloc (.cells (zeros #[.int .u8 0] 16) 5)) := hmk
  clear hmk
  have ha := below_alloc w (.cells (zeros #[.int .u8 0] 16) 5)
  have Hc : Hid (∀ i, i < 16 → Cell (w.alloc (.cells (zeros #[.int .u8 0] 16) 5)) w.heap.size i (.int .u8 0)) := fun i hi => by
    have := new_cell w #[.int .u8 0] 16 i 0 5 hi (by simp)
    simpa using this
  go_enter Try.func63, Try.ntmps63
  go_wp2_with fail
  refine (n_any B 256 _ (h.below ha) (by omega)).mono ?_
  rintro e w1 ⟨⟨r, rfl, h0, h1⟩, hs, ht⟩
  have Hc1 : Hid (∀ i, i < 16 → Cell w1 w.heap.size i (.int .u8 0)) := fun i hi => (Hc.out i hi).turned ht (by omega)
  have Ht1 := hideS ((Turned.of_below (S := fun k => k = B) ha).trans ht)
  have Hs1 := hideS hs
  obtain ⟨x0, x1⟩ := Hc1.out 0 (by omega)
  clear hs ht h ha Hc hmk'
  go_wp2_with fail
  have Hc2 : Hid (Cell (w1.setCell ⟨w.heap.size, 0, none⟩ (.int .u8 r)) w.heap.size 0 (.int .u8 r) ∧ ∀ i, 0 < i → i < 16 → Cell (w1.setCell ⟨w.heap.size, 0, none⟩ (.int .u8 r)) w.heap.size i (.int .u8 0)) := ⟨(Hc1.out 0 (by omega)).set _, fun i h0 hi => (Hc1.out i hi).other _ (Or.inr (by omega))⟩
  have t1 := Turned.put w1 w.heap.size 0 (.int .u8 r)
  refine (n_any B 3 _ (Hs1.out.turned t1 (fun k hk => by omega)) (by omega)).mono ?_
  rintro e w2 ⟨⟨r2, rfl, h20, h21⟩, hs2, ht2⟩
  have Hd0 := hideS (Hc2.out.1.turned ht2 (by omega))
  have Hd : Hid (∀ i, 0 < i → i < 16 → Cell w2 w.heap.size i (.int .u8 0)) := fun i h0 hi => (Hc2.out.2 i h0 hi).turned ht2 (by omega)
  have Hs2 := hideS hs2
  have Ht2 : Hid (Turned (fun k => k = B) w w2) := by
    refine ⟨ht2.os.trans (t1.os.trans Ht1.out.os), ht2.tape.trans (t1.tape.trans Ht1.out.tape), ht2.output.trans (t1.output.trans Ht1.out.output), Nat.le_trans Ht1.out.size (Nat.le_trans t1.size ht2.size), fun k hk hne => ?_⟩
    exact (ht2.block k (by have := Ht1.out.size; have := t1.size; omega) hne).trans ((t1.block k (by have := Ht1.out.size; omega) (by omega)).trans (Ht1.out.block k hk hne))
  have hconv : ∀ y, (convert 22 9 (.slice (some ⟨w.heap.size, 0, none⟩) 16 16)).run Try.prog (w2.setCell ⟨w.heap.size, 15, none⟩ (.int .u8 y)) = .ok (.string (strOfNums [r, 0, 0, 0, 0, 0, 0, 0, 0, 0, 0, 0, 0, 0, 0, y])) (w2.setCell ⟨w.heap.size, 15, none⟩ (.int .u8 y)) := fun y =>
    run_convert_bytes_arg (P := Try.prog) _ 22 5 (by kernel_rfl) (by kernel_rfl) w.heap.size 0 16 16 [r, 0, 0, 0, 0, 0, 0, 0, 0, 0, 0, 0, 0, 0, 0, y] rfl (fun i hi => by
      have e0 := (Hd0.out.other (b' := w.heap.size) (o' := 15) (.int .u8 y) (Or.inr (by omega))).1
      have e15 := ((Hd.out 15 (by omega) (by omega)).set (.int .u8 y)).1
      have ei : ∀ j, 0 < j → j < 15 → (w2.setCell ⟨w.heap.size, 15, none⟩ (.int .u8 y)).cell? ⟨w.heap.size, j, none⟩ = some (.int .u8 0) := fun j h0 hj => ((Hd.out j h0 (by omega)).other (b' := w.heap.size) (o' := 15) (.int .u8 y) (Or.inr (by omega))).1
      rw [Nat.zero_add]
      rcases i with _ | _ | _ | _ | _ | _ | _ | _ | _ | _ | _ | _ | _ | _ | _ | _ | k
      all_goals first | exact e0 | exact e15 | exact ei _ (by omega) (by omega) | omega) 9 (by kernel_rfl)
  obtain ⟨x2, x3⟩ := Hd.out 15 (by omega) (by omega)
  have hsz : ∀ y, (strOfNums [r, 0, 0, 0, 0, 0, 0, 0, 0, 0, 0, 0, 0, 0, 0, y]).size = 16 := fun y => rfl
  clear hs2 ht2 t1 Hc1 Hc2 Hs1 Ht1 x0 x1
  go_wp2
  go_ret
  refine ⟨⟨_, rfl, hsz _⟩, Hs2.out.turned (Turned.put _ _ _ _) (fun k hk => by omega), ?_⟩
  have t2 := Turned.put w2 w.heap.size 15 (.int .u8 (97 + r2))
  refine ⟨t2.os.trans Ht2.out.os, t2.tape.trans Ht2.out.tape, t2.output.trans Ht2.out.output, Nat.le_trans Ht2.out.size t2.size, fun k hk hne => ?_⟩
  exact (t2.block k (by have := Ht2.out.size; omega) (by omega)).trans (Ht2.out.block k hk hne)

end Go.Proofs.Ytikhipekmlhibaa

namespace Go.Proofs.Ytikhipekmlhibaa
open Go.RowKit
set_option linter.unusedVariables false

theorem PoolAt.turned {S : Nat → Prop} {w w' : World} {lo hi : Nat} {v0 v1 : Value} {p : PoolD} (h : PoolAt w lo hi v0 v1 p) (t : Turned S w w') (hh : hi ≤ w.heap.size) (hs : ∀ k, S k → k < lo ∨ hi ≤ k) : PoolAt w' lo hi v0 v1 p := h.same (t.same hh hs)

/-- Of what was there, the source alone is turned. -/
theorem only_src {w w1 w2 : World} {B R : Nat} (h : Turned (fun k => k = B) w w1) (t : Turned (fun k => k = R) w1 w2) (hR : w.heap.size ≤ R) : Turned (fun k => k = B) w w2 :=
  ⟨t.os.trans h.os, t.tape.trans h.tape, t.output.trans h.output, Nat.le_trans h.size t.size, fun k hk hne => (t.block k (Nat.lt_of_lt_of_le hk h.size) (by omega)).trans (h.block k hk hne)⟩

set_option maxRecDepth 20000 in
set_option maxHeartbeats 1000000 in
theorem ptr_any (B lo hi : Nat) (v0 v1 : Value) (p : PoolD) (w : World) (h : Src w B) (hp : PoolAt w lo hi v0 v1 p) (hlo : B < lo) (hhi : hi ≤ w.heap.size) (hn : p.n ≤ 1000000) :
    Calls Try.prog 97 #[.pointer (some ⟨B, 0, none⟩), .agg #[v0, v1]] w fun e w' => (∃ xs xb : Int, e = .returned (.agg #[.int .i64 xs, .int .i64 xb])) ∧ Src w' B ∧ Turned (fun k => k = B) w w' := by
  have Hp := hideS hp
  have hB := h.lt
  obtain ⟨⟨_, a, c, rfl, mc, _⟩, ⟨_, a', c', rfl, _, _⟩⟩ := id hp
  have ha1 := below_alloc w (.cells #[.slice a p.n c, .slice a' p.hn c'] 26)
  have ha := below_next ha1 (below_alloc _ (.cells #[.int .i64 0, .int .i64 0] 33))
  have HB := hideS ((Box2.new w (.slice a p.n c) (.slice a' p.hn c') 26).below (below_alloc _ (.cells #[.int .i64 0, .int .i64 0] 33)))
  have hr := Box2.new (w.alloc (.cells #[.slice a p.n c, .slice a' p.hn c'] 26)) (.int .i64 0) (.int .i64 0) 33
  rw [World.size_alloc] at hr
  have HR := hideS hr
  clear ha1 hr hp
  go_enter Try.func97, Try.ntmps97
  go_wp2_with fail
  refine (one_any B 8 _ (h.below ha) (by omega)).mono ?_
  rintro e w1 ⟨⟨b, rfl⟩, hs1, ht1⟩
  have HB1 := hideS (HB.out.turned ht1 (by omega))
  have HR1 := hideS (HR.out.turned ht1 (by omega))
  have Hs1 := hideS hs1
  have Hp1 := hideS ((Hp.out.below ha).turned ht1 (by have := ha.size; omega) (fun k hk => by omega))
  have Ht1 := hideS ((Turned.of_below (S := fun k => k = B) ha).trans ht1)
  have hz1 : w.heap.size + 2 ≤ w1.heap.size := by have := ht1.size; rw [World.size_alloc, World.size_alloc] at this; omega
  clear hs1 ht1 HB HR h ha
  obtain ⟨⟨x0, x1⟩, ⟨x2, x3⟩⟩ := HB1.out
  by_cases hc : b = false ∧ 0 < p.n
  · obtain ⟨rfl, hpn⟩ := hc
    have hpn' : ¬ (p.n : Int) = 0 := by omega
    have hpn'' : ((p.n : Int) == 0) = false := by simp; omega
    go_wp2_with fail
    refine (n_any B p.n _ Hs1.out (by omega)).mono ?_
    rintro e w2 ⟨⟨r, rfl, h0, h1⟩, hs2, ht2⟩
    obtain ⟨k, rfl⟩ := Int.eq_ofNat_of_zero_le h0
    have hk : k < p.n := by omega
    have hk' : (k : Int) < (p.n : Int) := by omega
    have HB2 := hideS (HB1.out.turned ht2 (by omega))
    have HR2 := hideS (HR1.out.turned ht2 (by omega))
    have Hs2 := hideS hs2
    have Hp2 := hideS (Hp1.out.turned ht2 (by omega) (fun k hk => by omega))
    have Ht2 := hideS (Ht1.out.trans ht2)
    clear hs2 ht2 HB1 HR1 Hs1 Ht1 x0 x1 x2 x3
    obtain ⟨⟨x0, x1⟩, ⟨x2, x3⟩⟩ := HB2.out
    obtain ⟨⟨u0, u1⟩, ⟨u2, u3⟩⟩ := HR2.out
    obtain ⟨b', off, ka, kc, rfl, hs⟩ := Hp2.out.1.cells hk
    obtain ⟨q0, q1, q2, _⟩ := hs
    go_wp2
    have HR6 := HR2.out.put (.int .i64 (k : Int)) (.int .i64 (p.s k).birth)
    have t := (Turned.put w2 (w.heap.size + 1) 0 (.int .i64 (k : Int))).trans (Turned.put _ (w.heap.size + 1) 1 (.int .i64 (p.s k).birth))
    exact bodyPost_ret (v := .agg #[.int .i64 (k : Int), .int .i64 (p.s k).birth]) (by simp [results, Try.results97, go_sem, HR6.1.1, HR6.2.1]) rfl ⟨⟨_, _, rfl⟩, Hs2.out.turned t (fun k hk => by omega), only_src Ht2.out t (by omega)⟩
  · have hc' : b = true ∨ (b = false ∧ p.n = 0) := by
      cases b with
      | true => exact Or.inl rfl
      | false => exact Or.inr ⟨rfl, by by_cases e : 0 < p.n; exact absurd ⟨rfl, e⟩ hc; omega⟩
    have hz0 : p.n = 0 → ((p.n : Int) == 0) = true := fun e => by simp [e]
    clear hc
    rcases hc' with rfl | ⟨rfl, hpn⟩
    all_goals
      try have hpn2 := hz0 hpn
      go_wp2_with fail
      refine (edge_any B _ Hs1.out).mono ?_
      rintro e w2 ⟨⟨r, rfl⟩, hs2, ht2⟩
      have HR2 := hideS (HR1.out.turned ht2 (by omega))
      have Hs2 := hideS hs2
      have Ht2 := hideS (Ht1.out.trans ht2)
      have hz2 := ht2.size
      clear hs2 ht2 HB1 HR1 Hs1 Ht1 x0 x1 x2 x3
      go_wp2_with fail
      refine (n_any B 4 _ Hs2.out (by omega)).mono ?_
      rintro e w3 ⟨⟨r2, rfl, h20, h21⟩, hs3, ht3⟩
      have HR3 := hideS (HR2.out.turned ht3 (by omega))
      have Hs3 := hideS hs3
      have Ht3 := hideS (Ht2.out.trans ht3)
      clear hs3 ht3 HR2 Hs2 Ht2
      obtain ⟨⟨u0, u1⟩, ⟨u2, u3⟩⟩ := HR3.out
      go_wp2
      have HR6 := HR3.out.put (.int .i64 r) (.int .i64 r2)
      have t := (Turned.put w3 (w.heap.size + 1) 0 (.int .i64 r)).trans (Turned.put _ (w.heap.size + 1) 1 (.int .i64 r2))
      exact bodyPost_ret (v := .agg #[.int .i64 r, .int .i64 r2]) (by simp [results, Try.results97, go_sem, HR6.1.1, HR6.2.1]) rfl ⟨⟨_, _, rfl⟩, Hs3.out.turned t (fun k hk => by omega), only_src Ht3.out t (by omega)⟩

end Go.Proofs.Ytikhipekmlhibaa

namespace Go.Proofs.Ytikhipekmlhibaa
open Go.RowKit
set_option linter.unusedVariables false

theorem SrcAt.below {w w' : World} {B n c at' : Nat} {a : Option Addr} {mix size : Int} (h : SrcAt w B a n c at' mix size) (t : Below w.heap.size w w') : SrcAt w' B a n c at' mix size :=
  ⟨h.c0.below t, h.c1.below t, h.c2.below t, h.c3.below t, fun hn => by
    obtain ⟨b, off, ha, hb, hc⟩ := h.bytes hn
    refine ⟨b, off, ha, hb, fun i hi => ?_⟩
    obtain ⟨x, hx, h0, h1⟩ := hc i hi
    exact ⟨x, (t.cell (lt_of_cell hx)).trans hx, h0, h1⟩, h.len, h.pos, h.sized⟩
theorem SrcAt.resize {w : World} {B n c at' : Nat} {a : Option Addr} {mix size : Int} (h : SrcAt w B a n c at' mix size) (m : Int) (hm : 0 ≤ m ∧ m ≤ 12) : SrcAt (w.setCell ⟨B, 3, none⟩ (.int .i64 m)) B a n c at' mix m :=
  ⟨h.c0.other _ (Or.inr (by omega)), h.c1.other _ (Or.inr (by omega)), h.c2.other _ (Or.inr (by omega)), h.c3.set _, h.bytes.turned (Turned.put _ _ _ _), h.len, h.pos, hm⟩

theorem SrcAt.resize2 {w : World} {B n c at' : Nat} {a : Option Addr} {mix size : Int} (h : SrcAt w B a n c at' mix size) (u : Value) (m : Int) (hm : 0 ≤ m ∧ m ≤ 12) : SrcAt ((w.setCell ⟨B, 3, none⟩ u).setCell ⟨B, 3, none⟩ (.int .i64 m)) B a n c at' mix m :=
  ⟨(h.c0.other _ (Or.inr (by omega))).other _ (Or.inr (by omega)), (h.c1.other _ (Or.inr (by omega))).other _ (Or.inr (by omega)), (h.c2.other _ (Or.inr (by omega))).other _ (Or.inr (by omega)), (h.c3.set _).set _, (h.bytes.turned (Turned.put _ _ _ _)).turned (Turned.put _ _ _ _), h.len, h.pos, hm⟩

set_option maxRecDepth 20000 in
set_option maxHeartbeats 2000000 in
theorem source_any (a : Option Addr) (n c : Nat) (w : World) (hb : BytesAt w w.heap.size a n) (hn : n ≤ 1048576) (hnc : n ≤ c) :
    Calls Try.prog 39 #[.slice a n c] w fun e w' => (∃ B, e = .returned (.pointer (some ⟨B, 0, none⟩)) ∧ Src w' B ∧ w.heap.size ≤ B) ∧ Below w.heap.size w w' := by
  have Hb := hideS hb
  have hblk : (w.alloc (.cells #[.slice a n c, .int .i64 0, .int .u64 88172645463325252, .int .i64 0] 115)).heap[w.heap.size]? = some (.cells #[.slice a n c, .int .i64 0, .int .u64 88172645463325252, .int .i64 0] 115) := heap_alloc_new _ _
  have ha := below_alloc w (.cells #[.slice a n c, .int .i64 0, .int .u64 88172645463325252, .int .i64 0] 115)
  have H0 : Hid (SrcAt (w.alloc (.cells #[.slice a n c, .int .i64 0, .int .u64 88172645463325252, .int .i64 0] 115)) w.heap.size a n c 0 88172645463325252 0) := by
    refine ⟨cell_of_block hblk rfl, cell_of_block hblk rfl, cell_of_block hblk rfl, cell_of_block hblk rfl, fun hn => ?_, ⟨by unfold maxLen; omega, hnc⟩, Nat.zero_le _, by omega⟩
    obtain ⟨b, off, ha', hb', hc⟩ := Hb.out hn
    refine ⟨b, off, ha', hb', fun i hi => ?_⟩
    obtain ⟨x, hx, h0, h1⟩ := hc i hi
    exact ⟨x, (ha.cell (lt_of_cell hx)).trans hx, h0, h1⟩
  clear hblk hb
  go_enter Try.func39, Try.ntmps39
  go_wp2
  go_loopw [4] (fun i wr => ∃ (k : Nat) (mix : Int), k ≤ n ∧ k ≤ 64 ∧ i = .int .i64 k ∧ SrcAt wr w.heap.size a n c 0 mix 0 ∧ Below w.heap.size w wr) (fun i _ => n - (intOf i).toNat)
  case atStart => exact ⟨0, _, Nat.zero_le _, by omega, rfl, H0.out, ha⟩
  case round =>
    obtain ⟨k, mix, hk, hk64, rfl, hs, hb⟩ := hrel
    have Hs := hideS hs
    obtain ⟨⟨x0, x1⟩, ⟨x2, x3⟩, ⟨x4, x5⟩, ⟨x6, x7⟩, hby, _⟩ := hs
    by_cases hlt : k < n ∧ k < 64
    · obtain ⟨hl1, hl2⟩ := hlt
      have hl1' : (k : Int) < (n : Int) := by omega
      have hl2' : (k : Int) < 64 := by omega
      obtain ⟨b, off, rfl, hbB, hc⟩ := hby (by omega)
      obtain ⟨x, hx, hx0, hx1⟩ := hc k hl1
      clear hc
      go_wp2
      go_region
      go_wp2
      go_roundw
      case rel => exact ⟨k + 1, _, by omega, by omega, by go_num, (Hs.out.mixed _).drew, (hb.setCell (Nat.le_refl _) _).drew⟩
      case measure => simp [intOf]; omega
    · have hq0 : 0 ≤ ((n : Int) / 20) := by omega
      have Hend : Hid (∀ wx, Below w.heap.size w wx → (∃ mix size, SrcAt wx w.heap.size a n c 0 mix size) → (∃ B, Ending.returned (.pointer (some ⟨w.heap.size, 0, none⟩)) = .returned (.pointer (some ⟨B, 0, none⟩)) ∧ Src wx B ∧ w.heap.size ≤ B) ∧ Below w.heap.size w wx) := fun wx hbx ⟨mix, size, h⟩ => ⟨⟨_, rfl, ⟨_, _, _, _, _, _, h⟩, Nat.le_refl _⟩, hbx⟩
      have hdone : k = n ∨ (k = 64 ∧ 64 < n) := by omega
      clear hlt hby
      rcases hdone with rfl | ⟨rfl, hd⟩
      · go_wp2
        all_goals
          go_ret
          first
            | exact Hend.out _ ((hb.setCell (Nat.le_refl _) _).setCell (Nat.le_refl _) _) ⟨_, _, Hs.out.resize2 _ _ ⟨by omega, by omega⟩⟩
            | exact Hend.out _ (hb.setCell (Nat.le_refl _) _) ⟨_, _, Hs.out.resize _ ⟨by omega, by omega⟩⟩
      · have hd' : (64 : Int) < (n : Int) := by omega
        go_wp2
        all_goals
          go_ret
          first
            | exact Hend.out _ ((hb.setCell (Nat.le_refl _) _).setCell (Nat.le_refl _) _) ⟨_, _, Hs.out.resize2 _ _ ⟨by omega, by omega⟩⟩
            | exact Hend.out _ (hb.setCell (Nat.le_refl _) _) ⟨_, _, Hs.out.resize _ ⟨by omega, by omega⟩⟩

end Go.Proofs.Ytikhipekmlhibaa

namespace Go.Proofs.Ytikhipekmlhibaa
open Go.RowKit
set_option linter.unusedVariables false

def Page (s : SlotD) : Prop := BirthOk s.birth ∧ s.kn = 0 ∧ s.data.size = 16
def Node (s : SlotD) : Prop := BirthOk s.birth ∧ s.kn = 8 ∧ s.data.toList.isEmpty = true

set_option maxRecDepth 20000 in
set_option maxHeartbeats 400000 in
theorem isFree_any (v0 v1 v2 : Value) (lo hi : Nat) (s : SlotD) (w : World) (h1 : SlotAt w lo hi v0 v1 v2 s) :
    Calls Try.prog 42 #[.agg #[v0, v1, v2]] w fun e w' => BoolIs (Free s) e ∧ Below w.heap.size w w' := by
  obtain ⟨rfl, ⟨m1, a, c, rfl, _⟩, rfl, _⟩ := h1
  unfold maxLen at m1
  have hbw := (Below.refl w.heap.size w).alloc (Nat.le_refl _) (.cells #[.int .i64 s.birth, .slice a s.kn c, .string s.data] 29)
  by_cases h1 : s.birth = 0
  · by_cases h2 : s.kn = 0
    · by_cases h3 : s.data.toList.isEmpty = true
      · have H : Hid (Free s) := ⟨h1, h2, h3⟩
        have e1 : (s.birth == 0) = true := by simp [h1]
        have e2 : ((s.kn : Int) == 0) = true := by simp [h2]
        clear h1 h2
        go_enter Try.func42, Try.ntmps42
        go_wp2
        go_ret
        exact ⟨BoolIs.yes H.out, hbw⟩
      · have H : Hid (¬ Free s) := fun h => h3 h.2.2
        have e1 : (s.birth == 0) = true := by simp [h1]
        have e2 : ((s.kn : Int) == 0) = true := by simp [h2]
        have e3 : s.data.toList.isEmpty = false := by simpa using h3
        clear h1 h2 h3
        go_enter Try.func42, Try.ntmps42
        go_wp2
        go_ret
        exact ⟨BoolIs.no H.out, hbw⟩
    · have H : Hid (¬ Free s) := fun h => h2 h.2.1
      have e1 : (s.birth == 0) = true := by simp [h1]
      have e2 : ((s.kn : Int) == 0) = false := by simp; omega
      clear h1 h2
      go_enter Try.func42, Try.ntmps42
      go_wp2
      go_ret
      exact ⟨BoolIs.no H.out, hbw⟩
  · have H : Hid (¬ Free s) := fun h => h1 h.1
    have e1 : (s.birth == 0) = false := by simp [h1]
    clear h1
    go_enter Try.func42, Try.ntmps42
    go_wp2
    go_ret
    exact ⟨BoolIs.no H.out, hbw⟩

set_option maxRecDepth 20000 in
set_option maxHeartbeats 400000 in
theorem birthRight_any (n : Int) (w : World) : Calls Try.prog 109 #[.int .i64 n] w fun e w' => BoolIs (BirthOk n) e ∧ w' = w := by
  by_cases h1 : 1 ≤ n
  · by_cases h2 : n ≤ 1000000
    · go_enter Try.func109, Try.ntmps109
      go_wp2
      go_ret
      exact ⟨BoolIs.yes ⟨h1, h2⟩, rfl⟩
    · go_enter Try.func109, Try.ntmps109
      go_wp2
      go_ret
      exact ⟨BoolIs.no fun h => by have := h.2; omega, rfl⟩
  · go_enter Try.func109, Try.ntmps109
    go_wp2
    go_ret
    exact ⟨BoolIs.no fun h => by have := h.1; omega, rfl⟩

set_option maxRecDepth 20000 in
set_option maxHeartbeats 400000 in
theorem isPage_any (v0 v1 v2 : Value) (lo hi : Nat) (s : SlotD) (w : World) (h1 : SlotAt w lo hi v0 v1 v2 s) :
    Calls Try.prog 98 #[.agg #[v0, v1, v2]] w fun e w' => BoolIs (Page s) e ∧ Below w.heap.size w w' := by
  obtain ⟨rfl, ⟨m1, a, c, rfl, _⟩, rfl, m2⟩ := h1
  unfold maxLen at m1 m2
  have hbw := (Below.refl w.heap.size w).alloc (Nat.le_refl _) (.cells #[.int .i64 s.birth, .slice a s.kn c, .string s.data] 29)
  by_cases h1 : BirthOk s.birth
  · have HB : Hid (BirthOk s.birth) := h1
    by_cases h2 : s.kn = 0
    · by_cases h3 : s.data.size = 16
      · have H : Hid (Page s) := ⟨h1, h2, h3⟩
        have e2 : ((s.kn : Int) == 0) = true := by simp [h2]
        have e3 : ((s.data.size : Int) == 16) = true := by simp [h3]
        clear h1 h2 h3
        go_enter Try.func98, Try.ntmps98
        go_wp2_with (go_at_call 109; refine (birthRight_any _ _).mono ?_; rintro e w' ⟨⟨t, rfl, ht⟩, rfl⟩; obtain rfl : t = true := ht.2 HB.out; clear ht)
        go_ret
        exact ⟨BoolIs.yes H.out, hbw⟩
      · have H : Hid (¬ Page s) := fun h => h3 h.2.2
        have e2 : ((s.kn : Int) == 0) = true := by simp [h2]
        have e3 : ((s.data.size : Int) == 16) = false := by simp; omega
        clear h1 h2 h3
        go_enter Try.func98, Try.ntmps98
        go_wp2_with (go_at_call 109; refine (birthRight_any _ _).mono ?_; rintro e w' ⟨⟨t, rfl, ht⟩, rfl⟩; obtain rfl : t = true := ht.2 HB.out; clear ht)
        go_ret
        exact ⟨BoolIs.no H.out, hbw⟩
    · have H : Hid (¬ Page s) := fun h => h2 h.2.1
      have e2 : ((s.kn : Int) == 0) = false := by simp; omega
      clear h1 h2
      go_enter Try.func98, Try.ntmps98
      go_wp2_with (go_at_call 109; refine (birthRight_any _ _).mono ?_; rintro e w' ⟨⟨t, rfl, ht⟩, rfl⟩; obtain rfl : t = true := ht.2 HB.out; clear ht)
      go_ret
      exact ⟨BoolIs.no H.out, hbw⟩
  · have HB : Hid (¬ BirthOk s.birth) := h1
    clear h1
    go_enter Try.func98, Try.ntmps98
    go_wp2_with (go_at_call 109; refine (birthRight_any _ _).mono ?_; rintro e w' ⟨⟨t, rfl, ht⟩, rfl⟩; obtain rfl : t = false := bool_no ht HB.out; clear ht)
    go_ret
    exact ⟨BoolIs.no fun h => HB.out h.1, hbw⟩

set_option maxRecDepth 20000 in
set_option maxHeartbeats 400000 in
theorem isNode_any (v0 v1 v2 : Value) (lo hi : Nat) (s : SlotD) (w : World) (h1 : SlotAt w lo hi v0 v1 v2 s) :
    Calls Try.prog 99 #[.agg #[v0, v1, v2]] w fun e w' => BoolIs (Node s) e ∧ Below w.heap.size w w' := by
  obtain ⟨rfl, ⟨m1, a, c, rfl, _⟩, rfl, m2⟩ := h1
  unfold maxLen at m1 m2
  have hbw := (Below.refl w.heap.size w).alloc (Nat.le_refl _) (.cells #[.int .i64 s.birth, .slice a s.kn c, .string s.data] 29)
  by_cases h1 : BirthOk s.birth
  · have HB : Hid (BirthOk s.birth) := h1
    by_cases h2 : s.kn = 8
    · by_cases h3 : s.data.toList.isEmpty = true
      · have H : Hid (Node s) := ⟨h1, h2, h3⟩
        have e2 : ((s.kn : Int) == 8) = true := by simp [h2]
        clear h1 h2
        go_enter Try.func99, Try.ntmps99
        go_wp2_with (go_at_call 109; refine (birthRight_any _ _).mono ?_; rintro e w' ⟨⟨t, rfl, ht⟩, rfl⟩; obtain rfl : t = true := ht.2 HB.out; clear ht)
        go_ret
        exact ⟨BoolIs.yes H.out, hbw⟩
      · have H : Hid (¬ Node s) := fun h => h3 h.2.2
        have e2 : ((s.kn : Int) == 8) = true := by simp [h2]
        have e3 : s.data.toList.isEmpty = false := by simpa using h3
        clear h1 h2 h3
        go_enter Try.func99, Try.ntmps99
        go_wp2_with (go_at_call 109; refine (birthRight_any _ _).mono ?_; rintro e w' ⟨⟨t, rfl, ht⟩, rfl⟩; obtain rfl : t = true := ht.2 HB.out; clear ht)
        go_ret
        exact ⟨BoolIs.no H.out, hbw⟩
    · have H : Hid (¬ Node s) := fun h => h2 h.2.1
      have e2 : ((s.kn : Int) == 8) = false := by simp; omega
      clear h1 h2
      go_enter Try.func99, Try.ntmps99
      go_wp2_with (go_at_call 109; refine (birthRight_any _ _).mono ?_; rintro e w' ⟨⟨t, rfl, ht⟩, rfl⟩; obtain rfl : t = true := ht.2 HB.out; clear ht)
      go_ret
      exact ⟨BoolIs.no H.out, hbw⟩
  · have HB : Hid (¬ BirthOk s.birth) := h1
    clear h1
    go_enter Try.func99, Try.ntmps99
    go_wp2_with (go_at_call 109; refine (birthRight_any _ _).mono ?_; rintro e w' ⟨⟨t, rfl, ht⟩, rfl⟩; obtain rfl : t = false := bool_no ht HB.out; clear ht)
    go_ret
    exact ⟨BoolIs.no fun h => HB.out h.1, hbw⟩

set_option maxRecDepth 20000 in
set_option maxHeartbeats 400000 in
theorem index_any (v : Value) (n lo hi : Nat) (f : Nat → Int) (x : Int) (w : World) (h1 : IntsAt w lo hi v n f) :
    Calls Try.prog 103 #[v, .int .i64 x] w fun e w' => (∃ r : Int, e = .returned (.int .i64 r) ∧ (0 ≤ r ↔ Has n f x)) ∧ w' = w := by
  obtain ⟨m1, a, c, rfl, mc, g1⟩ := h1
  unfold maxLen at m1
  have G1 : Hid (0 < n → ∃ b off, a = some ⟨b, off, none⟩ ∧ lo ≤ b ∧ b < hi ∧ ∀ i, i < n → w.cell? ⟨b, off + i, none⟩ = some (.int .i64 (f i))) := g1
  clear g1
  go_enter Try.func103, Try.ntmps103
  go_wp2
  go_loop [8] (fun i => ∃ k : Nat, k ≤ n ∧ i = .int .i64 k ∧ ¬ Has k f x) (fun i => n - (intOf i).toNat)
  case atStart => exact ⟨0, Nat.zero_le _, rfl, fun ⟨j, hj, _⟩ => absurd hj (Nat.not_lt_zero _)⟩
  case round =>
    obtain ⟨k, hk, rfl, hno⟩ := hrel
    have Hno : Hid (¬ Has k f x) := hno
    clear hno
    by_cases hlt : k < n
    · have hlt' : (k : Int) < (n : Int) := by omega
      obtain ⟨b, off, rfl, _, _, k1⟩ := G1.out (by omega)
      have hc1 := k1 k hlt
      clear k1 G1
      by_cases he : f k = x
      · have H : Hid (Has n f x) := ⟨k, hlt, he⟩
        have he' : (x == f k) = true := by simp [he]
        clear he
        go_wp2
        go_ret
        exact ⟨⟨_, rfl, ⟨fun _ => H.out, fun _ => Int.natCast_nonneg _⟩⟩, rfl⟩
      · have H : Hid (¬ f k = x) := he
        have he' : (x == f k) = false := by simp; exact fun e => he e.symm
        clear he
        go_wp2
        go_round
        case rel =>
          refine ⟨k + 1, by omega, by go_num, ?_⟩
          rintro ⟨j, hj, hjx⟩
          by_cases e : j = k
          · subst e; exact H.out hjx
          · exact Hno.out ⟨j, by omega, hjx⟩
        case measure => simp [intOf]; omega
    · obtain rfl : k = n := by omega
      go_wp2
      go_ret
      exact ⟨⟨-1, rfl, ⟨fun h => absurd h (by omega), fun h => absurd h Hno.out⟩⟩, rfl⟩

set_option maxRecDepth 20000 in
set_option maxHeartbeats 400000 in
theorem contains_any (v : Value) (n lo hi : Nat) (f : Nat → Int) (x : Int) (w : World) (h1 : IntsAt w lo hi v n f) :
    Calls Try.prog 56 #[v, .int .i64 x] w fun e w' => BoolIs (Has n f x) e ∧ w' = w := by
  have Hi : Hid (IntsAt w lo hi v n f) := h1
  obtain ⟨m1, a, c, rfl, mc, g1⟩ := h1
  clear g1
  go_enter Try.func56, Try.ntmps56
  go_wp2_with fail
  refine (index_any _ n lo hi f x _ Hi.out).mono ?_
  rintro e w' ⟨⟨r, rfl, hr⟩, rfl⟩
  have Hr : Hid (0 ≤ r ↔ Has n f x) := hr
  clear hr
  go_wp2
  go_ret
  exact ⟨⟨_, rfl, by simpa using Hr.out⟩, rfl⟩

def PtrOf (n : Nat) (f : Nat → SlotD) (x ps pb : Int) : Prop :=
  (0 ≤ x ∧ x < n ∧ ¬ Free (f x.toNat) ∧ ps = x ∧ pb = (f x.toNat).birth) ∨ (¬ (0 ≤ x ∧ x < n ∧ ¬ Free (f x.toNat)) ∧ ps = 0 ∧ pb = 0)

set_option maxRecDepth 20000 in
set_option maxHeartbeats 400000 in
theorem ptrOf_any (v : Value) (n lo hi : Nat) (f : Nat → SlotD) (x : Int) (w : World) (h1 : SlotsAt w lo hi v n f) :
    Calls Try.prog 101 #[v, .int .i64 x] w fun e w' => (∃ ps pb, e = .returned (.agg #[.int .i64 ps, .int .i64 pb]) ∧ PtrOf n f x ps pb) ∧ Below w.heap.size w w' := by
  have Hi : Hid (SlotsAt w lo hi v n f) := h1
  obtain ⟨m1, a, c, rfl, mc, g1⟩ := h1
  unfold maxLen at m1
  clear g1
  have Hbw : Hid (Below w.heap.size w (w.alloc (.cells #[.int .i64 0, .int .i64 0] 33))) := below_alloc _ _
  by_cases h1 : x < 0
  · have H : Hid (PtrOf n f x 0 0) := Or.inr ⟨fun h => by omega, rfl, rfl⟩
    go_enter Try.func101, Try.ntmps101
    go_wp2
    refine bodyPost_ret (v := .agg #[.int .i64 0, .int .i64 0]) (by simp [results, Try.results101, go_sem]) rfl ⟨⟨0, 0, rfl, H.out⟩, Hbw.out⟩
  · by_cases h2 : (n : Int) ≤ x
    · have H : Hid (PtrOf n f x 0 0) := Or.inr ⟨fun h => by omega, rfl, rfl⟩
      go_enter Try.func101, Try.ntmps101
      go_wp2
      refine bodyPost_ret (v := .agg #[.int .i64 0, .int .i64 0]) (by simp [results, Try.results101, go_sem]) rfl ⟨⟨0, 0, rfl, H.out⟩, Hbw.out⟩
    · obtain ⟨k, rfl⟩ := Int.eq_ofNat_of_zero_le (show 0 ≤ x by omega)
      have hk : k < n := by omega
      have hkl : (k : Int) < (n : Int) := by omega
      obtain ⟨b, off, ka, kc, rfl, hs⟩ := Hi.out.cells hk
      have Hs : Hid (SlotCells w b (off + k * 3) lo hi ka kc (f k)) := hs
      have hlt := lt_of_cell hs.c0
      obtain ⟨q0, q1, q2, _⟩ := hs
      by_cases hf : Free (f k)
      · have H : Hid (PtrOf n f k 0 0) := Or.inr ⟨fun h => h.2.2 (by rw [Int.toNat_natCast]; exact hf), rfl, rfl⟩
        have HF : Hid (Free (f k)) := hf
        clear hf
        go_enter Try.func101, Try.ntmps101
        go_wp2_with fail
        refine (isFree_any _ _ _ lo hi (f k) _ (Hs.out.slot.below Hbw.out)).mono ?_
        rintro e w1 ⟨⟨t, rfl, hx⟩, hb1⟩
        obtain rfl : t = true := hx.2 HF.out
        clear hx
        have HX : Hid (Box2 w1 w.heap.size (.int .i64 0) (.int .i64 0)) := (Box2.new w _ _ _).below hb1
        have hbn := below_next Hbw.out hb1
        clear hb1 q0 q1 q2
        obtain ⟨⟨y0, y1⟩, ⟨y2, y3⟩⟩ := HX.out
        go_wp2
        have HY := HX.out.put (.int .i64 0) (.int .i64 0)
        refine bodyPost_ret (v := .agg #[.int .i64 0, .int .i64 0]) (by simp [results, Try.results101, go_sem, HY.1.1, HY.2.1]) rfl ⟨⟨0, 0, rfl, H.out⟩, (hbn.setCell (Nat.le_refl _) _).setCell (Nat.le_refl _) _⟩
      · have H : Hid (PtrOf n f k k (f k).birth) := Or.inl ⟨by omega, hkl, by rw [Int.toNat_natCast]; exact hf, rfl, by rw [Int.toNat_natCast]⟩
        have HF : Hid (¬ Free (f k)) := hf
        clear hf
        go_enter Try.func101, Try.ntmps101
        go_wp2_with fail
        refine (isFree_any _ _ _ lo hi (f k) _ (Hs.out.slot.below Hbw.out)).mono ?_
        rintro e w1 ⟨⟨t, rfl, hx⟩, hb1⟩
        obtain rfl : t = false := bool_no hx HF.out
        clear hx
        have HX : Hid (Box2 w1 w.heap.size (.int .i64 0) (.int .i64 0)) := (Box2.new w _ _ _).below hb1
        have hbn := below_next Hbw.out hb1
        have q5 := (Hs.out.below hbn).c0
        clear hb1 q0 q1 q2
        obtain ⟨⟨y0, y1⟩, ⟨y2, y3⟩⟩ := HX.out
        go_wp2
        have HY := HX.out.put (.int .i64 k) (.int .i64 (f k).birth)
        refine bodyPost_ret (v := .agg #[.int .i64 k, .int .i64 (f k).birth]) (by simp [results, Try.results101, go_sem, HY.1.1, HY.2.1]) rfl ⟨⟨_, _, rfl, H.out⟩, (hbn.setCell (Nat.le_refl _) _).setCell (Nat.le_refl _) _⟩

end Go.Proofs.Ytikhipekmlhibaa
