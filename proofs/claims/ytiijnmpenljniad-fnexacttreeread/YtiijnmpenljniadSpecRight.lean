/- What spec.PoolRight and the functions that it calls answer (l01Free, l01Is, l01Birth, l01None, l01Points, l01Fits, l01Has): as plain facts on the pool. -/
import Derived.Test.YtiijnmpenljniadRows
import Derived.Test.YtiijnmpenljniadBase
import Derived.Deep.RegionHeld3
import Derived.Deep.QuietTactic
import Derived.BigQuiet
namespace Go.Proofs.Ytiijnmpenljniad
open Go.RowKit
set_option linter.unusedVariables false

/-- The first n of a slice's numbers. -/
theorem IntsAt.take {w : World} {lo hi : Nat} {a : Option Addr} {n c m c' : Nat} {f : Nat → Int} (h : IntsAt w lo hi (.slice a n c) n f) (hm : m ≤ n) (hc : m ≤ c') : IntsAt w lo hi (.slice a m c') m f := by
  obtain ⟨h0, a2, cap, hv, hcc, hx⟩ := h
  simp only [Value.slice.injEq, true_and] at hv
  obtain ⟨rfl, rfl⟩ := hv
  refine ⟨by omega, a, c', rfl, hc, fun h0 => ?_⟩
  obtain ⟨b, off, ha, h1, h2, h3⟩ := hx (by omega)
  exact ⟨b, off, ha, h1, h2, fun i hi => h3 i (by omega)⟩

/-- The cells of a slot, as they are read. -/
structure SlotCells (w : World) (b o : Nat) (lo hi : Nat) (ka : Option Addr) (kc : Nat) (s : SlotD) : Prop where
  c0 : w.cell? ⟨b, o, none⟩ = some (.int .i64 s.birth)
  c1 : w.cell? ⟨b, o + 1, none⟩ = some (.slice ka s.kn kc)
  c2 : w.cell? ⟨b, o + 2, none⟩ = some (.string s.data)
  slot : SlotAt w lo hi (.int .i64 s.birth) (.slice ka s.kn kc) (.string s.data) s

theorem SlotCells.below {w w' : World} {b o lo hi : Nat} {ka : Option Addr} {kc : Nat} {s : SlotD} (h : SlotCells w b o lo hi ka kc s) (t : Below w.heap.size w w') : SlotCells w' b o lo hi ka kc s :=
  ⟨(t.cell (lt_of_cell h.c0)).trans h.c0, (t.cell (lt_of_cell h.c1)).trans h.c1, (t.cell (lt_of_cell h.c2)).trans h.c2, h.slot.below t⟩

theorem SlotsAt.cells {w : World} {lo hi : Nat} {a : Option Addr} {n c : Nat} {f : Nat → SlotD} (h : SlotsAt w lo hi (.slice a n c) n f) {i : Nat} (hi' : i < n) :
    ∃ b off ka kc, a = some ⟨b, off, none⟩ ∧ SlotCells w b (off + i * 3) lo hi ka kc (f i) := by
  obtain ⟨h0, a2, cap, hv, hcc, hx⟩ := h
  simp only [Value.slice.injEq, true_and] at hv
  obtain ⟨rfl, rfl⟩ := hv
  obtain ⟨b, off, ha, h1, h2, h3⟩ := hx (by omega)
  obtain ⟨v0, v1, v2, c0, c1, c2, hs⟩ := h3 i hi'
  have hs' := hs
  obtain ⟨rfl, ⟨_, ka, kc, rfl, _⟩, rfl, _⟩ := hs
  exact ⟨b, off, ka, kc, ha, ⟨c0, c1, c2, hs'⟩⟩

theorem bool_no {P : Prop} {t : Bool} (ht : t = true ↔ P) (h : ¬ P) : t = false := Bool.eq_false_iff.2 (fun e => h (ht.1 e))

def Free (s : SlotD) : Prop := s.birth = 0 ∧ s.kn = 0 ∧ s.data.toList.isEmpty = true
def BirthOk (n : Int) : Prop := 1 ≤ n ∧ n ≤ 1000000
def Points (p : PoolD) (xs xb : Int) : Prop := 1 ≤ xb ∧ 0 ≤ xs ∧ xs < p.n ∧ (p.s xs.toNat).birth = xb
def KidOk (p : PoolD) (b : Int) (xs xb : Int) : Prop := (xs = 0 ∧ xb = 0) ∨ (Points p xs xb ∧ xb ≤ b)
def Fits (p : PoolD) (s : SlotD) : Prop := BirthOk s.birth ∧ ((s.kn = 0 ∧ s.data.size = 16) ∨ (s.kn = 8 ∧ s.data.toList.isEmpty = true ∧ ∀ i, i < s.kn → KidOk p s.birth (s.ks i) (s.kb i)))
def Has (n : Nat) (f : Nat → Int) (x : Int) : Prop := ∃ j, j < n ∧ f j = x
def HeldOk (p : PoolD) (i : Nat) : Prop := 0 ≤ p.h i ∧ p.h i < p.n ∧ ¬ Free (p.s (p.h i).toNat) ∧ ¬ Has i p.h (p.h i)
def Right (p : PoolD) : Prop := p.n ≤ 200 ∧ (∀ i, i < p.n → Free (p.s i) ∨ Fits p (p.s i)) ∧ ∀ i, i < p.hn → HeldOk p i

set_option maxRecDepth 20000 in
set_option maxHeartbeats 400000 in
theorem l01Free_any (v0 v1 v2 : Value) (lo hi : Nat) (s : SlotD) (w : World) (h1 : SlotAt w lo hi v0 v1 v2 s) :
    Calls Try.prog 38 #[.agg #[v0, v1, v2]] w fun e w' => BoolIs (Free s) e ∧ Below w.heap.size w w' := by
  obtain ⟨rfl, ⟨m1, a, c, rfl, _⟩, rfl, _⟩ := h1
  unfold maxLen at m1
  have hbw := (Below.refl w.heap.size w).alloc (Nat.le_refl _) (.cells #[.int .i64 s.birth, .slice a s.kn c, .string s.data] 42)
  by_cases h1 : s.birth = 0
  · by_cases h2 : s.kn = 0
    · by_cases h3 : s.data.toList.isEmpty = true
      · have H : Hid (Free s) := ⟨h1, h2, h3⟩
        have e1 : (s.birth == 0) = true := by simp [h1]
        have e2 : ((s.kn : Int) == 0) = true := by simp [h2]
        clear h1 h2
        go_enter Try.func38, Try.ntmps38
        go_wp2
        go_ret
        exact ⟨BoolIs.yes H.out, hbw⟩
      · have H : Hid (¬ Free s) := fun h => h3 h.2.2
        have e1 : (s.birth == 0) = true := by simp [h1]
        have e2 : ((s.kn : Int) == 0) = true := by simp [h2]
        have e3 : s.data.toList.isEmpty = false := by simpa using h3
        clear h1 h2 h3
        go_enter Try.func38, Try.ntmps38
        go_wp2
        go_ret
        exact ⟨BoolIs.no H.out, hbw⟩
    · have H : Hid (¬ Free s) := fun h => h2 h.2.1
      have e1 : (s.birth == 0) = true := by simp [h1]
      have e2 : ((s.kn : Int) == 0) = false := by simp; omega
      clear h1 h2
      go_enter Try.func38, Try.ntmps38
      go_wp2
      go_ret
      exact ⟨BoolIs.no H.out, hbw⟩
  · have H : Hid (¬ Free s) := fun h => h1 h.1
    have e1 : (s.birth == 0) = false := by simp [h1]
    clear h1
    go_enter Try.func38, Try.ntmps38
    go_wp2
    go_ret
    exact ⟨BoolIs.no H.out, hbw⟩

set_option maxRecDepth 20000 in
set_option maxHeartbeats 400000 in
theorem l01Birth_any (n : Int) (w : World) : Calls Try.prog 75 #[.int .i64 n] w fun e w' => BoolIs (BirthOk n) e ∧ w' = w := by
  by_cases h1 : 1 ≤ n
  · by_cases h2 : n ≤ 1000000
    · go_enter Try.func75, Try.ntmps75
      go_wp2
      go_ret
      exact ⟨BoolIs.yes ⟨h1, h2⟩, rfl⟩
    · go_enter Try.func75, Try.ntmps75
      go_wp2
      go_ret
      exact ⟨BoolIs.no fun h => by have := h.2; omega, rfl⟩
  · go_enter Try.func75, Try.ntmps75
    go_wp2
    go_ret
    exact ⟨BoolIs.no fun h => by have := h.1; omega, rfl⟩

set_option maxRecDepth 20000 in
set_option maxHeartbeats 400000 in
theorem l01None_any (a b : Int) (w : World) : Calls Try.prog 72 #[.agg #[.int .i64 a, .int .i64 b]] w fun e w' => BoolIs (PtrEq a b 0 0) e ∧ Below w.heap.size w w' := by
  have hbw := (Below.refl w.heap.size w).alloc (Nat.le_refl _) (.cells #[.int .i64 a, .int .i64 b] 35)
  by_cases h1 : a = 0
  · by_cases h2 : b = 0
    · subst h1 h2
      go_enter Try.func72, Try.ntmps72
      go_wp2
      go_ret
      exact ⟨BoolIs.yes ⟨rfl, rfl⟩, hbw⟩
    · subst h1
      have H : Hid (¬ PtrEq 0 b 0 0) := fun h => h2 h.2
      have e2 : (b == 0) = false := by simp [h2]
      clear h2
      go_enter Try.func72, Try.ntmps72
      go_wp2
      go_ret
      exact ⟨BoolIs.no H.out, hbw⟩
  · have H : Hid (¬ PtrEq a b 0 0) := fun h => h1 h.1
    have e2 : (a == 0) = false := by simp [h1]
    clear h1
    go_enter Try.func72, Try.ntmps72
    go_wp2
    go_ret
    exact ⟨BoolIs.no H.out, hbw⟩

set_option maxRecDepth 20000 in
set_option maxHeartbeats 400000 in
theorem l01Has_any (v : Value) (n lo hi : Nat) (f : Nat → Int) (x : Int) (w : World) (h1 : IntsAt w lo hi v n f) :
    Calls Try.prog 59 #[v, .int .i64 x] w fun e w' => BoolIs (Has n f x) e ∧ w' = w := by
  obtain ⟨m1, a, c, rfl, mc, g1⟩ := h1
  unfold maxLen at m1
  have G1 : Hid (0 < n → ∃ b off, a = some ⟨b, off, none⟩ ∧ lo ≤ b ∧ b < hi ∧ ∀ i, i < n → w.cell? ⟨b, off + i, none⟩ = some (.int .i64 (f i))) := g1
  clear g1
  go_enter Try.func59, Try.ntmps59
  go_wp2
  go_loop [5] (fun i => ∃ k : Nat, k ≤ n ∧ i = .int .i64 k ∧ ¬ Has k f x) (fun i => n - (intOf i).toNat)
  case atStart => exact ⟨0, Nat.zero_le _, rfl, fun ⟨j, hj, _⟩ => absurd hj (Nat.not_lt_zero _)⟩
  case round =>
    obtain ⟨k, hk, rfl, hno⟩ := hrel
    have Hno : Hid (¬ Has k f x) := hno
    clear hno
    by_cases hlt : k < n
    · have hlt' : (k : Int) < (n : Int) := by omega
      obtain ⟨b, off, rfl, _, _, k1⟩ := G1.out (by omega)
      have hc1 := k1 k hlt
      clear k1 G1
      by_cases he : f k = x
      · have H : Hid (Has n f x) := ⟨k, hlt, he⟩
        have he' : (f k == x) = true := by simp [he]
        clear he
        go_wp2
        go_ret
        exact ⟨BoolIs.yes H.out, rfl⟩
      · have H : Hid (¬ f k = x) := he
        have he' : (f k == x) = false := by simp [he]
        clear he
        go_wp2
        go_round
        case rel =>
          refine ⟨k + 1, by omega, by go_num, ?_⟩
          rintro ⟨j, hj, hjx⟩
          by_cases e : j = k
          · subst e; exact H.out hjx
          · exact Hno.out ⟨j, by omega, hjx⟩
        case measure => simp [intOf]; omega
    · obtain rfl : k = n := by omega
      go_wp2
      go_ret
      exact ⟨BoolIs.no Hno.out, rfl⟩

end Go.Proofs.Ytiijnmpenljniad
