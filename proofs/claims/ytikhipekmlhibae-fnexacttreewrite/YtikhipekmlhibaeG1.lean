/- What a pool is in memory, as plain facts on cells (no law is proved here): lists of numbers, of pointers, of slots, a pool; that they stay when other blocks turn. -/
import Derived.WalkKit
import Derived.WalkSpells
import Derived.WalkLawsBesides
import Derived.Test.YtikhipekmlhibaeRows
import Derived.Deep.RegionHeld3
import Derived.Deep.QuietTactic
import Derived.BigQuiet
namespace Go.Proofs.Ytikhipekmlhibae
open Go.RowKit

/-- The answer is a bool, which is true just if P. -/
def BoolIs (P : Prop) (e : Ending) : Prop := ∃ b : Bool, e = .returned (.bool b) ∧ (b = true ↔ P)

theorem BoolIs.yes {P : Prop} (h : P) : BoolIs P (.returned (.bool true)) := ⟨true, rfl, by simp [h]⟩
theorem BoolIs.no {P : Prop} (h : ¬ P) : BoolIs P (.returned (.bool false)) := ⟨false, rfl, by simp [h]⟩
theorem BoolIs.same {P : Prop} {b c : Bool} (h : b = true ↔ P) (h' : c = true ↔ P) : c = b := by
  cases b <;> cases c <;> simp_all
theorem BoolIs.congr {P Q : Prop} {e : Ending} (h : BoolIs P e) (hpq : P ↔ Q) : BoolIs Q e := by
  obtain ⟨b, he, hb⟩ := h
  exact ⟨b, he, hb.trans hpq⟩

theorem relNext {n k : Nat} {P : Nat → Prop} (hk : k < n) (h : ∀ i, i < k → P i) (hp : P k) : ∀ i, i < k + 1 → P i := fun i hi => by
  by_cases e : i = k
  · subst e; exact hp
  · exact h i (by omega)

theorem below_drewN {B : Nat} {w w' : World} (h : Below B w w') (n : Nat) : Below B w (w'.drewN n) := ⟨h.os, h.tape, h.output, h.size, h.block⟩

theorem str_eq {s t : ByteArray} (h : s = t) : (s.toList == t.toList) = true := by simp [h]
theorem str_ne {s t : ByteArray} (h : ¬ s = t) : (s.toList == t.toList) = false := by
  rw [beq_eq_false_iff_ne]
  intro e
  rw [Go.ByteArray.toList_eq, Go.ByteArray.toList_eq] at e
  apply h
  cases s; cases t
  simp only [ByteArray.mk.injEq] at *
  exact Array.toList_inj.1 e

theorem below_undrew {w w1 : World} (h : Below w.drew.heap.size w.drew w1) : Below w.heap.size w w1 := ⟨h.os, h.tape, h.output, h.size, h.block⟩

/-- A call made in a world that has grown, behind a draw. -/
theorem below_call {w wr w1 : World} (hb : Below w.heap.size w wr) (h1 : Below wr.drew.heap.size wr.drew w1) : Below w.heap.size w w1 :=
  hb.drew.trans (h1.mono hb.size)
theorem below_next {w wr w1 : World} (hb : Below w.heap.size w wr) (h1 : Below wr.heap.size wr w1) : Below w.heap.size w w1 :=
  hb.trans (h1.mono hb.size)

structure SlotD where
  birth : Int
  kn : Nat
  ks : Nat → Int
  kb : Nat → Int
  data : ByteArray

structure PoolD where
  n : Nat
  s : Nat → SlotD
  hn : Nat
  h : Nat → Int

/-- Two pointers are the same. -/
def PtrEq (a b c d : Int) : Prop := a = c ∧ b = d

/-- Two lists of numbers hold the same. -/
def IntsEq (n n' : Nat) (f f' : Nat → Int) : Prop := n = n' ∧ ∀ i, i < n → f i = f' i

def PtrsEq (n n' : Nat) (f g f' g' : Nat → Int) : Prop := n = n' ∧ ∀ i, i < n → f i = f' i ∧ g i = g' i

/-- Two slots hold the same. -/
def SlotEq (s t : SlotD) : Prop := s.birth = t.birth ∧ PtrsEq s.kn t.kn s.ks s.kb t.ks t.kb ∧ s.data = t.data

def SlotsEq (n n' : Nat) (f f' : Nat → SlotD) : Prop := n = n' ∧ ∀ i, i < n → SlotEq (f i) (f' i)

def PoolEq (p q : PoolD) : Prop := SlotsEq p.n q.n p.s q.s ∧ IntsEq p.hn q.hn p.h q.h

theorem SlotEq.refl (s : SlotD) : SlotEq s s := ⟨rfl, ⟨rfl, fun _ _ => ⟨rfl, rfl⟩⟩, rfl⟩
theorem SlotEq.symm {s t : SlotD} (h : SlotEq s t) : SlotEq t s :=
  ⟨h.1.symm, ⟨h.2.1.1.symm, fun i hi => ⟨(h.2.1.2 i (h.2.1.1 ▸ hi)).1.symm, (h.2.1.2 i (h.2.1.1 ▸ hi)).2.symm⟩⟩, h.2.2.symm⟩
theorem SlotEq.trans {s t u : SlotD} (h : SlotEq s t) (k : SlotEq t u) : SlotEq s u :=
  ⟨h.1.trans k.1, ⟨h.2.1.1.trans k.2.1.1, fun i hi => ⟨(h.2.1.2 i hi).1.trans (k.2.1.2 i (h.2.1.1 ▸ hi)).1, (h.2.1.2 i hi).2.trans (k.2.1.2 i (h.2.1.1 ▸ hi)).2⟩⟩, h.2.2.trans k.2.2⟩
theorem PoolEq.refl (p : PoolD) : PoolEq p p := ⟨⟨rfl, fun _ _ => SlotEq.refl _⟩, ⟨rfl, fun _ _ => rfl⟩⟩
theorem PoolEq.symm {s t : PoolD} (h : PoolEq s t) : PoolEq t s :=
  ⟨⟨h.1.1.symm, fun i hi => (h.1.2 i (h.1.1 ▸ hi)).symm⟩, ⟨h.2.1.symm, fun i hi => (h.2.2 i (h.2.1 ▸ hi)).symm⟩⟩
theorem PoolEq.trans {s t u : PoolD} (h : PoolEq s t) (k : PoolEq t u) : PoolEq s u :=
  ⟨⟨h.1.1.trans k.1.1, fun i hi => (h.1.2 i hi).trans (k.1.2 i (h.1.1 ▸ hi))⟩, ⟨h.2.1.trans k.2.1, fun i hi => (h.2.2 i hi).trans (k.2.2 i (h.2.1 ▸ hi))⟩⟩

/-- Blocks lo to hi are as they were. -/
def SameIn (lo hi : Nat) (w w' : World) : Prop := ∀ k, lo ≤ k → k < hi → w'.heap[k]? = w.heap[k]?

theorem SameIn.cell {lo hi : Nat} {w w' : World} (h : SameIn lo hi w w') {b o : Nat} (h1 : lo ≤ b) (h2 : b < hi) : w'.cell? ⟨b, o, none⟩ = w.cell? ⟨b, o, none⟩ :=
  World.cell?_of_block (w := w) (h b h1 h2)

theorem lt_of_cell {w : World} {b o : Nat} {v : Value} (h : w.cell? ⟨b, o, none⟩ = some v) : b < w.heap.size := by
  simp only [World.cell?] at h
  by_cases hb : b < w.heap.size
  · exact hb
  · rw [Array.getElem?_eq_none (by omega)] at h
    simp at h

/-- A slice of numbers: n of them, f tells which; if there is one, they lie in a block from lo to hi. -/
def IntsAt (w : World) (lo hi : Nat) (v : Value) (n : Nat) (f : Nat → Int) : Prop :=
  n ≤ maxLen ∧ ∃ a cap, v = .slice a n cap ∧ n ≤ cap ∧ (0 < n → ∃ b off, a = some ⟨b, off, none⟩ ∧ lo ≤ b ∧ b < hi ∧ ∀ i, i < n → w.cell? ⟨b, off + i, none⟩ = some (.int .i64 (f i)))

def PtrsAt (w : World) (lo hi : Nat) (v : Value) (n : Nat) (fs fb : Nat → Int) : Prop :=
  n ≤ maxLen ∧ ∃ a cap, v = .slice a n cap ∧ n ≤ cap ∧ (0 < n → ∃ b off, a = some ⟨b, off, none⟩ ∧ lo ≤ b ∧ b < hi ∧ ∀ i, i < n → w.cell? ⟨b, off + i * 2, none⟩ = some (.int .i64 (fs i)) ∧ w.cell? ⟨b, off + i * 2 + 1, none⟩ = some (.int .i64 (fb i)))

/-- A slot's three cells, the slice of its Kids as it lies. -/
def SlotAt (w : World) (lo hi : Nat) (v0 v1 v2 : Value) (s : SlotD) : Prop :=
  v0 = .int .i64 s.birth ∧ PtrsAt w lo hi v1 s.kn s.ks s.kb ∧ v2 = .string s.data ∧ s.data.size ≤ maxLen

def SlotsAt (w : World) (lo hi : Nat) (v : Value) (n : Nat) (f : Nat → SlotD) : Prop :=
  n ≤ maxLen ∧ ∃ a cap, v = .slice a n cap ∧ n ≤ cap ∧ (0 < n → ∃ b off, a = some ⟨b, off, none⟩ ∧ lo ≤ b ∧ b < hi ∧ ∀ i, i < n → ∃ v0 v1 v2, w.cell? ⟨b, off + i * 3, none⟩ = some v0 ∧ w.cell? ⟨b, off + i * 3 + 1, none⟩ = some v1 ∧ w.cell? ⟨b, off + i * 3 + 2, none⟩ = some v2 ∧ SlotAt w lo hi v0 v1 v2 (f i))

def PoolAt (w : World) (lo hi : Nat) (v0 v1 : Value) (p : PoolD) : Prop := SlotsAt w lo hi v0 p.n p.s ∧ IntsAt w lo hi v1 p.hn p.h

theorem IntsAt.same {w w' : World} {lo hi : Nat} {v : Value} {n : Nat} {f : Nat → Int} (h : IntsAt w lo hi v n f) (s : SameIn lo hi w w') : IntsAt w' lo hi v n f := by
  obtain ⟨h0, a, cap, hv, hcc, hc⟩ := h
  refine ⟨h0, a, cap, hv, hcc, fun hn => ?_⟩
  obtain ⟨b, off, ha, h1, h2, h3⟩ := hc hn
  exact ⟨b, off, ha, h1, h2, fun i hi => by rw [s.cell h1 h2]; exact h3 i hi⟩

theorem PtrsAt.same {w w' : World} {lo hi : Nat} {v : Value} {n : Nat} {f g : Nat → Int} (h : PtrsAt w lo hi v n f g) (s : SameIn lo hi w w') : PtrsAt w' lo hi v n f g := by
  obtain ⟨h0, a, cap, hv, hcc, hc⟩ := h
  refine ⟨h0, a, cap, hv, hcc, fun hn => ?_⟩
  obtain ⟨b, off, ha, h1, h2, h3⟩ := hc hn
  exact ⟨b, off, ha, h1, h2, fun i hi => by rw [s.cell h1 h2, s.cell h1 h2]; exact h3 i hi⟩

theorem SlotAt.same {w w' : World} {lo hi : Nat} {v0 v1 v2 : Value} {t : SlotD} (h : SlotAt w lo hi v0 v1 v2 t) (s : SameIn lo hi w w') : SlotAt w' lo hi v0 v1 v2 t :=
  ⟨h.1, h.2.1.same s, h.2.2⟩

theorem SlotsAt.same {w w' : World} {lo hi : Nat} {v : Value} {n : Nat} {f : Nat → SlotD} (h : SlotsAt w lo hi v n f) (s : SameIn lo hi w w') : SlotsAt w' lo hi v n f := by
  obtain ⟨h0, a, cap, hv, hcc, hc⟩ := h
  refine ⟨h0, a, cap, hv, hcc, fun hn => ?_⟩
  obtain ⟨b, off, ha, h1, h2, h3⟩ := hc hn
  refine ⟨b, off, ha, h1, h2, fun i hi => ?_⟩
  obtain ⟨v0, v1, v2, c0, c1, c2, hs⟩ := h3 i hi
  exact ⟨v0, v1, v2, by rw [s.cell h1 h2]; exact c0, by rw [s.cell h1 h2]; exact c1, by rw [s.cell h1 h2]; exact c2, hs.same s⟩

theorem PoolAt.same {w w' : World} {lo hi : Nat} {v0 v1 : Value} {p : PoolD} (h : PoolAt w lo hi v0 v1 p) (s : SameIn lo hi w w') : PoolAt w' lo hi v0 v1 p := ⟨h.1.same s, h.2.same s⟩

theorem SameIn.of_below {lo hi : Nat} {w w' : World} (h : Below w.heap.size w w') (hh : hi ≤ w.heap.size) : SameIn lo hi w w' := fun k _ h2 => h.block k (by omega)

theorem IntsAt.below {w w' : World} {lo hi : Nat} {v : Value} {n : Nat} {f : Nat → Int} (h : IntsAt w lo hi v n f) (s : Below w.heap.size w w') : IntsAt w' lo hi v n f := by
  obtain ⟨h0, a, cap, hv, hcc, hc⟩ := h
  refine ⟨h0, a, cap, hv, hcc, fun hn => ?_⟩
  obtain ⟨b, off, ha, h1, h2, h3⟩ := hc hn
  exact ⟨b, off, ha, h1, h2, fun i hi => (s.cell (lt_of_cell (h3 i hi))).trans (h3 i hi)⟩

theorem PtrsAt.below {w w' : World} {lo hi : Nat} {v : Value} {n : Nat} {f g : Nat → Int} (h : PtrsAt w lo hi v n f g) (s : Below w.heap.size w w') : PtrsAt w' lo hi v n f g := by
  obtain ⟨h0, a, cap, hv, hcc, hc⟩ := h
  refine ⟨h0, a, cap, hv, hcc, fun hn => ?_⟩
  obtain ⟨b, off, ha, h1, h2, h3⟩ := hc hn
  exact ⟨b, off, ha, h1, h2, fun i hi => ⟨(s.cell (lt_of_cell (h3 i hi).1)).trans (h3 i hi).1, (s.cell (lt_of_cell (h3 i hi).2)).trans (h3 i hi).2⟩⟩

theorem SlotAt.below {w w' : World} {lo hi : Nat} {v0 v1 v2 : Value} {t : SlotD} (h : SlotAt w lo hi v0 v1 v2 t) (s : Below w.heap.size w w') : SlotAt w' lo hi v0 v1 v2 t :=
  ⟨h.1, h.2.1.below s, h.2.2⟩

theorem SlotsAt.below {w w' : World} {lo hi : Nat} {v : Value} {n : Nat} {f : Nat → SlotD} (h : SlotsAt w lo hi v n f) (s : Below w.heap.size w w') : SlotsAt w' lo hi v n f := by
  obtain ⟨h0, a, cap, hv, hcc, hc⟩ := h
  refine ⟨h0, a, cap, hv, hcc, fun hn => ?_⟩
  obtain ⟨b, off, ha, h1, h2, h3⟩ := hc hn
  refine ⟨b, off, ha, h1, h2, fun i hi => ?_⟩
  obtain ⟨v0, v1, v2, c0, c1, c2, hs⟩ := h3 i hi
  exact ⟨v0, v1, v2, (s.cell (lt_of_cell c0)).trans c0, (s.cell (lt_of_cell c1)).trans c1, (s.cell (lt_of_cell c2)).trans c2, hs.below s⟩

theorem PoolAt.below {w w' : World} {lo hi : Nat} {v0 v1 : Value} {p : PoolD} (h : PoolAt w lo hi v0 v1 p) (s : Below w.heap.size w w') : PoolAt w' lo hi v0 v1 p := ⟨h.1.below s, h.2.below s⟩

end Go.Proofs.Ytikhipekmlhibae

namespace Go.Proofs.Ytikhipekmlhibae
open Go.RowKit
set_option linter.unusedVariables false

/-- The first n of a slice's numbers. -/
theorem IntsAt.take {w : World} {lo hi : Nat} {a : Option Addr} {n c m c' : Nat} {f : Nat → Int} (h : IntsAt w lo hi (.slice a n c) n f) (hm : m ≤ n) (hc : m ≤ c') : IntsAt w lo hi (.slice a m c') m f := by
  obtain ⟨h0, a2, cap, hv, hcc, hx⟩ := h
  simp only [Value.slice.injEq, true_and] at hv
  obtain ⟨rfl, rfl⟩ := hv
  refine ⟨by omega, a, c', rfl, hc, fun h0 => ?_⟩
  obtain ⟨b, off, ha, h1, h2, h3⟩ := hx (by omega)
  exact ⟨b, off, ha, h1, h2, fun i hi => h3 i (by omega)⟩

/-- The cells of a slot, as they are read. -/
structure SlotCells (w : World) (b o : Nat) (lo hi : Nat) (ka : Option Addr) (kc : Nat) (s : SlotD) : Prop where
  c0 : w.cell? ⟨b, o, none⟩ = some (.int .i64 s.birth)
  c1 : w.cell? ⟨b, o + 1, none⟩ = some (.slice ka s.kn kc)
  c2 : w.cell? ⟨b, o + 2, none⟩ = some (.string s.data)
  slot : SlotAt w lo hi (.int .i64 s.birth) (.slice ka s.kn kc) (.string s.data) s

theorem SlotCells.below {w w' : World} {b o lo hi : Nat} {ka : Option Addr} {kc : Nat} {s : SlotD} (h : SlotCells w b o lo hi ka kc s) (t : Below w.heap.size w w') : SlotCells w' b o lo hi ka kc s :=
  ⟨(t.cell (lt_of_cell h.c0)).trans h.c0, (t.cell (lt_of_cell h.c1)).trans h.c1, (t.cell (lt_of_cell h.c2)).trans h.c2, h.slot.below t⟩

theorem SlotsAt.cells {w : World} {lo hi : Nat} {a : Option Addr} {n c : Nat} {f : Nat → SlotD} (h : SlotsAt w lo hi (.slice a n c) n f) {i : Nat} (hi' : i < n) :
    ∃ b off ka kc, a = some ⟨b, off, none⟩ ∧ SlotCells w b (off + i * 3) lo hi ka kc (f i) := by
  obtain ⟨h0, a2, cap, hv, hcc, hx⟩ := h
  simp only [Value.slice.injEq, true_and] at hv
  obtain ⟨rfl, rfl⟩ := hv
  obtain ⟨b, off, ha, h1, h2, h3⟩ := hx (by omega)
  obtain ⟨v0, v1, v2, c0, c1, c2, hs⟩ := h3 i hi'
  have hs' := hs
  obtain ⟨rfl, ⟨_, ka, kc, rfl, _⟩, rfl, _⟩ := hs
  exact ⟨b, off, ka, kc, ha, ⟨c0, c1, c2, hs'⟩⟩

theorem bool_no {P : Prop} {t : Bool} (ht : t = true ↔ P) (h : ¬ P) : t = false := Bool.eq_false_iff.2 (fun e => h (ht.1 e))

def Free (s : SlotD) : Prop := s.birth = 0 ∧ s.kn = 0 ∧ s.data.toList.isEmpty = true
def BirthOk (n : Int) : Prop := 1 ≤ n ∧ n ≤ 1000000
def Points (p : PoolD) (xs xb : Int) : Prop := 1 ≤ xb ∧ 0 ≤ xs ∧ xs < p.n ∧ (p.s xs.toNat).birth = xb
def KidOk (p : PoolD) (b : Int) (xs xb : Int) : Prop := (xs = 0 ∧ xb = 0) ∨ (Points p xs xb ∧ xb ≤ b)
def Fits (p : PoolD) (s : SlotD) : Prop := BirthOk s.birth ∧ ((s.kn = 0 ∧ s.data.size = 16) ∨ (s.kn = 8 ∧ s.data.toList.isEmpty = true ∧ ∀ i, i < s.kn → KidOk p s.birth (s.ks i) (s.kb i)))
def Has (n : Nat) (f : Nat → Int) (x : Int) : Prop := ∃ j, j < n ∧ f j = x
def HeldOk (p : PoolD) (i : Nat) : Prop := 0 ≤ p.h i ∧ p.h i < p.n ∧ ¬ Free (p.s (p.h i).toNat) ∧ ¬ Has i p.h (p.h i)
def Right (p : PoolD) : Prop := p.n ≤ 200 ∧ (∀ i, i < p.n → Free (p.s i) ∨ Fits p (p.s i)) ∧ ∀ i, i < p.hn → HeldOk p i

set_option maxRecDepth 20000 in
set_option maxHeartbeats 400000 in
theorem l01Free_any (v0 v1 v2 : Value) (lo hi : Nat) (s : SlotD) (w : World) (h1 : SlotAt w lo hi v0 v1 v2 s) :
    Calls Try.prog 78 #[.agg #[v0, v1, v2]] w fun e w' => BoolIs (Free s) e ∧ Below w.heap.size w w' := by
  obtain ⟨rfl, ⟨m1, a, c, rfl, _⟩, rfl, _⟩ := h1
  unfold maxLen at m1
  have hbw := (Below.refl w.heap.size w).alloc (Nat.le_refl _) (.cells #[.int .i64 s.birth, .slice a s.kn c, .string s.data] 75)
  by_cases h1 : s.birth = 0
  · by_cases h2 : s.kn = 0
    · by_cases h3 : s.data.toList.isEmpty = true
      · have H : Hid (Free s) := ⟨h1, h2, h3⟩
        have e1 : (s.birth == 0) = true := by simp [h1]
        have e2 : ((s.kn : Int) == 0) = true := by simp [h2]
        clear h1 h2
        go_enter Try.func78, Try.ntmps78
        go_wp2
        go_ret
        exact ⟨BoolIs.yes H.out, hbw⟩
      · have H : Hid (¬ Free s) := fun h => h3 h.2.2
        have e1 : (s.birth == 0) = true := by simp [h1]
        have e2 : ((s.kn : Int) == 0) = true := by simp [h2]
        have e3 : s.data.toList.isEmpty = false := by simpa using h3
        clear h1 h2 h3
        go_enter Try.func78, Try.ntmps78
        go_wp2
        go_ret
        exact ⟨BoolIs.no H.out, hbw⟩
    · have H : Hid (¬ Free s) := fun h => h2 h.2.1
      have e1 : (s.birth == 0) = true := by simp [h1]
      have e2 : ((s.kn : Int) == 0) = false := by simp; omega
      clear h1 h2
      go_enter Try.func78, Try.ntmps78
      go_wp2
      go_ret
      exact ⟨BoolIs.no H.out, hbw⟩
  · have H : Hid (¬ Free s) := fun h => h1 h.1
    have e1 : (s.birth == 0) = false := by simp [h1]
    clear h1
    go_enter Try.func78, Try.ntmps78
    go_wp2
    go_ret
    exact ⟨BoolIs.no H.out, hbw⟩

set_option maxRecDepth 20000 in
set_option maxHeartbeats 400000 in
theorem l01Birth_any (n : Int) (w : World) : Calls Try.prog 67 #[.int .i64 n] w fun e w' => BoolIs (BirthOk n) e ∧ w' = w := by
  by_cases h1 : 1 ≤ n
  · by_cases h2 : n ≤ 1000000
    · go_enter Try.func67, Try.ntmps67
      go_wp2
      go_ret
      exact ⟨BoolIs.yes ⟨h1, h2⟩, rfl⟩
    · go_enter Try.func67, Try.ntmps67
      go_wp2
      go_ret
      exact ⟨BoolIs.no fun h => by have := h.2; omega, rfl⟩
  · go_enter Try.func67, Try.ntmps67
    go_wp2
    go_ret
    exact ⟨BoolIs.no fun h => by have := h.1; omega, rfl⟩

set_option maxRecDepth 20000 in
set_option maxHeartbeats 400000 in
theorem l01None_any (a b : Int) (w : World) : Calls Try.prog 62 #[.agg #[.int .i64 a, .int .i64 b]] w fun e w' => BoolIs (PtrEq a b 0 0) e ∧ Below w.heap.size w w' := by
  have hbw := (Below.refl w.heap.size w).alloc (Nat.le_refl _) (.cells #[.int .i64 a, .int .i64 b] 32)
  by_cases h1 : a = 0
  · by_cases h2 : b = 0
    · subst h1 h2
      go_enter Try.func62, Try.ntmps62
      go_wp2
      go_ret
      exact ⟨BoolIs.yes ⟨rfl, rfl⟩, hbw⟩
    · subst h1
      have H : Hid (¬ PtrEq 0 b 0 0) := fun h => h2 h.2
      have e2 : (b == 0) = false := by simp [h2]
      clear h2
      go_enter Try.func62, Try.ntmps62
      go_wp2
      go_ret
      exact ⟨BoolIs.no H.out, hbw⟩
  · have H : Hid (¬ PtrEq a b 0 0) := fun h => h1 h.1
    have e2 : (a == 0) = false := by simp [h1]
    clear h1
    go_enter Try.func62, Try.ntmps62
    go_wp2
    go_ret
    exact ⟨BoolIs.no H.out, hbw⟩

set_option maxRecDepth 20000 in
set_option maxHeartbeats 400000 in
theorem l01Has_any (v : Value) (n lo hi : Nat) (f : Nat → Int) (x : Int) (w : World) (h1 : IntsAt w lo hi v n f) :
    Calls Try.prog 95 #[v, .int .i64 x] w fun e w' => BoolIs (Has n f x) e ∧ w' = w := by
  obtain ⟨m1, a, c, rfl, mc, g1⟩ := h1
  unfold maxLen at m1
  have G1 : Hid (0 < n → ∃ b off, a = some ⟨b, off, none⟩ ∧ lo ≤ b ∧ b < hi ∧ ∀ i, i < n → w.cell? ⟨b, off + i, none⟩ = some (.int .i64 (f i))) := g1
  clear g1
  go_enter Try.func95, Try.ntmps95
  go_wp2
  go_loop [5] (fun i => ∃ k : Nat, k ≤ n ∧ i = .int .i64 k ∧ ¬ Has k f x) (fun i => n - (intOf i).toNat)
  case atStart => exact ⟨0, Nat.zero_le _, rfl, fun ⟨j, hj, _⟩ => absurd hj (Nat.not_lt_zero _)⟩
  case round =>
    obtain ⟨k, hk, rfl, hno⟩ := hrel
    have Hno : Hid (¬ Has k f x) := hno
    clear hno
    by_cases hlt : k < n
    · have hlt' : (k : Int) < (n : Int) := by omega
      obtain ⟨b, off, rfl, _, _, k1⟩ := G1.out (by omega)
      have hc1 := k1 k hlt
      clear k1 G1
      by_cases he : f k = x
      · have H : Hid (Has n f x) := ⟨k, hlt, he⟩
        have he' : (f k == x) = true := by simp [he]
        clear he
        go_wp2
        go_ret
        exact ⟨BoolIs.yes H.out, rfl⟩
      · have H : Hid (¬ f k = x) := he
        have he' : (f k == x) = false := by simp [he]
        clear he
        go_wp2
        go_round
        case rel =>
          refine ⟨k + 1, by omega, by go_num, ?_⟩
          rintro ⟨j, hj, hjx⟩
          by_cases e : j = k
          · subst e; exact H.out hjx
          · exact Hno.out ⟨j, by omega, hjx⟩
        case measure => simp [intOf]; omega
    · obtain rfl : k = n := by omega
      go_wp2
      go_ret
      exact ⟨BoolIs.no Hno.out, rfl⟩

end Go.Proofs.Ytikhipekmlhibae

namespace Go.Proofs.Ytikhipekmlhibae
open Go.RowKit

/-- Of the blocks that were there, those outside S are as they were. -/
structure Turned (S : Nat → Prop) (w w' : World) : Prop where
  os : w'.os = w.os
  tape : w'.tape = w.tape
  output : w'.output = w.output
  size : w.heap.size ≤ w'.heap.size
  block : ∀ k, k < w.heap.size → ¬ S k → w'.heap[k]? = w.heap[k]?

theorem Turned.refl (S : Nat → Prop) (w : World) : Turned S w w := ⟨rfl, rfl, rfl, Nat.le_refl _, fun _ _ _ => rfl⟩
theorem Turned.trans {S : Nat → Prop} {a b c : World} (h : Turned S a b) (k : Turned S b c) : Turned S a c :=
  ⟨k.os.trans h.os, k.tape.trans h.tape, k.output.trans h.output, Nat.le_trans h.size k.size, fun i hi hs => (k.block i (Nat.lt_of_lt_of_le hi h.size) hs).trans (h.block i hi hs)⟩
theorem Turned.mono {S T : Nat → Prop} {a b : World} (h : Turned S a b) (hst : ∀ k, S k → T k) : Turned T a b :=
  ⟨h.os, h.tape, h.output, h.size, fun i hi hs => h.block i hi (fun x => hs (hst i x))⟩
theorem Turned.of_below {S : Nat → Prop} {w w' : World} (h : Below w.heap.size w w') : Turned S w w' := ⟨h.os, h.tape, h.output, h.size, fun k hk _ => h.block k hk⟩
theorem Turned.below {S : Nat → Prop} {w w' : World} (h : Turned S w w') {B : Nat} (hB : B ≤ w.heap.size) (hs : ∀ k, S k → B ≤ k) : Below B w w' :=
  ⟨h.os, h.tape, h.output, h.size, fun k hk => h.block k (by omega) (fun x => by have := hs k x; omega)⟩
theorem Turned.setCell {S : Nat → Prop} {w w' : World} (h : Turned S w w') {p : Addr} (hp : S p.block) (u : Value) : Turned S w (w'.setCell p u) :=
  h.trans ⟨rfl, rfl, rfl, by simp, fun k _ hs => Below.heap_setCell _ _ _ _ (fun e => hs (e ▸ hp))⟩
theorem Turned.put (w : World) (b o : Nat) (u : Value) : Turned (fun k => k = b) w (w.setCell ⟨b, o, none⟩ u) :=
  (Turned.refl (fun k => k = b) w).setCell (p := ⟨b, o, none⟩) rfl u
theorem Turned.alloc {S : Nat → Prop} {w w' : World} (h : Turned S w w') (o : Obj) : Turned S w (w'.alloc o) :=
  h.trans ⟨rfl, rfl, rfl, by simp, fun k hk _ => Below.heap_alloc _ _ _ hk⟩
theorem Turned.cell {S : Nat → Prop} {w w' : World} (h : Turned S w w') {b o : Nat} (hb : b < w.heap.size) (hs : ¬ S b) : w'.cell? ⟨b, o, none⟩ = w.cell? ⟨b, o, none⟩ :=
  World.cell?_of_block (w := w) (h.block b hb hs)
theorem Turned.frozen {S : Nat → Prop} {w w' : World} (h : Turned S w w') {b o : Nat} (hb : b < w.heap.size) (hs : ¬ S b) : w'.frozen? ⟨b, o, none⟩ = w.frozen? ⟨b, o, none⟩ :=
  World.frozen?_of_block (w := w) (h.block b hb hs)
theorem Turned.same {S : Nat → Prop} {w w' : World} (h : Turned S w w') {lo hi : Nat} (hh : hi ≤ w.heap.size) (hs : ∀ k, S k → k < lo ∨ hi ≤ k) : SameIn lo hi w w' :=
  fun k h1 h2 => h.block k (by omega) (fun x => by have := hs k x; omega)

/-- A cell of a block that the call may write. -/
def Cell (w : World) (b o : Nat) (v : Value) : Prop := w.cell? ⟨b, o, none⟩ = some v ∧ w.frozen? ⟨b, o, none⟩ = false

theorem Cell.lt {w : World} {b o : Nat} {v : Value} (h : Cell w b o v) : b < w.heap.size := lt_of_cell h.1
theorem Cell.turned {S : Nat → Prop} {w w' : World} {b o : Nat} {v : Value} (h : Cell w b o v) (t : Turned S w w') (hs : ¬ S b) : Cell w' b o v :=
  ⟨(t.cell h.lt hs).trans h.1, (t.frozen h.lt hs).trans h.2⟩
theorem Cell.below {w w' : World} {b o : Nat} {v : Value} (h : Cell w b o v) (t : Below w.heap.size w w') : Cell w' b o v :=
  ⟨(t.cell h.lt).trans h.1, (t.frozen h.lt).trans h.2⟩
theorem Cell.set {w : World} {b o : Nat} {v : Value} (h : Cell w b o v) (u : Value) : Cell (w.setCell ⟨b, o, none⟩ u) b o u :=
  ⟨World.cell?_setCell_same' _ _ _ (by rw [h.1]; rfl), by rw [World.frozen?_setCell]; exact h.2⟩
theorem Cell.other {w : World} {b o : Nat} {v : Value} (h : Cell w b o v) {b' o' : Nat} (u : Value) (hne : b' ≠ b ∨ o' ≠ o) : Cell (w.setCell ⟨b', o', none⟩ u) b o v := by
  refine ⟨?_, by rw [World.frozen?_setCell]; exact h.2⟩
  rw [World.cell?_setCell_other]
  · exact h.1
  · intro e
    simp only [Addr.mk.injEq] at e
    rcases hne with h | h
    · exact h e.1
    · exact h e.2.1

/-- Where a list of numbers has room behind it, it is the beginning of its block, and the block is no greater. -/
def Room (w : World) (b : Nat) (a : Option Addr) (n cap : Nat) : Prop := n < cap → 0 < n ∧ a = some ⟨b, 0, none⟩ ∧ cap ≤ maxLen ∧ ∃ cur, w.heap[b]? = some (.cells cur 2 (0, 0)) ∧ cur.size = cap

def IntsOwn (w : World) (b : Nat) (v : Value) (n : Nat) (f : Nat → Int) : Prop :=
  n ≤ maxLen ∧ ∃ a cap, v = .slice a n cap ∧ n ≤ cap ∧ (0 < n → ∃ off, a = some ⟨b, off, none⟩ ∧ ∀ i, i < n → Cell w b (off + i) (.int .i64 (f i))) ∧ Room w b a n cap

def PtrsOwn (w : World) (b : Nat) (v : Value) (n : Nat) (fs fb : Nat → Int) : Prop :=
  n ≤ maxLen ∧ ∃ a cap, v = .slice a n cap ∧ n ≤ cap ∧ (0 < n → ∃ off, a = some ⟨b, off, none⟩ ∧ ∀ i, i < n → Cell w b (off + i * 2) (.int .i64 (fs i)) ∧ Cell w b (off + i * 2 + 1) (.int .i64 (fb i)))

theorem IntsOwn.at {w : World} {b : Nat} {v : Value} {n : Nat} {f : Nat → Int} (h : IntsOwn w b v n f) {lo hi : Nat} (hb : 0 < n → lo ≤ b ∧ b < hi) : IntsAt w lo hi v n f := by
  obtain ⟨h0, a, cap, hv, hcc, hc, hr⟩ := h
  refine ⟨h0, a, cap, hv, hcc, fun hn => ?_⟩
  obtain ⟨off, ha, h3⟩ := hc hn
  exact ⟨b, off, ha, (hb hn).1, (hb hn).2, fun i hi => (h3 i hi).1⟩

theorem PtrsOwn.at {w : World} {b : Nat} {v : Value} {n : Nat} {f g : Nat → Int} (h : PtrsOwn w b v n f g) {lo hi : Nat} (hb : 0 < n → lo ≤ b ∧ b < hi) : PtrsAt w lo hi v n f g := by
  obtain ⟨h0, a, cap, hv, hcc, hc⟩ := h
  refine ⟨h0, a, cap, hv, hcc, fun hn => ?_⟩
  obtain ⟨off, ha, h3⟩ := hc hn
  exact ⟨b, off, ha, (hb hn).1, (hb hn).2, fun i hi => ⟨(h3 i hi).1.1, (h3 i hi).2.1⟩⟩

theorem IntsOwn.turned {S : Nat → Prop} {w w' : World} {b : Nat} {v : Value} {n : Nat} {f : Nat → Int} (h : IntsOwn w b v n f) (t : Turned S w w') (hs : 0 < n → ¬ S b) : IntsOwn w' b v n f := by
  obtain ⟨h0, a, cap, hv, hcc, hc, hr⟩ := h
  refine ⟨h0, a, cap, hv, hcc, fun hn => ?_, fun hlt => ?_⟩
  rotate_left
  · obtain ⟨r0, r1, r2, cur, r3, r4⟩ := hr hlt
    exact ⟨r0, r1, r2, cur, (t.block b (Array.getElem?_eq_some_iff.1 r3).1 (hs r0)).trans r3, r4⟩
  obtain ⟨off, ha, h3⟩ := hc hn
  exact ⟨off, ha, fun i hi => (h3 i hi).turned t (hs hn)⟩

theorem PtrsOwn.turned {S : Nat → Prop} {w w' : World} {b : Nat} {v : Value} {n : Nat} {f g : Nat → Int} (h : PtrsOwn w b v n f g) (t : Turned S w w') (hs : 0 < n → ¬ S b) : PtrsOwn w' b v n f g := by
  obtain ⟨h0, a, cap, hv, hcc, hc⟩ := h
  refine ⟨h0, a, cap, hv, hcc, fun hn => ?_⟩
  obtain ⟨off, ha, h3⟩ := hc hn
  exact ⟨off, ha, fun i hi => ⟨(h3 i hi).1.turned t (hs hn), (h3 i hi).2.turned t (hs hn)⟩⟩

theorem PtrsOwn.below {w w' : World} {b : Nat} {v : Value} {n : Nat} {f g : Nat → Int} (h : PtrsOwn w b v n f g) (t : Below w.heap.size w w') : PtrsOwn w' b v n f g :=
  h.turned (Turned.of_below (S := fun _ => False) t) (fun _ h => h)
theorem IntsOwn.below {w w' : World} {b : Nat} {v : Value} {n : Nat} {f : Nat → Int} (h : IntsOwn w b v n f) (t : Below w.heap.size w w') : IntsOwn w' b v n f :=
  h.turned (Turned.of_below (S := fun _ => False) t) (fun _ h => h)

theorem PtrsOwn.congr {w : World} {b : Nat} {v : Value} {n : Nat} {f g f' g' : Nat → Int} (h : PtrsOwn w b v n f g) (e : ∀ i, i < n → f i = f' i ∧ g i = g' i) : PtrsOwn w b v n f' g' := by
  obtain ⟨h0, a, cap, hv, hcc, hc⟩ := h
  refine ⟨h0, a, cap, hv, hcc, fun hn => ?_⟩
  obtain ⟨off, ha, h3⟩ := hc hn
  exact ⟨off, ha, fun i hi => ⟨(e i hi).1 ▸ (h3 i hi).1, (e i hi).2 ▸ (h3 i hi).2⟩⟩
theorem IntsOwn.congr {w : World} {b : Nat} {v : Value} {n : Nat} {f f' : Nat → Int} (h : IntsOwn w b v n f) (e : ∀ i, i < n → f i = f' i) : IntsOwn w b v n f' := by
  obtain ⟨h0, a, cap, hv, hcc, hc, hr⟩ := h
  refine ⟨h0, a, cap, hv, hcc, fun hn => ?_, hr⟩
  obtain ⟨off, ha, h3⟩ := hc hn
  exact ⟨off, ha, fun i hi => (e i hi) ▸ (h3 i hi)⟩

/-- A slot of a row that the call owns: its cells from o on in the block bs, its Kids (the slice kv) in the block kb. -/
structure SlotOwn (w : World) (bs o kb : Nat) (kv : Value) (s : SlotD) : Prop where
  birth : Cell w bs o (.int .i64 s.birth)
  kidsv : Cell w bs (o + 1) kv
  data : Cell w bs (o + 2) (.string s.data)
  kids : PtrsOwn w kb kv s.kn s.ks s.kb
  small : s.data.size ≤ maxLen
  apart : 0 < s.kn → kb ≠ bs

theorem SlotOwn.turned {S : Nat → Prop} {w w' : World} {bs o kb : Nat} {kv : Value} {s : SlotD} (h : SlotOwn w bs o kb kv s) (t : Turned S w w') (h1 : ¬ S bs) (h2 : 0 < s.kn → ¬ S kb) : SlotOwn w' bs o kb kv s :=
  ⟨h.birth.turned t h1, h.kidsv.turned t h1, h.data.turned t h1, h.kids.turned t h2, h.small, h.apart⟩
theorem SlotOwn.below {w w' : World} {bs o kb : Nat} {kv : Value} {s : SlotD} (h : SlotOwn w bs o kb kv s) (t : Below w.heap.size w w') : SlotOwn w' bs o kb kv s :=
  h.turned (Turned.of_below (S := fun _ => False) t) (fun h => h) (fun _ h => h)
theorem SlotOwn.at {w : World} {bs o kb : Nat} {kv : Value} {s : SlotD} (h : SlotOwn w bs o kb kv s) {lo hi : Nat} (hb : 0 < s.kn → lo ≤ kb ∧ kb < hi) : SlotAt w lo hi (.int .i64 s.birth) kv (.string s.data) s :=
  ⟨rfl, h.kids.at hb, rfl, h.small⟩

def SlotsOwn (w : World) (bs : Nat) (kb : Nat → Nat) (kv : Nat → Value) (v : Value) (n : Nat) (f : Nat → SlotD) : Prop :=
  n ≤ maxLen ∧ ∃ a cap, v = .slice a n cap ∧ n ≤ cap ∧ (0 < n → ∃ off, a = some ⟨bs, off, none⟩ ∧ ∀ i, i < n → SlotOwn w bs (off + i * 3) (kb i) (kv i) (f i))

/-- No two slots' Kids lie in one block. -/
def KidsApart (kb : Nat → Nat) (n : Nat) (f : Nat → SlotD) : Prop := ∀ i j, i < n → j < n → i ≠ j → 0 < (f i).kn → 0 < (f j).kn → kb i ≠ kb j

def SlotsIn (lo hi bs : Nat) (kb : Nat → Nat) (n : Nat) (f : Nat → SlotD) : Prop := 0 < n → (lo ≤ bs ∧ bs < hi) ∧ ∀ i, i < n → 0 < (f i).kn → lo ≤ kb i ∧ kb i < hi

theorem SlotsOwn.at {w : World} {bs : Nat} {kb : Nat → Nat} {kv : Nat → Value} {v : Value} {n : Nat} {f : Nat → SlotD} (h : SlotsOwn w bs kb kv v n f) {lo hi : Nat} (hb : SlotsIn lo hi bs kb n f) : SlotsAt w lo hi v n f := by
  obtain ⟨h0, a, cap, hv, hcc, hc⟩ := h
  refine ⟨h0, a, cap, hv, hcc, fun hn => ?_⟩
  obtain ⟨off, ha, h3⟩ := hc hn
  refine ⟨bs, off, ha, (hb hn).1.1, (hb hn).1.2, fun i hi => ?_⟩
  exact ⟨_, _, _, (h3 i hi).birth.1, (h3 i hi).kidsv.1, (h3 i hi).data.1, (h3 i hi).at ((hb hn).2 i hi)⟩

theorem SlotsOwn.below {w w' : World} {bs : Nat} {kb : Nat → Nat} {kv : Nat → Value} {v : Value} {n : Nat} {f : Nat → SlotD} (h : SlotsOwn w bs kb kv v n f) (t : Below w.heap.size w w') : SlotsOwn w' bs kb kv v n f := by
  obtain ⟨h0, a, cap, hv, hcc, hc⟩ := h
  refine ⟨h0, a, cap, hv, hcc, fun hn => ?_⟩
  obtain ⟨off, ha, h3⟩ := hc hn
  exact ⟨off, ha, fun i hi => (h3 i hi).below t⟩

theorem SlotsOwn.turned {S : Nat → Prop} {w w' : World} {bs : Nat} {kb : Nat → Nat} {kv : Nat → Value} {v : Value} {n : Nat} {f : Nat → SlotD} (h : SlotsOwn w bs kb kv v n f) (t : Turned S w w')
    (h1 : 0 < n → ¬ S bs) (h2 : ∀ i, i < n → 0 < (f i).kn → ¬ S (kb i)) : SlotsOwn w' bs kb kv v n f := by
  obtain ⟨h0, a, cap, hv, hcc, hc⟩ := h
  refine ⟨h0, a, cap, hv, hcc, fun hn => ?_⟩
  obtain ⟨off, ha, h3⟩ := hc hn
  exact ⟨off, ha, fun i hi => (h3 i hi).turned t (h1 hn) (h2 i hi)⟩

/-- A variable of two cells. -/
def Box2 (w : World) (b : Nat) (v0 v1 : Value) : Prop := Cell w b 0 v0 ∧ Cell w b 1 v1
theorem Box2.below {w w' : World} {b : Nat} {v0 v1 : Value} (h : Box2 w b v0 v1) (t : Below w.heap.size w w') : Box2 w' b v0 v1 := ⟨h.1.below t, h.2.below t⟩
theorem Box2.turned {S : Nat → Prop} {w w' : World} {b : Nat} {v0 v1 : Value} (h : Box2 w b v0 v1) (t : Turned S w w') (hs : ¬ S b) : Box2 w' b v0 v1 := ⟨h.1.turned t hs, h.2.turned t hs⟩
theorem Box2.new (w : World) (v0 v1 : Value) (t : TypeId) : Box2 (w.alloc (.cells #[v0, v1] t)) w.heap.size v0 v1 :=
  ⟨⟨by rw [World.cell?_alloc_at (hn := rfl)]; rfl, by rw [World.frozen?_alloc_at (hn := rfl)]⟩, ⟨by rw [World.cell?_alloc_at (hn := rfl)]; rfl, by rw [World.frozen?_alloc_at (hn := rfl)]⟩⟩
/-- A variable of three cells. -/
def Box3 (w : World) (b : Nat) (v0 v1 v2 : Value) : Prop := Cell w b 0 v0 ∧ Cell w b 1 v1 ∧ Cell w b 2 v2
theorem Box3.below {w w' : World} {b : Nat} {v0 v1 v2 : Value} (h : Box3 w b v0 v1 v2) (t : Below w.heap.size w w') : Box3 w' b v0 v1 v2 := ⟨h.1.below t, h.2.1.below t, h.2.2.below t⟩
theorem Box3.turned {S : Nat → Prop} {w w' : World} {b : Nat} {v0 v1 v2 : Value} (h : Box3 w b v0 v1 v2) (t : Turned S w w') (hs : ¬ S b) : Box3 w' b v0 v1 v2 := ⟨h.1.turned t hs, h.2.1.turned t hs, h.2.2.turned t hs⟩
theorem Box3.new (w : World) (v0 v1 v2 : Value) (t : TypeId) : Box3 (w.alloc (.cells #[v0, v1, v2] t)) w.heap.size v0 v1 v2 :=
  ⟨⟨by rw [World.cell?_alloc_at (hn := rfl)]; rfl, by rw [World.frozen?_alloc_at (hn := rfl)]⟩, ⟨by rw [World.cell?_alloc_at (hn := rfl)]; rfl, by rw [World.frozen?_alloc_at (hn := rfl)]⟩, ⟨by rw [World.cell?_alloc_at (hn := rfl)]; rfl, by rw [World.frozen?_alloc_at (hn := rfl)]⟩⟩
theorem Box3.put {w : World} {b : Nat} {v0 v1 v2 : Value} (h : Box3 w b v0 v1 v2) (u0 u1 u2 : Value) : Box3 (((w.setCell ⟨b, 0, none⟩ u0).setCell ⟨b, 1, none⟩ u1).setCell ⟨b, 2, none⟩ u2) b u0 u1 u2 :=
  ⟨((h.1.set u0).other _ (Or.inr (by omega))).other _ (Or.inr (by omega)), ((h.2.1.other _ (Or.inr (by omega))).set u1).other _ (Or.inr (by omega)), ((h.2.2.other _ (Or.inr (by omega))).other _ (Or.inr (by omega))).set u2⟩
theorem Box2.put {w : World} {b : Nat} {v0 v1 : Value} (h : Box2 w b v0 v1) (u0 u1 : Value) : Box2 ((w.setCell ⟨b, 0, none⟩ u0).setCell ⟨b, 1, none⟩ u1) b u0 u1 :=
  ⟨(h.1.set u0).other _ (Or.inr (by omega)), (h.2.other _ (Or.inr (by omega))).set u1⟩
theorem Box3.other {w : World} {b : Nat} {v0 v1 v2 : Value} (h : Box3 w b v0 v1 v2) {b' o' : Nat} (u : Value) (hne : b' ≠ b) : Box3 (w.setCell ⟨b', o', none⟩ u) b v0 v1 v2 :=
  ⟨h.1.other u (Or.inl hne), h.2.1.other u (Or.inl hne), h.2.2.other u (Or.inl hne)⟩
theorem Box2.other {w : World} {b : Nat} {v0 v1 : Value} (h : Box2 w b v0 v1) {b' o' : Nat} (u : Value) (hne : b' ≠ b) : Box2 (w.setCell ⟨b', o', none⟩ u) b v0 v1 :=
  ⟨h.1.other u (Or.inl hne), h.2.other u (Or.inl hne)⟩
theorem PtrsOwn.put {w : World} {b : Nat} {v : Value} {n : Nat} {f g : Nat → Int} (h : PtrsOwn w b v n f g) {b' o' : Nat} (u : Value) (hne : b' ≠ b) : PtrsOwn (w.setCell ⟨b', o', none⟩ u) b v n f g :=
  h.turned (Turned.put w b' o' u) (fun _ e => hne e.symm)
theorem IntsOwn.put {w : World} {b : Nat} {v : Value} {n : Nat} {f : Nat → Int} (h : IntsOwn w b v n f) {b' o' : Nat} (u : Value) (hne : b' ≠ b) : IntsOwn (w.setCell ⟨b', o', none⟩ u) b v n f :=
  h.turned (Turned.put w b' o' u) (fun _ e => hne e.symm)
theorem below_alloc (w : World) (o : Obj) : Below w.heap.size w (w.alloc o) := (Below.refl _ _).alloc (Nat.le_refl _) o

theorem cell_of_block {w : World} {b i : Nat} {cs : Array Value} {t : TypeId} {v : Value} (h : w.heap[b]? = some (.cells cs t)) (hi : cs[i]? = some v) : Cell w b i v := by
  refine ⟨?_, ?_⟩
  · simp [World.cell?, h, hi]
  · simp [World.frozen?, h]

theorem heap_setCell_at {w : World} {b o : Nat} {cs : Array Value} {t : TypeId} (v : Value) (h : w.heap[b]? = some (.cells cs t)) : (w.setCell ⟨b, o, none⟩ v).heap[b]? = some (.cells (cs.setIfInBounds o v) t) := by
  simp [World.setCell, Array.getElem?_modify, h]

theorem owns_form {w : World} {base e size : Nat} {v : Value} {n : Nat} {xs : List Value} (h : w.ownsRow base e size v n xs) : ∃ a cap, v = .slice a n cap ∧ n ≤ cap := by
  obtain ⟨_, ⟨h, rfl⟩ | ⟨g, cap, cur, hv, _, _, hle, _⟩⟩ := h
  · exact ⟨none, 0, h, Nat.le_refl _⟩
  · exact ⟨_, cap, hv, hle⟩

theorem owns_cell {w : World} {base e size : Nat} {v : Value} {n : Nat} {xs : List Value} (h : w.ownsRow base e size v n xs) (hn : 0 < n) :
    ∃ g cap, v = .slice (some ⟨g, 0, none⟩) n cap ∧ n ≤ cap ∧ base ≤ g ∧ g < w.heap.size ∧ ∀ j u, xs[j]? = some u → Cell w g j u := by
  obtain ⟨_, ⟨h, rfl⟩ | ⟨g, cap, cur, hv, hb, hg, h1, h2, h3, h4⟩⟩ := h
  · omega
  · refine ⟨g, cap, hv, h1, hb, ?_, fun j u hj => ?_⟩
    · by_cases hlt : g < w.heap.size
      · exact hlt
      · rw [Array.getElem?_eq_none (by omega)] at hg; simp at hg
    · refine ⟨?_, ?_⟩
      · simp only [World.cell?, hg]
        have hj' : (cur.toList.take (n * size))[j]? = some u := by rw [h4]; exact hj
        rw [List.getElem?_take] at hj'
        split at hj'
        · simpa using hj'
        · simp at hj'
      · simp only [World.frozen?, hg]
        simp

theorem grown_block {w w1 : World} {v : Value} {b base e size n : Nat} {xs : List Value} (hg : w.grownBy w1 v.ownBlock) (hown : w.ownsRow base e size v n xs) (hb : b < base) (hlt : b < w.heap.size) : w1.heap[b]? = w.heap[b]? :=
  hg.block b hlt (fun e => by have := hown.lt b e.symm; omega)

end Go.Proofs.Ytikhipekmlhibae
