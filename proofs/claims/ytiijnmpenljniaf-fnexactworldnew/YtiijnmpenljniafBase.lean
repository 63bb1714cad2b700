/- What a pool is in memory, as plain facts on cells (no law is proved here): lists of numbers, of pointers, of slots, a pool; that they stay when other blocks turn. -/
import Derived.WalkKit
import Derived.WalkSpells
import Derived.WalkLawsBesides
namespace Go.Proofs.Ytiijnmpenljniaf
open Go.RowKit

/-- The answer is a bool, which is true just if P. -/
def BoolIs (P : Prop) (e : Ending) : Prop := ∃ b : Bool, e = .returned (.bool b) ∧ (b = true ↔ P)

theorem BoolIs.yes {P : Prop} (h : P) : BoolIs P (.returned (.bool true)) := ⟨true, rfl, by simp [h]⟩
theorem BoolIs.no {P : Prop} (h : ¬ P) : BoolIs P (.returned (.bool false)) := ⟨false, rfl, by simp [h]⟩
theorem BoolIs.same {P : Prop} {b c : Bool} (h : b = true ↔ P) (h' : c = true ↔ P) : c = b := by
  cases b <;> cases c <;> simp_all
theorem BoolIs.congr {P Q : Prop} {e : Ending} (h : BoolIs P e) (hpq : P ↔ Q) : BoolIs Q e := by
  obtain ⟨b, he, hb⟩ := h
  exact ⟨b, he, hb.trans hpq⟩

theorem relNext {n k : Nat} {P : Nat → Prop} (hk : k < n) (h : ∀ i, i < k → P i) (hp : P k) : ∀ i, i < k + 1 → P i := fun i hi => by
  by_cases e : i = k
  · subst e; exact hp
  · exact h i (by omega)

theorem below_drewN {B : Nat} {w w' : World} (h : Below B w w') (n : Nat) : Below B w (w'.drewN n) := ⟨h.os, h.tape, h.output, h.size, h.block⟩

theorem str_eq {s t : ByteArray} (h : s = t) : (s.toList == t.toList) = true := by simp [h]
theorem str_ne {s t : ByteArray} (h : ¬ s = t) : (s.toList == t.toList) = false := by
  rw [beq_eq_false_iff_ne]
  intro e
  rw [Go.ByteArray.toList_eq, Go.ByteArray.toList_eq] at e
  apply h
  cases s; cases t
  simp only [ByteArray.mk.injEq] at *
  exact Array.toList_inj.1 e

theorem below_undrew {w w1 : World} (h : Below w.drew.heap.size w.drew w1) : Below w.heap.size w w1 := ⟨h.os, h.tape, h.output, h.size, h.block⟩

/-- A call made in a world that has grown, behind a draw. -/
theorem below_call {w wr w1 : World} (hb : Below w.heap.size w wr) (h1 : Below wr.drew.heap.size wr.drew w1) : Below w.heap.size w w1 :=
  hb.drew.trans (h1.mono hb.size)
theorem below_next {w wr w1 : World} (hb : Below w.heap.size w wr) (h1 : Below wr.heap.size wr w1) : Below w.heap.size w w1 :=
  hb.trans (h1.mono hb.size)

structure SlotD where
  birth : Int
  kn : Nat
  ks : Nat → Int
  kb : Nat → Int
  data : ByteArray

structure PoolD where
  n : Nat
  s : Nat → SlotD
  hn : Nat
  h : Nat → Int

/-- Two pointers are the same. -/
def PtrEq (a b c d : Int) : Prop := a = c ∧ b = d

/-- Two lists of numbers hold the same. -/
def IntsEq (n n' : Nat) (f f' : Nat → Int) : Prop := n = n' ∧ ∀ i, i < n → f i = f' i

def PtrsEq (n n' : Nat) (f g f' g' : Nat → Int) : Prop := n = n' ∧ ∀ i, i < n → f i = f' i ∧ g i = g' i

/-- Two slots hold the same. -/
def SlotEq (s t : SlotD) : Prop := s.birth = t.birth ∧ PtrsEq s.kn t.kn s.ks s.kb t.ks t.kb ∧ s.data = t.data

def SlotsEq (n n' : Nat) (f f' : Nat → SlotD) : Prop := n = n' ∧ ∀ i, i < n → SlotEq (f i) (f' i)

def PoolEq (p q : PoolD) : Prop := SlotsEq p.n q.n p.s q.s ∧ IntsEq p.hn q.hn p.h q.h

theorem SlotEq.refl (s : SlotD) : SlotEq s s := ⟨rfl, ⟨rfl, fun _ _ => ⟨rfl, rfl⟩⟩, rfl⟩
theorem SlotEq.symm {s t : SlotD} (h : SlotEq s t) : SlotEq t s :=
  ⟨h.1.symm, ⟨h.2.1.1.symm, fun i hi => ⟨(h.2.1.2 i (h.2.1.1 ▸ hi)).1.symm, (h.2.1.2 i (h.2.1.1 ▸ hi)).2.symm⟩⟩, h.2.2.symm⟩
theorem SlotEq.trans {s t u : SlotD} (h : SlotEq s t) (k : SlotEq t u) : SlotEq s u :=
  ⟨h.1.trans k.1, ⟨h.2.1.1.trans k.2.1.1, fun i hi => ⟨(h.2.1.2 i hi).1.trans (k.2.1.2 i (h.2.1.1 ▸ hi)).1, (h.2.1.2 i hi).2.trans (k.2.1.2 i (h.2.1.1 ▸ hi)).2⟩⟩, h.2.2.trans k.2.2⟩
theorem PoolEq.refl (p : PoolD) : PoolEq p p := ⟨⟨rfl, fun _ _ => SlotEq.refl _⟩, ⟨rfl, fun _ _ => rfl⟩⟩
theorem PoolEq.symm {s t : PoolD} (h : PoolEq s t) : PoolEq t s :=
  ⟨⟨h.1.1.symm, fun i hi => (h.1.2 i (h.1.1 ▸ hi)).symm⟩, ⟨h.2.1.symm, fun i hi => (h.2.2 i (h.2.1 ▸ hi)).symm⟩⟩
theorem PoolEq.trans {s t u : PoolD} (h : PoolEq s t) (k : PoolEq t u) : PoolEq s u :=
  ⟨⟨h.1.1.trans k.1.1, fun i hi => (h.1.2 i hi).trans (k.1.2 i (h.1.1 ▸ hi))⟩, ⟨h.2.1.trans k.2.1, fun i hi => (h.2.2 i hi).trans (k.2.2 i (h.2.1 ▸ hi))⟩⟩

/-- Blocks lo to hi are as they were. -/
def SameIn (lo hi : Nat) (w w' : World) : Prop := ∀ k, lo ≤ k → k < hi → w'.heap[k]? = w.heap[k]?

theorem SameIn.cell {lo hi : Nat} {w w' : World} (h : SameIn lo hi w w') {b o : Nat} (h1 : lo ≤ b) (h2 : b < hi) : w'.cell? ⟨b, o, none⟩ = w.cell? ⟨b, o, none⟩ :=
  World.cell?_of_block (w := w) (h b h1 h2)

theorem lt_of_cell {w : World} {b o : Nat} {v : Value} (h : w.cell? ⟨b, o, none⟩ = some v) : b < w.heap.size := by
  simp only [World.cell?] at h
  by_cases hb : b < w.heap.size
  · exact hb
  · rw [Array.getElem?_eq_none (by omega)] at h
    simp at h

/-- A slice of numbers: n of them, f tells which; if there is one, they lie in a block from lo to hi. -/
def IntsAt (w : World) (lo hi : Nat) (v : Value) (n : Nat) (f : Nat → Int) : Prop :=
  n ≤ maxLen ∧ ∃ a cap, v = .slice a n cap ∧ n ≤ cap ∧ (0 < n → ∃ b off, a = some ⟨b, off, none⟩ ∧ lo ≤ b ∧ b < hi ∧ ∀ i, i < n → w.cell? ⟨b, off + i, none⟩ = some (.int .i64 (f i)))

def PtrsAt (w : World) (lo hi : Nat) (v : Value) (n : Nat) (fs fb : Nat → Int) : Prop :=
  n ≤ maxLen ∧ ∃ a cap, v = .slice a n cap ∧ n ≤ cap ∧ (0 < n → ∃ b off, a = some ⟨b, off, none⟩ ∧ lo ≤ b ∧ b < hi ∧ ∀ i, i < n → w.cell? ⟨b, off + i * 2, none⟩ = some (.int .i64 (fs i)) ∧ w.cell? ⟨b, off + i * 2 + 1, none⟩ = some (.int .i64 (fb i)))

/-- A slot's three cells, the slice of its Kids as it lies. -/
def SlotAt (w : World) (lo hi : Nat) (v0 v1 v2 : Value) (s : SlotD) : Prop :=
  v0 = .int .i64 s.birth ∧ PtrsAt w lo hi v1 s.kn s.ks s.kb ∧ v2 = .string s.data ∧ s.data.size ≤ maxLen

def SlotsAt (w : World) (lo hi : Nat) (v : Value) (n : Nat) (f : Nat → SlotD) : Prop :=
  n ≤ maxLen ∧ ∃ a cap, v = .slice a n cap ∧ n ≤ cap ∧ (0 < n → ∃ b off, a = some ⟨b, off, none⟩ ∧ lo ≤ b ∧ b < hi ∧ ∀ i, i < n → ∃ v0 v1 v2, w.cell? ⟨b, off + i * 3, none⟩ = some v0 ∧ w.cell? ⟨b, off + i * 3 + 1, none⟩ = some v1 ∧ w.cell? ⟨b, off + i * 3 + 2, none⟩ = some v2 ∧ SlotAt w lo hi v0 v1 v2 (f i))

def PoolAt (w : World) (lo hi : Nat) (v0 v1 : Value) (p : PoolD) : Prop := SlotsAt w lo hi v0 p.n p.s ∧ IntsAt w lo hi v1 p.hn p.h

theorem IntsAt.same {w w' : World} {lo hi : Nat} {v : Value} {n : Nat} {f : Nat → Int} (h : IntsAt w lo hi v n f) (s : SameIn lo hi w w') : IntsAt w' lo hi v n f := by
  obtain ⟨h0, a, cap, hv, hcc, hc⟩ := h
  refine ⟨h0, a, cap, hv, hcc, fun hn => ?_⟩
  obtain ⟨b, off, ha, h1, h2, h3⟩ := hc hn
  exact ⟨b, off, ha, h1, h2, fun i hi => by rw [s.cell h1 h2]; exact h3 i hi⟩

theorem PtrsAt.same {w w' : World} {lo hi : Nat} {v : Value} {n : Nat} {f g : Nat → Int} (h : PtrsAt w lo hi v n f g) (s : SameIn lo hi w w') : PtrsAt w' lo hi v n f g := by
  obtain ⟨h0, a, cap, hv, hcc, hc⟩ := h
  refine ⟨h0, a, cap, hv, hcc, fun hn => ?_⟩
  obtain ⟨b, off, ha, h1, h2, h3⟩ := hc hn
  exact ⟨b, off, ha, h1, h2, fun i hi => by rw [s.cell h1 h2, s.cell h1 h2]; exact h3 i hi⟩

theorem SlotAt.same {w w' : World} {lo hi : Nat} {v0 v1 v2 : Value} {t : SlotD} (h : SlotAt w lo hi v0 v1 v2 t) (s : SameIn lo hi w w') : SlotAt w' lo hi v0 v1 v2 t :=
  ⟨h.1, h.2.1.same s, h.2.2⟩

theorem SlotsAt.same {w w' : World} {lo hi : Nat} {v : Value} {n : Nat} {f : Nat → SlotD} (h : SlotsAt w lo hi v n f) (s : SameIn lo hi w w') : SlotsAt w' lo hi v n f := by
  obtain ⟨h0, a, cap, hv, hcc, hc⟩ := h
  refine ⟨h0, a, cap, hv, hcc, fun hn => ?_⟩
  obtain ⟨b, off, ha, h1, h2, h3⟩ := hc hn
  refine ⟨b, off, ha, h1, h2, fun i hi => ?_⟩
  obtain ⟨v0, v1, v2, c0, c1, c2, hs⟩ := h3 i hi
  exact ⟨v0, v1, v2, by rw [s.cell h1 h2]; exact c0, by rw [s.cell h1 h2]; exact c1, by rw [s.cell h1 h2]; exact c2, hs.same s⟩

theorem PoolAt.same {w w' : World} {lo hi : Nat} {v0 v1 : Value} {p : PoolD} (h : PoolAt w lo hi v0 v1 p) (s : SameIn lo hi w w') : PoolAt w' lo hi v0 v1 p := ⟨h.1.same s, h.2.same s⟩

theorem SameIn.of_below {lo hi : Nat} {w w' : World} (h : Below w.heap.size w w') (hh : hi ≤ w.heap.size) : SameIn lo hi w w' := fun k _ h2 => h.block k (by omega)

theorem IntsAt.below {w w' : World} {lo hi : Nat} {v : Value} {n : Nat} {f : Nat → Int} (h : IntsAt w lo hi v n f) (s : Below w.heap.size w w') : IntsAt w' lo hi v n f := by
  obtain ⟨h0, a, cap, hv, hcc, hc⟩ := h
  refine ⟨h0, a, cap, hv, hcc, fun hn => ?_⟩
  obtain ⟨b, off, ha, h1, h2, h3⟩ := hc hn
  exact ⟨b, off, ha, h1, h2, fun i hi => (s.cell (lt_of_cell (h3 i hi))).trans (h3 i hi)⟩

theorem PtrsAt.below {w w' : World} {lo hi : Nat} {v : Value} {n : Nat} {f g : Nat → Int} (h : PtrsAt w lo hi v n f g) (s : Below w.heap.size w w') : PtrsAt w' lo hi v n f g := by
  obtain ⟨h0, a, cap, hv, hcc, hc⟩ := h
  refine ⟨h0, a, cap, hv, hcc, fun hn => ?_⟩
  obtain ⟨b, off, ha, h1, h2, h3⟩ := hc hn
  exact ⟨b, off, ha, h1, h2, fun i hi => ⟨(s.cell (lt_of_cell (h3 i hi).1)).trans (h3 i hi).1, (s.cell (lt_of_cell (h3 i hi).2)).trans (h3 i hi).2⟩⟩

theorem SlotAt.below {w w' : World} {lo hi : Nat} {v0 v1 v2 : Value} {t : SlotD} (h : SlotAt w lo hi v0 v1 v2 t) (s : Below w.heap.size w w') : SlotAt w' lo hi v0 v1 v2 t :=
  ⟨h.1, h.2.1.below s, h.2.2⟩

theorem SlotsAt.below {w w' : World} {lo hi : Nat} {v : Value} {n : Nat} {f : Nat → SlotD} (h : SlotsAt w lo hi v n f) (s : Below w.heap.size w w') : SlotsAt w' lo hi v n f := by
  obtain ⟨h0, a, cap, hv, hcc, hc⟩ := h
  refine ⟨h0, a, cap, hv, hcc, fun hn => ?_⟩
  obtain ⟨b, off, ha, h1, h2, h3⟩ := hc hn
  refine ⟨b, off, ha, h1, h2, fun i hi => ?_⟩
  obtain ⟨v0, v1, v2, c0, c1, c2, hs⟩ := h3 i hi
  exact ⟨v0, v1, v2, (s.cell (lt_of_cell c0)).trans c0, (s.cell (lt_of_cell c1)).trans c1, (s.cell (lt_of_cell c2)).trans c2, hs.below s⟩

theorem PoolAt.below {w w' : World} {lo hi : Nat} {v0 v1 : Value} {p : PoolD} (h : PoolAt w lo hi v0 v1 p) (s : Below w.heap.size w w') : PoolAt w' lo hi v0 v1 p := ⟨h.1.below s, h.2.below s⟩

end Go.Proofs.Ytiijnmpenljniaf
