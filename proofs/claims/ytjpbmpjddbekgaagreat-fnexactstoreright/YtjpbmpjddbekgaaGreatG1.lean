/- What a pool is in memory, as plain facts on cells (no law is proved here): lists of numbers, of pointers, of slots, a pool; that they stay when other blocks turn. -/
import Derived.WalkKit
import Derived.WalkSpells
import Derived.WalkLawsBesides
import Derived.Deep.RegionHeld
namespace Go.Proofs.YtjpbmpjddbekgaaGreat
open Go.RowKit

/-- The answer is a bool, which is true just if P. -/
def BoolIs (P : Prop) (e : Ending) : Prop := ∃ b : Bool, e = .returned (.bool b) ∧ (b = true ↔ P)

theorem BoolIs.yes {P : Prop} (h : P) : BoolIs P (.returned (.bool true)) := ⟨true, rfl, by simp [h]⟩
theorem BoolIs.no {P : Prop} (h : ¬ P) : BoolIs P (.returned (.bool false)) := ⟨false, rfl, by simp [h]⟩
theorem BoolIs.same {P : Prop} {b c : Bool} (h : b = true ↔ P) (h' : c = true ↔ P) : c = b := by
  cases b <;> cases c <;> simp_all
theorem BoolIs.congr {P Q : Prop} {e : Ending} (h : BoolIs P e) (hpq : P ↔ Q) : BoolIs Q e := by
  obtain ⟨b, he, hb⟩ := h
  exact ⟨b, he, hb.trans hpq⟩

theorem relNext {n k : Nat} {P : Nat → Prop} (hk : k < n) (h : ∀ i, i < k → P i) (hp : P k) : ∀ i, i < k + 1 → P i := fun i hi => by
  by_cases e : i = k
  · subst e; exact hp
  · exact h i (by omega)

theorem below_drewN {B : Nat} {w w' : World} (h : Below B w w') (n : Nat) : Below B w (w'.drewN n) := ⟨h.os, h.tape, h.output, h.size, h.block⟩

theorem str_eq {s t : ByteArray} (h : s = t) : (s.toList == t.toList) = true := by simp [h]
theorem str_ne {s t : ByteArray} (h : ¬ s = t) : (s.toList == t.toList) = false := by
  rw [beq_eq_false_iff_ne]
  intro e
  rw [Go.ByteArray.toList_eq, Go.ByteArray.toList_eq] at e
  apply h
  cases s; cases t
  simp only [ByteArray.mk.injEq] at *
  exact Array.toList_inj.1 e

theorem below_undrew {w w1 : World} (h : Below w.drew.heap.size w.drew w1) : Below w.heap.size w w1 := ⟨h.os, h.tape, h.output, h.size, h.block⟩

/-- A call made in a world that has grown, behind a draw. -/
theorem below_call {w wr w1 : World} (hb : Below w.heap.size w wr) (h1 : Below wr.drew.heap.size wr.drew w1) : Below w.heap.size w w1 :=
  hb.drew.trans (h1.mono hb.size)
theorem below_next {w wr w1 : World} (hb : Below w.heap.size w wr) (h1 : Below wr.heap.size wr w1) : Below w.heap.size w w1 :=
  hb.trans (h1.mono hb.size)

structure SlotD where
  birth : Int
  kn : Nat
  ks : Nat → Int
  kb : Nat → Int
  data : ByteArray

structure PoolD where
  n : Nat
  s : Nat → SlotD
  hn : Nat
  h : Nat → Int

/-- Two pointers are the same. -/
def PtrEq (a b c d : Int) : Prop := a = c ∧ b = d

/-- Two lists of numbers hold the same. -/
def IntsEq (n n' : Nat) (f f' : Nat → Int) : Prop := n = n' ∧ ∀ i, i < n → f i = f' i

def PtrsEq (n n' : Nat) (f g f' g' : Nat → Int) : Prop := n = n' ∧ ∀ i, i < n → f i = f' i ∧ g i = g' i

/-- Two slots hold the same. -/
def SlotEq (s t : SlotD) : Prop := s.birth = t.birth ∧ PtrsEq s.kn t.kn s.ks s.kb t.ks t.kb ∧ s.data = t.data

def SlotsEq (n n' : Nat) (f f' : Nat → SlotD) : Prop := n = n' ∧ ∀ i, i < n → SlotEq (f i) (f' i)

def PoolEq (p q : PoolD) : Prop := SlotsEq p.n q.n p.s q.s ∧ IntsEq p.hn q.hn p.h q.h

theorem SlotEq.refl (s : SlotD) : SlotEq s s := ⟨rfl, ⟨rfl, fun _ _ => ⟨rfl, rfl⟩⟩, rfl⟩
theorem SlotEq.symm {s t : SlotD} (h : SlotEq s t) : SlotEq t s :=
  ⟨h.1.symm, ⟨h.2.1.1.symm, fun i hi => ⟨(h.2.1.2 i (h.2.1.1 ▸ hi)).1.symm, (h.2.1.2 i (h.2.1.1 ▸ hi)).2.symm⟩⟩, h.2.2.symm⟩
theorem SlotEq.trans {s t u : SlotD} (h : SlotEq s t) (k : SlotEq t u) : SlotEq s u :=
  ⟨h.1.trans k.1, ⟨h.2.1.1.trans k.2.1.1, fun i hi => ⟨(h.2.1.2 i hi).1.trans (k.2.1.2 i (h.2.1.1 ▸ hi)).1, (h.2.1.2 i hi).2.trans (k.2.1.2 i (h.2.1.1 ▸ hi)).2⟩⟩, h.2.2.trans k.2.2⟩
theorem PoolEq.refl (p : PoolD) : PoolEq p p := ⟨⟨rfl, fun _ _ => SlotEq.refl _⟩, ⟨rfl, fun _ _ => rfl⟩⟩
theorem PoolEq.symm {s t : PoolD} (h : PoolEq s t) : PoolEq t s :=
  ⟨⟨h.1.1.symm, fun i hi => (h.1.2 i (h.1.1 ▸ hi)).symm⟩, ⟨h.2.1.symm, fun i hi => (h.2.2 i (h.2.1 ▸ hi)).symm⟩⟩
theorem PoolEq.trans {s t u : PoolD} (h : PoolEq s t) (k : PoolEq t u) : PoolEq s u :=
  ⟨⟨h.1.1.trans k.1.1, fun i hi => (h.1.2 i hi).trans (k.1.2 i (h.1.1 ▸ hi))⟩, ⟨h.2.1.trans k.2.1, fun i hi => (h.2.2 i hi).trans (k.2.2 i (h.2.1 ▸ hi))⟩⟩

/-- Blocks lo to hi are as they were. -/
def SameIn (lo hi : Nat) (w w' : World) : Prop := ∀ k, lo ≤ k → k < hi → w'.heap[k]? = w.heap[k]?

theorem SameIn.cell {lo hi : Nat} {w w' : World} (h : SameIn lo hi w w') {b o : Nat} (h1 : lo ≤ b) (h2 : b < hi) : w'.cell? ⟨b, o, none⟩ = w.cell? ⟨b, o, none⟩ :=
  World.cell?_of_block (w := w) (h b h1 h2)

theorem lt_of_cell {w : World} {b o : Nat} {v : Value} (h : w.cell? ⟨b, o, none⟩ = some v) : b < w.heap.size := by
  simp only [World.cell?] at h
  by_cases hb : b < w.heap.size
  · exact hb
  · rw [Array.getElem?_eq_none (by omega)] at h
    simp at h

/-- A slice of numbers: n of them, f tells which; if there is one, they lie in a block from lo to hi. -/
def IntsAt (w : World) (lo hi : Nat) (v : Value) (n : Nat) (f : Nat → Int) : Prop :=
  n ≤ maxLen ∧ ∃ a cap, v = .slice a n cap ∧ n ≤ cap ∧ (0 < n → ∃ b off, a = some ⟨b, off, none⟩ ∧ lo ≤ b ∧ b < hi ∧ ∀ i, i < n → w.cell? ⟨b, off + i, none⟩ = some (.int .i64 (f i)))

def PtrsAt (w : World) (lo hi : Nat) (v : Value) (n : Nat) (fs fb : Nat → Int) : Prop :=
  n ≤ maxLen ∧ ∃ a cap, v = .slice a n cap ∧ n ≤ cap ∧ (0 < n → ∃ b off, a = some ⟨b, off, none⟩ ∧ lo ≤ b ∧ b < hi ∧ ∀ i, i < n → w.cell? ⟨b, off + i * 2, none⟩ = some (.int .i64 (fs i)) ∧ w.cell? ⟨b, off + i * 2 + 1, none⟩ = some (.int .i64 (fb i)))

/-- A slot's three cells, the slice of its Kids as it lies. -/
def SlotAt (w : World) (lo hi : Nat) (v0 v1 v2 : Value) (s : SlotD) : Prop :=
  v0 = .int .i64 s.birth ∧ PtrsAt w lo hi v1 s.kn s.ks s.kb ∧ v2 = .string s.data ∧ s.data.size ≤ maxLen

def SlotsAt (w : World) (lo hi : Nat) (v : Value) (n : Nat) (f : Nat → SlotD) : Prop :=
  n ≤ maxLen ∧ ∃ a cap, v = .slice a n cap ∧ n ≤ cap ∧ (0 < n → ∃ b off, a = some ⟨b, off, none⟩ ∧ lo ≤ b ∧ b < hi ∧ ∀ i, i < n → ∃ v0 v1 v2, w.cell? ⟨b, off + i * 3, none⟩ = some v0 ∧ w.cell? ⟨b, off + i * 3 + 1, none⟩ = some v1 ∧ w.cell? ⟨b, off + i * 3 + 2, none⟩ = some v2 ∧ SlotAt w lo hi v0 v1 v2 (f i))

def PoolAt (w : World) (lo hi : Nat) (v0 v1 : Value) (p : PoolD) : Prop := SlotsAt w lo hi v0 p.n p.s ∧ IntsAt w lo hi v1 p.hn p.h

theorem IntsAt.same {w w' : World} {lo hi : Nat} {v : Value} {n : Nat} {f : Nat → Int} (h : IntsAt w lo hi v n f) (s : SameIn lo hi w w') : IntsAt w' lo hi v n f := by
  obtain ⟨h0, a, cap, hv, hcc, hc⟩ := h
  refine ⟨h0, a, cap, hv, hcc, fun hn => ?_⟩
  obtain ⟨b, off, ha, h1, h2, h3⟩ := hc hn
  exact ⟨b, off, ha, h1, h2, fun i hi => by rw [s.cell h1 h2]; exact h3 i hi⟩

theorem PtrsAt.same {w w' : World} {lo hi : Nat} {v : Value} {n : Nat} {f g : Nat → Int} (h : PtrsAt w lo hi v n f g) (s : SameIn lo hi w w') : PtrsAt w' lo hi v n f g := by
  obtain ⟨h0, a, cap, hv, hcc, hc⟩ := h
  refine ⟨h0, a, cap, hv, hcc, fun hn => ?_⟩
  obtain ⟨b, off, ha, h1, h2, h3⟩ := hc hn
  exact ⟨b, off, ha, h1, h2, fun i hi => by rw [s.cell h1 h2, s.cell h1 h2]; exact h3 i hi⟩

theorem SlotAt.same {w w' : World} {lo hi : Nat} {v0 v1 v2 : Value} {t : SlotD} (h : SlotAt w lo hi v0 v1 v2 t) (s : SameIn lo hi w w') : SlotAt w' lo hi v0 v1 v2 t :=
  ⟨h.1, h.2.1.same s, h.2.2⟩

theorem SlotsAt.same {w w' : World} {lo hi : Nat} {v : Value} {n : Nat} {f : Nat → SlotD} (h : SlotsAt w lo hi v n f) (s : SameIn lo hi w w') : SlotsAt w' lo hi v n f := by
  obtain ⟨h0, a, cap, hv, hcc, hc⟩ := h
  refine ⟨h0, a, cap, hv, hcc, fun hn => ?_⟩
  obtain ⟨b, off, ha, h1, h2, h3⟩ := hc hn
  refine ⟨b, off, ha, h1, h2, fun i hi => ?_⟩
  obtain ⟨v0, v1, v2, c0, c1, c2, hs⟩ := h3 i hi
  exact ⟨v0, v1, v2, by rw [s.cell h1 h2]; exact c0, by rw [s.cell h1 h2]; exact c1, by rw [s.cell h1 h2]; exact c2, hs.same s⟩

theorem PoolAt.same {w w' : World} {lo hi : Nat} {v0 v1 : Value} {p : PoolD} (h : PoolAt w lo hi v0 v1 p) (s : SameIn lo hi w w') : PoolAt w' lo hi v0 v1 p := ⟨h.1.same s, h.2.same s⟩

theorem SameIn.of_below {lo hi : Nat} {w w' : World} (h : Below w.heap.size w w') (hh : hi ≤ w.heap.size) : SameIn lo hi w w' := fun k _ h2 => h.block k (by omega)

theorem IntsAt.below {w w' : World} {lo hi : Nat} {v : Value} {n : Nat} {f : Nat → Int} (h : IntsAt w lo hi v n f) (s : Below w.heap.size w w') : IntsAt w' lo hi v n f := by
  obtain ⟨h0, a, cap, hv, hcc, hc⟩ := h
  refine ⟨h0, a, cap, hv, hcc, fun hn => ?_⟩
  obtain ⟨b, off, ha, h1, h2, h3⟩ := hc hn
  exact ⟨b, off, ha, h1, h2, fun i hi => (s.cell (lt_of_cell (h3 i hi))).trans (h3 i hi)⟩

theorem PtrsAt.below {w w' : World} {lo hi : Nat} {v : Value} {n : Nat} {f g : Nat → Int} (h : PtrsAt w lo hi v n f g) (s : Below w.heap.size w w') : PtrsAt w' lo hi v n f g := by
  obtain ⟨h0, a, cap, hv, hcc, hc⟩ := h
  refine ⟨h0, a, cap, hv, hcc, fun hn => ?_⟩
  obtain ⟨b, off, ha, h1, h2, h3⟩ := hc hn
  exact ⟨b, off, ha, h1, h2, fun i hi => ⟨(s.cell (lt_of_cell (h3 i hi).1)).trans (h3 i hi).1, (s.cell (lt_of_cell (h3 i hi).2)).trans (h3 i hi).2⟩⟩

theorem SlotAt.below {w w' : World} {lo hi : Nat} {v0 v1 v2 : Value} {t : SlotD} (h : SlotAt w lo hi v0 v1 v2 t) (s : Below w.heap.size w w') : SlotAt w' lo hi v0 v1 v2 t :=
  ⟨h.1, h.2.1.below s, h.2.2⟩

theorem SlotsAt.below {w w' : World} {lo hi : Nat} {v : Value} {n : Nat} {f : Nat → SlotD} (h : SlotsAt w lo hi v n f) (s : Below w.heap.size w w') : SlotsAt w' lo hi v n f := by
  obtain ⟨h0, a, cap, hv, hcc, hc⟩ := h
  refine ⟨h0, a, cap, hv, hcc, fun hn => ?_⟩
  obtain ⟨b, off, ha, h1, h2, h3⟩ := hc hn
  refine ⟨b, off, ha, h1, h2, fun i hi => ?_⟩
  obtain ⟨v0, v1, v2, c0, c1, c2, hs⟩ := h3 i hi
  exact ⟨v0, v1, v2, (s.cell (lt_of_cell c0)).trans c0, (s.cell (lt_of_cell c1)).trans c1, (s.cell (lt_of_cell c2)).trans c2, hs.below s⟩

theorem PoolAt.below {w w' : World} {lo hi : Nat} {v0 v1 : Value} {p : PoolD} (h : PoolAt w lo hi v0 v1 p) (s : Below w.heap.size w w') : PoolAt w' lo hi v0 v1 p := ⟨h.1.below s, h.2.below s⟩

end Go.Proofs.YtjpbmpjddbekgaaGreat

namespace Go.Proofs.YtjpbmpjddbekgaaGreat
set_option linter.unusedVariables false

theorem s1 {α : Type} (l : List α) (i : Nat) (a : α) : l.toArray.setIfInBounds i a = (l.set i a).toArray := List.setIfInBounds_toArray ..
theorem s2 {α : Type} (x : α) (l : List α) (a : α) : (x :: l).set 0 a = a :: l := rfl
theorem s3 {α : Type} (x : α) (l : List α) (i : Nat) (a : α) : (x :: l).set (i + 1) a = x :: l.set i a := rfl
/-- The i-th of a list, such that it comes out as it was written. -/
def nthO : List Oper → Nat → Option Oper
  | [], _ => none
  | o :: _, 0 => some o
  | _ :: l, n + 1 => nthO l n
theorem nthO_list : ∀ (l : List Oper) (i : Nat), l[i]? = nthO l i
  | [], _ => rfl
  | _ :: _, 0 => rfl
  | _ :: l, n + 1 => by simpa [nthO] using nthO_list l n
theorem nthO_get {ops : Array Oper} {i : Nat} {o : Oper} (h : nthO ops.toList i = some o) : ops[i]? = some o := by
  rw [← h, ← nthO_list, Array.getElem?_toList]

section
variable {P : Program} {md : Region.Mode} {ops : Array Oper} {Q : Exit → Act → World → Prop} {S : World → Prop}
/-- An operation that may be taken first, is wanted, and yields v. -/
theorem tk (i : Nat) {o : Oper} {v : Value} {fuel : Nat} {listed l' : Array Bool} {a a' : Act} {w : World} (hi : nthO ops.toList i = some o := by exact rfl)
    (hb : (Region.noSelect ops && (Region.free md ops listed i && (Region.ready md ops listed).contains i)) = true := by kernel_rfl)
    (hw : Region.wanted o (yielded ops a.tmps) = true := by exact rfl) (hS : S w := by assumption)
    (hy : ∀ w, S w → (execOp a.eval o).run P w = .ok (.value v) w := by (intro w hSw; (try dsimp only at hSw); go_simp; try with_reducible rfl))
    (hl : listed.setIfInBounds i true = l' := by ((try simp only [s1, s2, s3]); exact rfl))
    (ha : a.put o.dst v = a' := by ((try simp only [Act.put, s1, s2, s3]); exact rfl))
    (hQ : ∀ c a w, Q (.panic c) (a.put o.dst v) w → Q (.panic c) a w := by exact fun _ _ _ h => h)
    (h : wpAnyH P md ops Q S fuel l' a' w) : wpAnyH P md ops Q S (fuel + 1) listed a w := by
  simp only [Bool.and_eq_true] at hb
  subst hl ha
  exact wpAnyH_take (nthO_get hi) hb.1 hb.2.1 hb.2.2 hQ (Or.inl ⟨hw, hy⟩) hS h
/-- One that is not wanted. -/
theorem ts (i : Nat) {o : Oper} {fuel : Nat} {listed l' : Array Bool} {a a' : Act} {w : World} (hi : nthO ops.toList i = some o := by exact rfl)
    (hb : (Region.noSelect ops && (Region.free md ops listed i && (Region.ready md ops listed).contains i)) = true := by kernel_rfl)
    (hw : Region.wanted o (yielded ops a.tmps) = false := by exact rfl) (hS : S w := by assumption)
    (hl : listed.setIfInBounds i true = l' := by ((try simp only [s1, s2, s3]); exact rfl))
    (ha : a.put o.dst undef = a' := by ((try simp only [Act.put, s1, s2, s3]); exact rfl))
    (hQ : ∀ c a w, Q (.panic c) (a.put o.dst undef) w → Q (.panic c) a w := by exact fun _ _ _ h => h)
    (h : wpAnyH P md ops Q S fuel l' a' w) : wpAnyH P md ops Q S (fuel + 1) listed a w := by
  simp only [Bool.and_eq_true] at hb
  subst hl ha
  exact wpAnyH_take (nthO_get hi) hb.1 hb.2.1 hb.2.2 hQ (Or.inr ⟨hw, rfl⟩) hS h
/-- Those that may come up next. -/
theorem rd (rs : List Nat) {fuel : Nat} {listed : Array Bool} {a : Act} {w : World} (h : AllReadyH P md ops Q S fuel listed a w rs)
    (hr : Region.ready md ops listed = rs := by kernel_rfl) (hne : rs ≠ [] := by simp) : wpAnyH P md ops Q S (fuel + 1) listed a w := wpAnyH_ready hr hne h
theorem rc {fuel : Nat} {listed : Array Bool} {a : Act} {w : World} {i : Nat} {o : Oper} {rs : List Nat}
    (h : ∀ K' : Act → World → Prop, Shut (∀ a w, S w → (S w → wpAnyH P md ops Q S fuel (listed.setIfInBounds i true) a w) → K' a w) → if Region.wanted o (yielded ops a.tmps) = true then Oper.wp P o a w K' Q else K' (a.put o.dst undef) w)
    (hs : AllReadyH P md ops Q S fuel listed a w rs) (ho : nthO ops.toList i = some o := by exact rfl) : AllReadyH P md ops Q S fuel listed a w (i :: rs) := AllReadyH.cons (nthO_get ho) h hs
end

end Go.Proofs.YtjpbmpjddbekgaaGreat

namespace Go.Proofs.YtjpbmpjddbekgaaGreat
open Go.RowKit
set_option linter.unusedVariables false

structure SetD where
  name : ByteArray
  origin : Int
  prev : Int
  rs : Int
  rb : Int
  dn : Nat
  ds : Nat → Int
  db : Nat → Int

structure SnapD where
  id : Int
  name : ByteArray
  set : ByteArray
  prev : Int
  time : Int
  rs : Int
  rb : Int
  dn : Nat
  ds : Nat → Int
  db : Nat → Int

structure WorldD where
  pool : PoolD
  time : Int
  next : Int
  sn : Nat
  sets : Nat → SetD
  pn : Nat
  snaps : Nat → SnapD

/-- A set's six cells, the list of what was dropped as it lies. -/
structure SetCells (w : World) (b o lo hi : Nat) (vd : Value) (s : SetD) : Prop where
  c0 : w.cell? ⟨b, o, none⟩ = some (.string s.name)
  c1 : w.cell? ⟨b, o + 1, none⟩ = some (.int .i64 s.origin)
  c2 : w.cell? ⟨b, o + 2, none⟩ = some (.int .i64 s.prev)
  c3 : w.cell? ⟨b, o + 3, none⟩ = some (.int .i64 s.rs)
  c4 : w.cell? ⟨b, o + 4, none⟩ = some (.int .i64 s.rb)
  c5 : w.cell? ⟨b, o + 5, none⟩ = some vd
  dead : PtrsAt w lo hi vd s.dn s.ds s.db
  small : s.name.size ≤ maxLen
theorem SetCells.below {w w' : World} {b o lo hi : Nat} {vd : Value} {s : SetD} (h : SetCells w b o lo hi vd s) (t : Below w.heap.size w w') : SetCells w' b o lo hi vd s :=
  ⟨(t.cell (lt_of_cell h.c0)).trans h.c0, (t.cell (lt_of_cell h.c1)).trans h.c1, (t.cell (lt_of_cell h.c2)).trans h.c2, (t.cell (lt_of_cell h.c3)).trans h.c3, (t.cell (lt_of_cell h.c4)).trans h.c4, (t.cell (lt_of_cell h.c5)).trans h.c5, h.dead.below t, h.small⟩

/-- A snapshot's eight cells. -/
structure SnapCells (w : World) (b o lo hi : Nat) (vd : Value) (s : SnapD) : Prop where
  c0 : w.cell? ⟨b, o, none⟩ = some (.int .i64 s.id)
  c1 : w.cell? ⟨b, o + 1, none⟩ = some (.string s.name)
  c2 : w.cell? ⟨b, o + 2, none⟩ = some (.string s.set)
  c3 : w.cell? ⟨b, o + 3, none⟩ = some (.int .i64 s.prev)
  c4 : w.cell? ⟨b, o + 4, none⟩ = some (.int .i64 s.time)
  c5 : w.cell? ⟨b, o + 5, none⟩ = some (.int .i64 s.rs)
  c6 : w.cell? ⟨b, o + 6, none⟩ = some (.int .i64 s.rb)
  c7 : w.cell? ⟨b, o + 7, none⟩ = some vd
  dead : PtrsAt w lo hi vd s.dn s.ds s.db
  small : s.name.size ≤ maxLen ∧ s.set.size ≤ maxLen
theorem SnapCells.below {w w' : World} {b o lo hi : Nat} {vd : Value} {s : SnapD} (h : SnapCells w b o lo hi vd s) (t : Below w.heap.size w w') : SnapCells w' b o lo hi vd s :=
  ⟨(t.cell (lt_of_cell h.c0)).trans h.c0, (t.cell (lt_of_cell h.c1)).trans h.c1, (t.cell (lt_of_cell h.c2)).trans h.c2, (t.cell (lt_of_cell h.c3)).trans h.c3, (t.cell (lt_of_cell h.c4)).trans h.c4, (t.cell (lt_of_cell h.c5)).trans h.c5, (t.cell (lt_of_cell h.c6)).trans h.c6, (t.cell (lt_of_cell h.c7)).trans h.c7, h.dead.below t, h.small⟩

def SetsAt (w : World) (lo hi : Nat) (v : Value) (n : Nat) (f : Nat → SetD) : Prop :=
  n ≤ maxLen ∧ ∃ a cap, v = .slice a n cap ∧ n ≤ cap ∧ (0 < n → ∃ b off, a = some ⟨b, off, none⟩ ∧ lo ≤ b ∧ b < hi ∧ ∀ i, i < n → ∃ vd, SetCells w b (off + i * 6) lo hi vd (f i))
def SnapsAt (w : World) (lo hi : Nat) (v : Value) (n : Nat) (f : Nat → SnapD) : Prop :=
  n ≤ maxLen ∧ ∃ a cap, v = .slice a n cap ∧ n ≤ cap ∧ (0 < n → ∃ b off, a = some ⟨b, off, none⟩ ∧ lo ≤ b ∧ b < hi ∧ ∀ i, i < n → ∃ vd, SnapCells w b (off + i * 8) lo hi vd (f i))
theorem SetsAt.below {w w' : World} {lo hi : Nat} {v : Value} {n : Nat} {f : Nat → SetD} (h : SetsAt w lo hi v n f) (t : Below w.heap.size w w') : SetsAt w' lo hi v n f := by
  obtain ⟨h0, a, cap, hv, hcc, hc⟩ := h
  refine ⟨h0, a, cap, hv, hcc, fun hn => ?_⟩
  obtain ⟨b, off, ha, h1, h2, h3⟩ := hc hn
  refine ⟨b, off, ha, h1, h2, fun i hi => ?_⟩
  obtain ⟨vd, hs⟩ := h3 i hi
  exact ⟨vd, hs.below t⟩
theorem SnapsAt.below {w w' : World} {lo hi : Nat} {v : Value} {n : Nat} {f : Nat → SnapD} (h : SnapsAt w lo hi v n f) (t : Below w.heap.size w w') : SnapsAt w' lo hi v n f := by
  obtain ⟨h0, a, cap, hv, hcc, hc⟩ := h
  refine ⟨h0, a, cap, hv, hcc, fun hn => ?_⟩
  obtain ⟨b, off, ha, h1, h2, h3⟩ := hc hn
  refine ⟨b, off, ha, h1, h2, fun i hi => ?_⟩
  obtain ⟨vd, hs⟩ := h3 i hi
  exact ⟨vd, hs.below t⟩
/-- The cells of one of them. -/
theorem SetsAt.cells {w : World} {lo hi : Nat} {a : Option Addr} {n c : Nat} {f : Nat → SetD} (h : SetsAt w lo hi (.slice a n c) n f) {i : Nat} (hi' : i < n) : ∃ b off vd, a = some ⟨b, off, none⟩ ∧ SetCells w b (off + i * 6) lo hi vd (f i) := by
  obtain ⟨h0, a2, cap, hv, hcc, hx⟩ := h
  simp only [Value.slice.injEq, true_and] at hv
  obtain ⟨rfl, rfl⟩ := hv
  obtain ⟨b, off, ha, h1, h2, h3⟩ := hx (by omega)
  obtain ⟨vd, hs⟩ := h3 i hi'
  exact ⟨b, off, vd, ha, hs⟩
theorem SnapsAt.cells {w : World} {lo hi : Nat} {a : Option Addr} {n c : Nat} {f : Nat → SnapD} (h : SnapsAt w lo hi (.slice a n c) n f) {i : Nat} (hi' : i < n) : ∃ b off vd, a = some ⟨b, off, none⟩ ∧ SnapCells w b (off + i * 8) lo hi vd (f i) := by
  obtain ⟨h0, a2, cap, hv, hcc, hx⟩ := h
  simp only [Value.slice.injEq, true_and] at hv
  obtain ⟨rfl, rfl⟩ := hv
  obtain ⟨b, off, ha, h1, h2, h3⟩ := hx (by omega)
  obtain ⟨vd, hs⟩ := h3 i hi'
  exact ⟨b, off, vd, ha, hs⟩

/-- A world's six cells. -/
structure WorldAt (w : World) (lo hi : Nat) (v0 v1 v2 v3 : Value) (W : WorldD) : Prop where
  pool : PoolAt w lo hi v0 v1 W.pool
  sets : SetsAt w lo hi v2 W.sn W.sets
  snaps : SnapsAt w lo hi v3 W.pn W.snaps
theorem WorldAt.below {w w' : World} {lo hi : Nat} {v0 v1 v2 v3 : Value} {W : WorldD} (h : WorldAt w lo hi v0 v1 v2 v3 W) (t : Below w.heap.size w w') : WorldAt w' lo hi v0 v1 v2 v3 W := ⟨h.pool.below t, h.sets.below t, h.snaps.below t⟩
/-- The value that stands for it where it is handed over. -/
abbrev worldV (v0 v1 v2 v3 : Value) (W : WorldD) : Value := .agg #[v0, v1, .int .i64 W.time, .int .i64 W.next, v2, v3]

/-- The number of a snapshot, of a set: the first one. -/
def SnapNo (W : WorldD) (id : Int) (k : Nat) : Prop := k < W.pn ∧ (W.snaps k).id = id ∧ ∀ j, j < k → (W.snaps j).id ≠ id
def SetNo (W : WorldD) (name : ByteArray) (k : Nat) : Prop := k < W.sn ∧ (W.sets k).name = name ∧ ∀ j, j < k → (W.sets j).name ≠ name
theorem SnapNo.uniq {W : WorldD} {id : Int} {i j : Nat} (h : SnapNo W id i) (h' : SnapNo W id j) : i = j := by
  rcases Nat.lt_trichotomy i j with e | e | e
  · exact absurd h.2.1 (h'.2.2 i e)
  · exact e
  · exact absurd h'.2.1 (h.2.2 j e)
theorem SetNo.uniq {W : WorldD} {name : ByteArray} {i j : Nat} (h : SetNo W name i) (h' : SetNo W name j) : i = j := by
  rcases Nat.lt_trichotomy i j with e | e | e
  · exact absurd h.2.1 (h'.2.2 i e)
  · exact e
  · exact absurd h'.2.1 (h.2.2 j e)

end Go.Proofs.YtjpbmpjddbekgaaGreat

namespace Go.Proofs.YtjpbmpjddbekgaaGreat
open Go.RowKit

/-- Of the blocks that were there, those outside S are as they were. -/
structure Turned (S : Nat → Prop) (w w' : World) : Prop where
  os : w'.os = w.os
  tape : w'.tape = w.tape
  output : w'.output = w.output
  size : w.heap.size ≤ w'.heap.size
  block : ∀ k, k < w.heap.size → ¬ S k → w'.heap[k]? = w.heap[k]?

theorem Turned.refl (S : Nat → Prop) (w : World) : Turned S w w := ⟨rfl, rfl, rfl, Nat.le_refl _, fun _ _ _ => rfl⟩
theorem Turned.trans {S : Nat → Prop} {a b c : World} (h : Turned S a b) (k : Turned S b c) : Turned S a c :=
  ⟨k.os.trans h.os, k.tape.trans h.tape, k.output.trans h.output, Nat.le_trans h.size k.size, fun i hi hs => (k.block i (Nat.lt_of_lt_of_le hi h.size) hs).trans (h.block i hi hs)⟩
theorem Turned.mono {S T : Nat → Prop} {a b : World} (h : Turned S a b) (hst : ∀ k, S k → T k) : Turned T a b :=
  ⟨h.os, h.tape, h.output, h.size, fun i hi hs => h.block i hi (fun x => hs (hst i x))⟩
theorem Turned.of_below {S : Nat → Prop} {w w' : World} (h : Below w.heap.size w w') : Turned S w w' := ⟨h.os, h.tape, h.output, h.size, fun k hk _ => h.block k hk⟩
theorem Turned.below {S : Nat → Prop} {w w' : World} (h : Turned S w w') {B : Nat} (hB : B ≤ w.heap.size) (hs : ∀ k, S k → B ≤ k) : Below B w w' :=
  ⟨h.os, h.tape, h.output, h.size, fun k hk => h.block k (by omega) (fun x => by have := hs k x; omega)⟩
theorem Turned.setCell {S : Nat → Prop} {w w' : World} (h : Turned S w w') {p : Addr} (hp : S p.block) (u : Value) : Turned S w (w'.setCell p u) :=
  h.trans ⟨rfl, rfl, rfl, by simp, fun k _ hs => Below.heap_setCell _ _ _ _ (fun e => hs (e ▸ hp))⟩
theorem Turned.put (w : World) (b o : Nat) (u : Value) : Turned (fun k => k = b) w (w.setCell ⟨b, o, none⟩ u) :=
  (Turned.refl (fun k => k = b) w).setCell (p := ⟨b, o, none⟩) rfl u
theorem Turned.alloc {S : Nat → Prop} {w w' : World} (h : Turned S w w') (o : Obj) : Turned S w (w'.alloc o) :=
  h.trans ⟨rfl, rfl, rfl, by simp, fun k hk _ => Below.heap_alloc _ _ _ hk⟩
theorem Turned.cell {S : Nat → Prop} {w w' : World} (h : Turned S w w') {b o : Nat} (hb : b < w.heap.size) (hs : ¬ S b) : w'.cell? ⟨b, o, none⟩ = w.cell? ⟨b, o, none⟩ :=
  World.cell?_of_block (w := w) (h.block b hb hs)
theorem Turned.frozen {S : Nat → Prop} {w w' : World} (h : Turned S w w') {b o : Nat} (hb : b < w.heap.size) (hs : ¬ S b) : w'.frozen? ⟨b, o, none⟩ = w.frozen? ⟨b, o, none⟩ :=
  World.frozen?_of_block (w := w) (h.block b hb hs)
theorem Turned.same {S : Nat → Prop} {w w' : World} (h : Turned S w w') {lo hi : Nat} (hh : hi ≤ w.heap.size) (hs : ∀ k, S k → k < lo ∨ hi ≤ k) : SameIn lo hi w w' :=
  fun k h1 h2 => h.block k (by omega) (fun x => by have := hs k x; omega)

/-- A cell of a block that the call may write. -/
def Cell (w : World) (b o : Nat) (v : Value) : Prop := w.cell? ⟨b, o, none⟩ = some v ∧ w.frozen? ⟨b, o, none⟩ = false

theorem Cell.lt {w : World} {b o : Nat} {v : Value} (h : Cell w b o v) : b < w.heap.size := lt_of_cell h.1
theorem Cell.turned {S : Nat → Prop} {w w' : World} {b o : Nat} {v : Value} (h : Cell w b o v) (t : Turned S w w') (hs : ¬ S b) : Cell w' b o v :=
  ⟨(t.cell h.lt hs).trans h.1, (t.frozen h.lt hs).trans h.2⟩
theorem Cell.below {w w' : World} {b o : Nat} {v : Value} (h : Cell w b o v) (t : Below w.heap.size w w') : Cell w' b o v :=
  ⟨(t.cell h.lt).trans h.1, (t.frozen h.lt).trans h.2⟩
theorem Cell.set {w : World} {b o : Nat} {v : Value} (h : Cell w b o v) (u : Value) : Cell (w.setCell ⟨b, o, none⟩ u) b o u :=
  ⟨World.cell?_setCell_same' _ _ _ (by rw [h.1]; rfl), by rw [World.frozen?_setCell]; exact h.2⟩
theorem Cell.other {w : World} {b o : Nat} {v : Value} (h : Cell w b o v) {b' o' : Nat} (u : Value) (hne : b' ≠ b ∨ o' ≠ o) : Cell (w.setCell ⟨b', o', none⟩ u) b o v := by
  refine ⟨?_, by rw [World.frozen?_setCell]; exact h.2⟩
  rw [World.cell?_setCell_other]
  · exact h.1
  · intro e
    simp only [Addr.mk.injEq] at e
    rcases hne with h | h
    · exact h e.1
    · exact h e.2.1

/-- Where a list of numbers has room behind it, it is the beginning of its block, and the block is no greater. -/
def Room (w : World) (b : Nat) (a : Option Addr) (n cap : Nat) : Prop := n < cap → 0 < n ∧ a = some ⟨b, 0, none⟩ ∧ cap ≤ maxLen ∧ ∃ cur, w.heap[b]? = some (.cells cur 2 (0, 0)) ∧ cur.size = cap

def IntsOwn (w : World) (b : Nat) (v : Value) (n : Nat) (f : Nat → Int) : Prop :=
  n ≤ maxLen ∧ ∃ a cap, v = .slice a n cap ∧ n ≤ cap ∧ (0 < n → ∃ off, a = some ⟨b, off, none⟩ ∧ ∀ i, i < n → Cell w b (off + i) (.int .i64 (f i))) ∧ Room w b a n cap

def PtrsOwn (w : World) (b : Nat) (v : Value) (n : Nat) (fs fb : Nat → Int) : Prop :=
  n ≤ maxLen ∧ ∃ a cap, v = .slice a n cap ∧ n ≤ cap ∧ (0 < n → ∃ off, a = some ⟨b, off, none⟩ ∧ ∀ i, i < n → Cell w b (off + i * 2) (.int .i64 (fs i)) ∧ Cell w b (off + i * 2 + 1) (.int .i64 (fb i)))

theorem IntsOwn.at {w : World} {b : Nat} {v : Value} {n : Nat} {f : Nat → Int} (h : IntsOwn w b v n f) {lo hi : Nat} (hb : 0 < n → lo ≤ b ∧ b < hi) : IntsAt w lo hi v n f := by
  obtain ⟨h0, a, cap, hv, hcc, hc, hr⟩ := h
  refine ⟨h0, a, cap, hv, hcc, fun hn => ?_⟩
  obtain ⟨off, ha, h3⟩ := hc hn
  exact ⟨b, off, ha, (hb hn).1, (hb hn).2, fun i hi => (h3 i hi).1⟩

theorem PtrsOwn.at {w : World} {b : Nat} {v : Value} {n : Nat} {f g : Nat → Int} (h : PtrsOwn w b v n f g) {lo hi : Nat} (hb : 0 < n → lo ≤ b ∧ b < hi) : PtrsAt w lo hi v n f g := by
  obtain ⟨h0, a, cap, hv, hcc, hc⟩ := h
  refine ⟨h0, a, cap, hv, hcc, fun hn => ?_⟩
  obtain ⟨off, ha, h3⟩ := hc hn
  exact ⟨b, off, ha, (hb hn).1, (hb hn).2, fun i hi => ⟨(h3 i hi).1.1, (h3 i hi).2.1⟩⟩

theorem IntsOwn.turned {S : Nat → Prop} {w w' : World} {b : Nat} {v : Value} {n : Nat} {f : Nat → Int} (h : IntsOwn w b v n f) (t : Turned S w w') (hs : 0 < n → ¬ S b) : IntsOwn w' b v n f := by
  obtain ⟨h0, a, cap, hv, hcc, hc, hr⟩ := h
  refine ⟨h0, a, cap, hv, hcc, fun hn => ?_, fun hlt => ?_⟩
  rotate_left
  · obtain ⟨r0, r1, r2, cur, r3, r4⟩ := hr hlt
    exact ⟨r0, r1, r2, cur, (t.block b (Array.getElem?_eq_some_iff.1 r3).1 (hs r0)).trans r3, r4⟩
  obtain ⟨off, ha, h3⟩ := hc hn
  exact ⟨off, ha, fun i hi => (h3 i hi).turned t (hs hn)⟩

theorem PtrsOwn.turned {S : Nat → Prop} {w w' : World} {b : Nat} {v : Value} {n : Nat} {f g : Nat → Int} (h : PtrsOwn w b v n f g) (t : Turned S w w') (hs : 0 < n → ¬ S b) : PtrsOwn w' b v n f g := by
  obtain ⟨h0, a, cap, hv, hcc, hc⟩ := h
  refine ⟨h0, a, cap, hv, hcc, fun hn => ?_⟩
  obtain ⟨off, ha, h3⟩ := hc hn
  exact ⟨off, ha, fun i hi => ⟨(h3 i hi).1.turned t (hs hn), (h3 i hi).2.turned t (hs hn)⟩⟩

theorem PtrsOwn.below {w w' : World} {b : Nat} {v : Value} {n : Nat} {f g : Nat → Int} (h : PtrsOwn w b v n f g) (t : Below w.heap.size w w') : PtrsOwn w' b v n f g :=
  h.turned (Turned.of_below (S := fun _ => False) t) (fun _ h => h)
theorem IntsOwn.below {w w' : World} {b : Nat} {v : Value} {n : Nat} {f : Nat → Int} (h : IntsOwn w b v n f) (t : Below w.heap.size w w') : IntsOwn w' b v n f :=
  h.turned (Turned.of_below (S := fun _ => False) t) (fun _ h => h)

theorem PtrsOwn.congr {w : World} {b : Nat} {v : Value} {n : Nat} {f g f' g' : Nat → Int} (h : PtrsOwn w b v n f g) (e : ∀ i, i < n → f i = f' i ∧ g i = g' i) : PtrsOwn w b v n f' g' := by
  obtain ⟨h0, a, cap, hv, hcc, hc⟩ := h
  refine ⟨h0, a, cap, hv, hcc, fun hn => ?_⟩
  obtain ⟨off, ha, h3⟩ := hc hn
  exact ⟨off, ha, fun i hi => ⟨(e i hi).1 ▸ (h3 i hi).1, (e i hi).2 ▸ (h3 i hi).2⟩⟩
theorem IntsOwn.congr {w : World} {b : Nat} {v : Value} {n : Nat} {f f' : Nat → Int} (h : IntsOwn w b v n f) (e : ∀ i, i < n → f i = f' i) : IntsOwn w b v n f' := by
  obtain ⟨h0, a, cap, hv, hcc, hc, hr⟩ := h
  refine ⟨h0, a, cap, hv, hcc, fun hn => ?_, hr⟩
  obtain ⟨off, ha, h3⟩ := hc hn
  exact ⟨off, ha, fun i hi => (e i hi) ▸ (h3 i hi)⟩

/-- A slot of a row that the call owns: its cells from o on in the block bs, its Kids (the slice kv) in the block kb. -/
structure SlotOwn (w : World) (bs o kb : Nat) (kv : Value) (s : SlotD) : Prop where
  birth : Cell w bs o (.int .i64 s.birth)
  kidsv : Cell w bs (o + 1) kv
  data : Cell w bs (o + 2) (.string s.data)
  kids : PtrsOwn w kb kv s.kn s.ks s.kb
  small : s.data.size ≤ maxLen
  apart : 0 < s.kn → kb ≠ bs

theorem SlotOwn.turned {S : Nat → Prop} {w w' : World} {bs o kb : Nat} {kv : Value} {s : SlotD} (h : SlotOwn w bs o kb kv s) (t : Turned S w w') (h1 : ¬ S bs) (h2 : 0 < s.kn → ¬ S kb) : SlotOwn w' bs o kb kv s :=
  ⟨h.birth.turned t h1, h.kidsv.turned t h1, h.data.turned t h1, h.kids.turned t h2, h.small, h.apart⟩
theorem SlotOwn.below {w w' : World} {bs o kb : Nat} {kv : Value} {s : SlotD} (h : SlotOwn w bs o kb kv s) (t : Below w.heap.size w w') : SlotOwn w' bs o kb kv s :=
  h.turned (Turned.of_below (S := fun _ => False) t) (fun h => h) (fun _ h => h)
theorem SlotOwn.at {w : World} {bs o kb : Nat} {kv : Value} {s : SlotD} (h : SlotOwn w bs o kb kv s) {lo hi : Nat} (hb : 0 < s.kn → lo ≤ kb ∧ kb < hi) : SlotAt w lo hi (.int .i64 s.birth) kv (.string s.data) s :=
  ⟨rfl, h.kids.at hb, rfl, h.small⟩

def SlotsOwn (w : World) (bs : Nat) (kb : Nat → Nat) (kv : Nat → Value) (v : Value) (n : Nat) (f : Nat → SlotD) : Prop :=
  n ≤ maxLen ∧ ∃ a cap, v = .slice a n cap ∧ n ≤ cap ∧ (0 < n → ∃ off, a = some ⟨bs, off, none⟩ ∧ ∀ i, i < n → SlotOwn w bs (off + i * 3) (kb i) (kv i) (f i))

/-- No two slots' Kids lie in one block. -/
def KidsApart (kb : Nat → Nat) (n : Nat) (f : Nat → SlotD) : Prop := ∀ i j, i < n → j < n → i ≠ j → 0 < (f i).kn → 0 < (f j).kn → kb i ≠ kb j

def SlotsIn (lo hi bs : Nat) (kb : Nat → Nat) (n : Nat) (f : Nat → SlotD) : Prop := 0 < n → (lo ≤ bs ∧ bs < hi) ∧ ∀ i, i < n → 0 < (f i).kn → lo ≤ kb i ∧ kb i < hi

theorem SlotsOwn.at {w : World} {bs : Nat} {kb : Nat → Nat} {kv : Nat → Value} {v : Value} {n : Nat} {f : Nat → SlotD} (h : SlotsOwn w bs kb kv v n f) {lo hi : Nat} (hb : SlotsIn lo hi bs kb n f) : SlotsAt w lo hi v n f := by
  obtain ⟨h0, a, cap, hv, hcc, hc⟩ := h
  refine ⟨h0, a, cap, hv, hcc, fun hn => ?_⟩
  obtain ⟨off, ha, h3⟩ := hc hn
  refine ⟨bs, off, ha, (hb hn).1.1, (hb hn).1.2, fun i hi => ?_⟩
  exact ⟨_, _, _, (h3 i hi).birth.1, (h3 i hi).kidsv.1, (h3 i hi).data.1, (h3 i hi).at ((hb hn).2 i hi)⟩

theorem SlotsOwn.below {w w' : World} {bs : Nat} {kb : Nat → Nat} {kv : Nat → Value} {v : Value} {n : Nat} {f : Nat → SlotD} (h : SlotsOwn w bs kb kv v n f) (t : Below w.heap.size w w') : SlotsOwn w' bs kb kv v n f := by
  obtain ⟨h0, a, cap, hv, hcc, hc⟩ := h
  refine ⟨h0, a, cap, hv, hcc, fun hn => ?_⟩
  obtain ⟨off, ha, h3⟩ := hc hn
  exact ⟨off, ha, fun i hi => (h3 i hi).below t⟩

theorem SlotsOwn.turned {S : Nat → Prop} {w w' : World} {bs : Nat} {kb : Nat → Nat} {kv : Nat → Value} {v : Value} {n : Nat} {f : Nat → SlotD} (h : SlotsOwn w bs kb kv v n f) (t : Turned S w w')
    (h1 : 0 < n → ¬ S bs) (h2 : ∀ i, i < n → 0 < (f i).kn → ¬ S (kb i)) : SlotsOwn w' bs kb kv v n f := by
  obtain ⟨h0, a, cap, hv, hcc, hc⟩ := h
  refine ⟨h0, a, cap, hv, hcc, fun hn => ?_⟩
  obtain ⟨off, ha, h3⟩ := hc hn
  exact ⟨off, ha, fun i hi => (h3 i hi).turned t (h1 hn) (h2 i hi)⟩

/-- A variable of two cells. -/
def Box2 (w : World) (b : Nat) (v0 v1 : Value) : Prop := Cell w b 0 v0 ∧ Cell w b 1 v1
theorem Box2.below {w w' : World} {b : Nat} {v0 v1 : Value} (h : Box2 w b v0 v1) (t : Below w.heap.size w w') : Box2 w' b v0 v1 := ⟨h.1.below t, h.2.below t⟩
theorem Box2.turned {S : Nat → Prop} {w w' : World} {b : Nat} {v0 v1 : Value} (h : Box2 w b v0 v1) (t : Turned S w w') (hs : ¬ S b) : Box2 w' b v0 v1 := ⟨h.1.turned t hs, h.2.turned t hs⟩
theorem Box2.new (w : World) (v0 v1 : Value) (t : TypeId) : Box2 (w.alloc (.cells #[v0, v1] t)) w.heap.size v0 v1 :=
  ⟨⟨by rw [World.cell?_alloc_at (hn := rfl)]; rfl, by rw [World.frozen?_alloc_at (hn := rfl)]⟩, ⟨by rw [World.cell?_alloc_at (hn := rfl)]; rfl, by rw [World.frozen?_alloc_at (hn := rfl)]⟩⟩
/-- A variable of three cells. -/
def Box3 (w : World) (b : Nat) (v0 v1 v2 : Value) : Prop := Cell w b 0 v0 ∧ Cell w b 1 v1 ∧ Cell w b 2 v2
theorem Box3.below {w w' : World} {b : Nat} {v0 v1 v2 : Value} (h : Box3 w b v0 v1 v2) (t : Below w.heap.size w w') : Box3 w' b v0 v1 v2 := ⟨h.1.below t, h.2.1.below t, h.2.2.below t⟩
theorem Box3.turned {S : Nat → Prop} {w w' : World} {b : Nat} {v0 v1 v2 : Value} (h : Box3 w b v0 v1 v2) (t : Turned S w w') (hs : ¬ S b) : Box3 w' b v0 v1 v2 := ⟨h.1.turned t hs, h.2.1.turned t hs, h.2.2.turned t hs⟩
theorem Box3.new (w : World) (v0 v1 v2 : Value) (t : TypeId) : Box3 (w.alloc (.cells #[v0, v1, v2] t)) w.heap.size v0 v1 v2 :=
  ⟨⟨by rw [World.cell?_alloc_at (hn := rfl)]; rfl, by rw [World.frozen?_alloc_at (hn := rfl)]⟩, ⟨by rw [World.cell?_alloc_at (hn := rfl)]; rfl, by rw [World.frozen?_alloc_at (hn := rfl)]⟩, ⟨by rw [World.cell?_alloc_at (hn := rfl)]; rfl, by rw [World.frozen?_alloc_at (hn := rfl)]⟩⟩
theorem Box3.put {w : World} {b : Nat} {v0 v1 v2 : Value} (h : Box3 w b v0 v1 v2) (u0 u1 u2 : Value) : Box3 (((w.setCell ⟨b, 0, none⟩ u0).setCell ⟨b, 1, none⟩ u1).setCell ⟨b, 2, none⟩ u2) b u0 u1 u2 :=
  ⟨((h.1.set u0).other _ (Or.inr (by omega))).other _ (Or.inr (by omega)), ((h.2.1.other _ (Or.inr (by omega))).set u1).other _ (Or.inr (by omega)), ((h.2.2.other _ (Or.inr (by omega))).other _ (Or.inr (by omega))).set u2⟩
theorem Box2.put {w : World} {b : Nat} {v0 v1 : Value} (h : Box2 w b v0 v1) (u0 u1 : Value) : Box2 ((w.setCell ⟨b, 0, none⟩ u0).setCell ⟨b, 1, none⟩ u1) b u0 u1 :=
  ⟨(h.1.set u0).other _ (Or.inr (by omega)), (h.2.other _ (Or.inr (by omega))).set u1⟩
theorem Box3.other {w : World} {b : Nat} {v0 v1 v2 : Value} (h : Box3 w b v0 v1 v2) {b' o' : Nat} (u : Value) (hne : b' ≠ b) : Box3 (w.setCell ⟨b', o', none⟩ u) b v0 v1 v2 :=
  ⟨h.1.other u (Or.inl hne), h.2.1.other u (Or.inl hne), h.2.2.other u (Or.inl hne)⟩
theorem Box2.other {w : World} {b : Nat} {v0 v1 : Value} (h : Box2 w b v0 v1) {b' o' : Nat} (u : Value) (hne : b' ≠ b) : Box2 (w.setCell ⟨b', o', none⟩ u) b v0 v1 :=
  ⟨h.1.other u (Or.inl hne), h.2.other u (Or.inl hne)⟩
theorem PtrsOwn.put {w : World} {b : Nat} {v : Value} {n : Nat} {f g : Nat → Int} (h : PtrsOwn w b v n f g) {b' o' : Nat} (u : Value) (hne : b' ≠ b) : PtrsOwn (w.setCell ⟨b', o', none⟩ u) b v n f g :=
  h.turned (Turned.put w b' o' u) (fun _ e => hne e.symm)
theorem IntsOwn.put {w : World} {b : Nat} {v : Value} {n : Nat} {f : Nat → Int} (h : IntsOwn w b v n f) {b' o' : Nat} (u : Value) (hne : b' ≠ b) : IntsOwn (w.setCell ⟨b', o', none⟩ u) b v n f :=
  h.turned (Turned.put w b' o' u) (fun _ e => hne e.symm)
theorem below_alloc (w : World) (o : Obj) : Below w.heap.size w (w.alloc o) := (Below.refl _ _).alloc (Nat.le_refl _) o

theorem cell_of_block {w : World} {b i : Nat} {cs : Array Value} {t : TypeId} {v : Value} (h : w.heap[b]? = some (.cells cs t)) (hi : cs[i]? = some v) : Cell w b i v := by
  refine ⟨?_, ?_⟩
  · simp [World.cell?, h, hi]
  · simp [World.frozen?, h]

theorem heap_setCell_at {w : World} {b o : Nat} {cs : Array Value} {t : TypeId} (v : Value) (h : w.heap[b]? = some (.cells cs t)) : (w.setCell ⟨b, o, none⟩ v).heap[b]? = some (.cells (cs.setIfInBounds o v) t) := by
  simp [World.setCell, Array.getElem?_modify, h]

theorem owns_form {w : World} {base e size : Nat} {v : Value} {n : Nat} {xs : List Value} (h : w.ownsRow base e size v n xs) : ∃ a cap, v = .slice a n cap ∧ n ≤ cap := by
  obtain ⟨_, ⟨h, rfl⟩ | ⟨g, cap, cur, hv, _, _, hle, _⟩⟩ := h
  · exact ⟨none, 0, h, Nat.le_refl _⟩
  · exact ⟨_, cap, hv, hle⟩

theorem owns_cell {w : World} {base e size : Nat} {v : Value} {n : Nat} {xs : List Value} (h : w.ownsRow base e size v n xs) (hn : 0 < n) :
    ∃ g cap, v = .slice (some ⟨g, 0, none⟩) n cap ∧ n ≤ cap ∧ base ≤ g ∧ g < w.heap.size ∧ ∀ j u, xs[j]? = some u → Cell w g j u := by
  obtain ⟨_, ⟨h, rfl⟩ | ⟨g, cap, cur, hv, hb, hg, h1, h2, h3, h4⟩⟩ := h
  · omega
  · refine ⟨g, cap, hv, h1, hb, ?_, fun j u hj => ?_⟩
    · by_cases hlt : g < w.heap.size
      · exact hlt
      · rw [Array.getElem?_eq_none (by omega)] at hg; simp at hg
    · refine ⟨?_, ?_⟩
      · simp only [World.cell?, hg]
        have hj' : (cur.toList.take (n * size))[j]? = some u := by rw [h4]; exact hj
        rw [List.getElem?_take] at hj'
        split at hj'
        · simpa using hj'
        · simp at hj'
      · simp only [World.frozen?, hg]
        simp

theorem grown_block {w w1 : World} {v : Value} {b base e size n : Nat} {xs : List Value} (hg : w.grownBy w1 v.ownBlock) (hown : w.ownsRow base e size v n xs) (hb : b < base) (hlt : b < w.heap.size) : w1.heap[b]? = w.heap[b]? :=
  hg.block b hlt (fun e => by have := hown.lt b e.symm; omega)

end Go.Proofs.YtjpbmpjddbekgaaGreat

namespace Go.Proofs.YtjpbmpjddbekgaaGreat
open Go Go.RowKit
set_option linter.unusedVariables false

/-- A variable of six cells: what a tree's call hands back. -/
def Box6 (w : World) (b : Nat) (v0 v1 v2 v3 v4 v5 : Value) : Prop := Cell w b 0 v0 ∧ Cell w b 1 v1 ∧ Cell w b 2 v2 ∧ Cell w b 3 v3 ∧ Cell w b 4 v4 ∧ Cell w b 5 v5
theorem Box6.below {w w' : World} {b : Nat} {v0 v1 v2 v3 v4 v5 : Value} (h : Box6 w b v0 v1 v2 v3 v4 v5) (t : Below w.heap.size w w') : Box6 w' b v0 v1 v2 v3 v4 v5 := ⟨h.1.below t, h.2.1.below t, h.2.2.1.below t, h.2.2.2.1.below t, h.2.2.2.2.1.below t, h.2.2.2.2.2.below t⟩
theorem Box6.turned {S : Nat → Prop} {w w' : World} {b : Nat} {v0 v1 v2 v3 v4 v5 : Value} (h : Box6 w b v0 v1 v2 v3 v4 v5) (t : Turned S w w') (hs : ¬ S b) : Box6 w' b v0 v1 v2 v3 v4 v5 := ⟨h.1.turned t hs, h.2.1.turned t hs, h.2.2.1.turned t hs, h.2.2.2.1.turned t hs, h.2.2.2.2.1.turned t hs, h.2.2.2.2.2.turned t hs⟩
theorem Box6.new (w : World) (v0 v1 v2 v3 v4 v5 : Value) (t : TypeId) : Box6 (w.alloc (.cells #[v0, v1, v2, v3, v4, v5] t)) w.heap.size v0 v1 v2 v3 v4 v5 := by
  have hb : (w.alloc (.cells #[v0, v1, v2, v3, v4, v5] t)).heap[w.heap.size]? = some (.cells #[v0, v1, v2, v3, v4, v5] t) := heap_alloc_new _ _
  exact ⟨cell_of_block hb rfl, cell_of_block hb rfl, cell_of_block hb rfl, cell_of_block hb rfl, cell_of_block hb rfl, cell_of_block hb rfl⟩
abbrev put6 (w : World) (b : Nat) (u0 u1 u2 u3 u4 u5 : Value) : World := (((((w.setCell ⟨b, 0, none⟩ u0).setCell ⟨b, 1, none⟩ u1).setCell ⟨b, 2, none⟩ u2).setCell ⟨b, 3, none⟩ u3).setCell ⟨b, 4, none⟩ u4).setCell ⟨b, 5, none⟩ u5
theorem Box6.put {w : World} {b : Nat} {v0 v1 v2 v3 v4 v5 : Value} (h : Box6 w b v0 v1 v2 v3 v4 v5) (u0 u1 u2 u3 u4 u5 : Value) : Box6 (put6 w b u0 u1 u2 u3 u4 u5) b u0 u1 u2 u3 u4 u5 := by
  obtain ⟨h0, h1, h2, h3, h4, h5⟩ := h
  refine ⟨?_, ?_, ?_, ?_, ?_, ?_⟩
  · exact (((((h0.set _).other _ (Or.inr (by omega))).other _ (Or.inr (by omega))).other _ (Or.inr (by omega))).other _ (Or.inr (by omega))).other _ (Or.inr (by omega))
  · exact (((((h1.other _ (Or.inr (by omega))).set _).other _ (Or.inr (by omega))).other _ (Or.inr (by omega))).other _ (Or.inr (by omega))).other _ (Or.inr (by omega))
  · exact (((((h2.other _ (Or.inr (by omega))).other _ (Or.inr (by omega))).set _).other _ (Or.inr (by omega))).other _ (Or.inr (by omega))).other _ (Or.inr (by omega))
  · exact (((((h3.other _ (Or.inr (by omega))).other _ (Or.inr (by omega))).other _ (Or.inr (by omega))).set _).other _ (Or.inr (by omega))).other _ (Or.inr (by omega))
  · exact (((((h4.other _ (Or.inr (by omega))).other _ (Or.inr (by omega))).other _ (Or.inr (by omega))).other _ (Or.inr (by omega))).set _).other _ (Or.inr (by omega))
  · exact (((((h5.other _ (Or.inr (by omega))).other _ (Or.inr (by omega))).other _ (Or.inr (by omega))).other _ (Or.inr (by omega))).other _ (Or.inr (by omega))).set _
theorem Turned.put6 (w : World) (b : Nat) (u0 u1 u2 u3 u4 u5 : Value) : Turned (fun k => k = b) w (put6 w b u0 u1 u2 u3 u4 u5) :=
  (((((Turned.put w b 0 u0).trans (Turned.put _ b 1 u1)).trans (Turned.put _ b 2 u2)).trans (Turned.put _ b 3 u3)).trans (Turned.put _ b 4 u4)).trans (Turned.put _ b 5 u5)

end Go.Proofs.YtjpbmpjddbekgaaGreat
