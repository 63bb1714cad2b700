/- Rows that a call itself owns, and what a call that writes into some blocks leaves of the others (no law is proved here). -/
import Derived.Test.YtiijnmpenljniafBase
namespace Go.Proofs.Ytiijnmpenljniaf
open Go.RowKit

/-- Of the blocks that were there, those outside S are as they were. -/
structure Turned (S : Nat → Prop) (w w' : World) : Prop where
  os : w'.os = w.os
  tape : w'.tape = w.tape
  output : w'.output = w.output
  size : w.heap.size ≤ w'.heap.size
  block : ∀ k, k < w.heap.size → ¬ S k → w'.heap[k]? = w.heap[k]?

theorem Turned.refl (S : Nat → Prop) (w : World) : Turned S w w := ⟨rfl, rfl, rfl, Nat.le_refl _, fun _ _ _ => rfl⟩
theorem Turned.trans {S : Nat → Prop} {a b c : World} (h : Turned S a b) (k : Turned S b c) : Turned S a c :=
  ⟨k.os.trans h.os, k.tape.trans h.tape, k.output.trans h.output, Nat.le_trans h.size k.size, fun i hi hs => (k.block i (Nat.lt_of_lt_of_le hi h.size) hs).trans (h.block i hi hs)⟩
theorem Turned.mono {S T : Nat → Prop} {a b : World} (h : Turned S a b) (hst : ∀ k, S k → T k) : Turned T a b :=
  ⟨h.os, h.tape, h.output, h.size, fun i hi hs => h.block i hi (fun x => hs (hst i x))⟩
theorem Turned.of_below {S : Nat → Prop} {w w' : World} (h : Below w.heap.size w w') : Turned S w w' := ⟨h.os, h.tape, h.output, h.size, fun k hk _ => h.block k hk⟩
theorem Turned.below {S : Nat → Prop} {w w' : World} (h : Turned S w w') {B : Nat} (hB : B ≤ w.heap.size) (hs : ∀ k, S k → B ≤ k) : Below B w w' :=
  ⟨h.os, h.tape, h.output, h.size, fun k hk => h.block k (by omega) (fun x => by have := hs k x; omega)⟩
theorem Turned.setCell {S : Nat → Prop} {w w' : World} (h : Turned S w w') {p : Addr} (hp : S p.block) (u : Value) : Turned S w (w'.setCell p u) :=
  h.trans ⟨rfl, rfl, rfl, by simp, fun k _ hs => Below.heap_setCell _ _ _ _ (fun e => hs (e ▸ hp))⟩
theorem Turned.put (w : World) (b o : Nat) (u : Value) : Turned (fun k => k = b) w (w.setCell ⟨b, o, none⟩ u) :=
  (Turned.refl (fun k => k = b) w).setCell (p := ⟨b, o, none⟩) rfl u
theorem Turned.alloc {S : Nat → Prop} {w w' : World} (h : Turned S w w') (o : Obj) : Turned S w (w'.alloc o) :=
  h.trans ⟨rfl, rfl, rfl, by simp, fun k hk _ => Below.heap_alloc _ _ _ hk⟩
theorem Turned.cell {S : Nat → Prop} {w w' : World} (h : Turned S w w') {b o : Nat} (hb : b < w.heap.size) (hs : ¬ S b) : w'.cell? ⟨b, o, none⟩ = w.cell? ⟨b, o, none⟩ :=
  World.cell?_of_block (w := w) (h.block b hb hs)
theorem Turned.frozen {S : Nat → Prop} {w w' : World} (h : Turned S w w') {b o : Nat} (hb : b < w.heap.size) (hs : ¬ S b) : w'.frozen? ⟨b, o, none⟩ = w.frozen? ⟨b, o, none⟩ :=
  World.frozen?_of_block (w := w) (h.block b hb hs)
theorem Turned.same {S : Nat → Prop} {w w' : World} (h : Turned S w w') {lo hi : Nat} (hh : hi ≤ w.heap.size) (hs : ∀ k, S k → k < lo ∨ hi ≤ k) : SameIn lo hi w w' :=
  fun k h1 h2 => h.block k (by omega) (fun x => by have := hs k x; omega)

/-- A cell of a block that the call may write. -/
def Cell (w : World) (b o : Nat) (v : Value) : Prop := w.cell? ⟨b, o, none⟩ = some v ∧ w.frozen? ⟨b, o, none⟩ = false

theorem Cell.lt {w : World} {b o : Nat} {v : Value} (h : Cell w b o v) : b < w.heap.size := lt_of_cell h.1
theorem Cell.turned {S : Nat → Prop} {w w' : World} {b o : Nat} {v : Value} (h : Cell w b o v) (t : Turned S w w') (hs : ¬ S b) : Cell w' b o v :=
  ⟨(t.cell h.lt hs).trans h.1, (t.frozen h.lt hs).trans h.2⟩
theorem Cell.below {w w' : World} {b o : Nat} {v : Value} (h : Cell w b o v) (t : Below w.heap.size w w') : Cell w' b o v :=
  ⟨(t.cell h.lt).trans h.1, (t.frozen h.lt).trans h.2⟩
theorem Cell.set {w : World} {b o : Nat} {v : Value} (h : Cell w b o v) (u : Value) : Cell (w.setCell ⟨b, o, none⟩ u) b o u :=
  ⟨World.cell?_setCell_same' _ _ _ (by rw [h.1]; rfl), by rw [World.frozen?_setCell]; exact h.2⟩
theorem Cell.other {w : World} {b o : Nat} {v : Value} (h : Cell w b o v) {b' o' : Nat} (u : Value) (hne : b' ≠ b ∨ o' ≠ o) : Cell (w.setCell ⟨b', o', none⟩ u) b o v := by
  refine ⟨?_, by rw [World.frozen?_setCell]; exact h.2⟩
  rw [World.cell?_setCell_other]
  · exact h.1
  · intro e
    simp only [Addr.mk.injEq] at e
    rcases hne with h | h
    · exact h e.1
    · exact h e.2.1

/-- Where a list of numbers has room behind it, it is the beginning of its block, and the block is no greater. -/
def Room (w : World) (b : Nat) (a : Option Addr) (n cap : Nat) : Prop := n < cap → 0 < n ∧ a = some ⟨b, 0, none⟩ ∧ cap ≤ maxLen ∧ ∃ cur, w.heap[b]? = some (.cells cur 2 (0, 0)) ∧ cur.size = cap

def IntsOwn (w : World) (b : Nat) (v : Value) (n : Nat) (f : Nat → Int) : Prop :=
  n ≤ maxLen ∧ ∃ a cap, v = .slice a n cap ∧ n ≤ cap ∧ (0 < n → ∃ off, a = some ⟨b, off, none⟩ ∧ ∀ i, i < n → Cell w b (off + i) (.int .i64 (f i))) ∧ Room w b a n cap

def PtrsOwn (w : World) (b : Nat) (v : Value) (n : Nat) (fs fb : Nat → Int) : Prop :=
  n ≤ maxLen ∧ ∃ a cap, v = .slice a n cap ∧ n ≤ cap ∧ (0 < n → ∃ off, a = some ⟨b, off, none⟩ ∧ ∀ i, i < n → Cell w b (off + i * 2) (.int .i64 (fs i)) ∧ Cell w b (off + i * 2 + 1) (.int .i64 (fb i)))

theorem IntsOwn.at {w : World} {b : Nat} {v : Value} {n : Nat} {f : Nat → Int} (h : IntsOwn w b v n f) {lo hi : Nat} (hb : 0 < n → lo ≤ b ∧ b < hi) : IntsAt w lo hi v n f := by
  obtain ⟨h0, a, cap, hv, hcc, hc, hr⟩ := h
  refine ⟨h0, a, cap, hv, hcc, fun hn => ?_⟩
  obtain ⟨off, ha, h3⟩ := hc hn
  exact ⟨b, off, ha, (hb hn).1, (hb hn).2, fun i hi => (h3 i hi).1⟩

theorem PtrsOwn.at {w : World} {b : Nat} {v : Value} {n : Nat} {f g : Nat → Int} (h : PtrsOwn w b v n f g) {lo hi : Nat} (hb : 0 < n → lo ≤ b ∧ b < hi) : PtrsAt w lo hi v n f g := by
  obtain ⟨h0, a, cap, hv, hcc, hc⟩ := h
  refine ⟨h0, a, cap, hv, hcc, fun hn => ?_⟩
  obtain ⟨off, ha, h3⟩ := hc hn
  exact ⟨b, off, ha, (hb hn).1, (hb hn).2, fun i hi => ⟨(h3 i hi).1.1, (h3 i hi).2.1⟩⟩

theorem IntsOwn.turned {S : Nat → Prop} {w w' : World} {b : Nat} {v : Value} {n : Nat} {f : Nat → Int} (h : IntsOwn w b v n f) (t : Turned S w w') (hs : 0 < n → ¬ S b) : IntsOwn w' b v n f := by
  obtain ⟨h0, a, cap, hv, hcc, hc, hr⟩ := h
  refine ⟨h0, a, cap, hv, hcc, fun hn => ?_, fun hlt => ?_⟩
  rotate_left
  · obtain ⟨r0, r1, r2, cur, r3, r4⟩ := hr hlt
    exact ⟨r0, r1, r2, cur, (t.block b (Array.getElem?_eq_some_iff.1 r3).1 (hs r0)).trans r3, r4⟩
  obtain ⟨off, ha, h3⟩ := hc hn
  exact ⟨off, ha, fun i hi => (h3 i hi).turned t (hs hn)⟩

theorem PtrsOwn.turned {S : Nat → Prop} {w w' : World} {b : Nat} {v : Value} {n : Nat} {f g : Nat → Int} (h : PtrsOwn w b v n f g) (t : Turned S w w') (hs : 0 < n → ¬ S b) : PtrsOwn w' b v n f g := by
  obtain ⟨h0, a, cap, hv, hcc, hc⟩ := h
  refine ⟨h0, a, cap, hv, hcc, fun hn => ?_⟩
  obtain ⟨off, ha, h3⟩ := hc hn
  exact ⟨off, ha, fun i hi => ⟨(h3 i hi).1.turned t (hs hn), (h3 i hi).2.turned t (hs hn)⟩⟩

theorem PtrsOwn.below {w w' : World} {b : Nat} {v : Value} {n : Nat} {f g : Nat → Int} (h : PtrsOwn w b v n f g) (t : Below w.heap.size w w') : PtrsOwn w' b v n f g :=
  h.turned (Turned.of_below (S := fun _ => False) t) (fun _ h => h)
theorem IntsOwn.below {w w' : World} {b : Nat} {v : Value} {n : Nat} {f : Nat → Int} (h : IntsOwn w b v n f) (t : Below w.heap.size w w') : IntsOwn w' b v n f :=
  h.turned (Turned.of_below (S := fun _ => False) t) (fun _ h => h)

theorem PtrsOwn.congr {w : World} {b : Nat} {v : Value} {n : Nat} {f g f' g' : Nat → Int} (h : PtrsOwn w b v n f g) (e : ∀ i, i < n → f i = f' i ∧ g i = g' i) : PtrsOwn w b v n f' g' := by
  obtain ⟨h0, a, cap, hv, hcc, hc⟩ := h
  refine ⟨h0, a, cap, hv, hcc, fun hn => ?_⟩
  obtain ⟨off, ha, h3⟩ := hc hn
  exact ⟨off, ha, fun i hi => ⟨(e i hi).1 ▸ (h3 i hi).1, (e i hi).2 ▸ (h3 i hi).2⟩⟩
theorem IntsOwn.congr {w : World} {b : Nat} {v : Value} {n : Nat} {f f' : Nat → Int} (h : IntsOwn w b v n f) (e : ∀ i, i < n → f i = f' i) : IntsOwn w b v n f' := by
  obtain ⟨h0, a, cap, hv, hcc, hc, hr⟩ := h
  refine ⟨h0, a, cap, hv, hcc, fun hn => ?_, hr⟩
  obtain ⟨off, ha, h3⟩ := hc hn
  exact ⟨off, ha, fun i hi => (e i hi) ▸ (h3 i hi)⟩

/-- A slot of a row that the call owns: its cells from o on in the block bs, its Kids (the slice kv) in the block kb. -/
structure SlotOwn (w : World) (bs o kb : Nat) (kv : Value) (s : SlotD) : Prop where
  birth : Cell w bs o (.int .i64 s.birth)
  kidsv : Cell w bs (o + 1) kv
  data : Cell w bs (o + 2) (.string s.data)
  kids : PtrsOwn w kb kv s.kn s.ks s.kb
  small : s.data.size ≤ maxLen
  apart : 0 < s.kn → kb ≠ bs

theorem SlotOwn.turned {S : Nat → Prop} {w w' : World} {bs o kb : Nat} {kv : Value} {s : SlotD} (h : SlotOwn w bs o kb kv s) (t : Turned S w w') (h1 : ¬ S bs) (h2 : 0 < s.kn → ¬ S kb) : SlotOwn w' bs o kb kv s :=
  ⟨h.birth.turned t h1, h.kidsv.turned t h1, h.data.turned t h1, h.kids.turned t h2, h.small, h.apart⟩
theorem SlotOwn.below {w w' : World} {bs o kb : Nat} {kv : Value} {s : SlotD} (h : SlotOwn w bs o kb kv s) (t : Below w.heap.size w w') : SlotOwn w' bs o kb kv s :=
  h.turned (Turned.of_below (S := fun _ => False) t) (fun h => h) (fun _ h => h)
theorem SlotOwn.at {w : World} {bs o kb : Nat} {kv : Value} {s : SlotD} (h : SlotOwn w bs o kb kv s) {lo hi : Nat} (hb : 0 < s.kn → lo ≤ kb ∧ kb < hi) : SlotAt w lo hi (.int .i64 s.birth) kv (.string s.data) s :=
  ⟨rfl, h.kids.at hb, rfl, h.small⟩

def SlotsOwn (w : World) (bs : Nat) (kb : Nat → Nat) (kv : Nat → Value) (v : Value) (n : Nat) (f : Nat → SlotD) : Prop :=
  n ≤ maxLen ∧ ∃ a cap, v = .slice a n cap ∧ n ≤ cap ∧ (0 < n → ∃ off, a = some ⟨bs, off, none⟩ ∧ ∀ i, i < n → SlotOwn w bs (off + i * 3) (kb i) (kv i) (f i))

/-- No two slots' Kids lie in one block. -/
def KidsApart (kb : Nat → Nat) (n : Nat) (f : Nat → SlotD) : Prop := ∀ i j, i < n → j < n → i ≠ j → 0 < (f i).kn → 0 < (f j).kn → kb i ≠ kb j

def SlotsIn (lo hi bs : Nat) (kb : Nat → Nat) (n : Nat) (f : Nat → SlotD) : Prop := 0 < n → (lo ≤ bs ∧ bs < hi) ∧ ∀ i, i < n → 0 < (f i).kn → lo ≤ kb i ∧ kb i < hi

theorem SlotsOwn.at {w : World} {bs : Nat} {kb : Nat → Nat} {kv : Nat → Value} {v : Value} {n : Nat} {f : Nat → SlotD} (h : SlotsOwn w bs kb kv v n f) {lo hi : Nat} (hb : SlotsIn lo hi bs kb n f) : SlotsAt w lo hi v n f := by
  obtain ⟨h0, a, cap, hv, hcc, hc⟩ := h
  refine ⟨h0, a, cap, hv, hcc, fun hn => ?_⟩
  obtain ⟨off, ha, h3⟩ := hc hn
  refine ⟨bs, off, ha, (hb hn).1.1, (hb hn).1.2, fun i hi => ?_⟩
  exact ⟨_, _, _, (h3 i hi).birth.1, (h3 i hi).kidsv.1, (h3 i hi).data.1, (h3 i hi).at ((hb hn).2 i hi)⟩

theorem SlotsOwn.below {w w' : World} {bs : Nat} {kb : Nat → Nat} {kv : Nat → Value} {v : Value} {n : Nat} {f : Nat → SlotD} (h : SlotsOwn w bs kb kv v n f) (t : Below w.heap.size w w') : SlotsOwn w' bs kb kv v n f := by
  obtain ⟨h0, a, cap, hv, hcc, hc⟩ := h
  refine ⟨h0, a, cap, hv, hcc, fun hn => ?_⟩
  obtain ⟨off, ha, h3⟩ := hc hn
  exact ⟨off, ha, fun i hi => (h3 i hi).below t⟩

theorem SlotsOwn.turned {S : Nat → Prop} {w w' : World} {bs : Nat} {kb : Nat → Nat} {kv : Nat → Value} {v : Value} {n : Nat} {f : Nat → SlotD} (h : SlotsOwn w bs kb kv v n f) (t : Turned S w w')
    (h1 : 0 < n → ¬ S bs) (h2 : ∀ i, i < n → 0 < (f i).kn → ¬ S (kb i)) : SlotsOwn w' bs kb kv v n f := by
  obtain ⟨h0, a, cap, hv, hcc, hc⟩ := h
  refine ⟨h0, a, cap, hv, hcc, fun hn => ?_⟩
  obtain ⟨off, ha, h3⟩ := hc hn
  exact ⟨off, ha, fun i hi => (h3 i hi).turned t (h1 hn) (h2 i hi)⟩

/-- A variable of two cells. -/
def Box2 (w : World) (b : Nat) (v0 v1 : Value) : Prop := Cell w b 0 v0 ∧ Cell w b 1 v1
theorem Box2.below {w w' : World} {b : Nat} {v0 v1 : Value} (h : Box2 w b v0 v1) (t : Below w.heap.size w w') : Box2 w' b v0 v1 := ⟨h.1.below t, h.2.below t⟩
theorem Box2.turned {S : Nat → Prop} {w w' : World} {b : Nat} {v0 v1 : Value} (h : Box2 w b v0 v1) (t : Turned S w w') (hs : ¬ S b) : Box2 w' b v0 v1 := ⟨h.1.turned t hs, h.2.turned t hs⟩
theorem Box2.new (w : World) (v0 v1 : Value) (t : TypeId) : Box2 (w.alloc (.cells #[v0, v1] t)) w.heap.size v0 v1 :=
  ⟨⟨by rw [World.cell?_alloc_at (hn := rfl)]; rfl, by rw [World.frozen?_alloc_at (hn := rfl)]⟩, ⟨by rw [World.cell?_alloc_at (hn := rfl)]; rfl, by rw [World.frozen?_alloc_at (hn := rfl)]⟩⟩
/-- A variable of three cells. -/
def Box3 (w : World) (b : Nat) (v0 v1 v2 : Value) : Prop := Cell w b 0 v0 ∧ Cell w b 1 v1 ∧ Cell w b 2 v2
theorem Box3.below {w w' : World} {b : Nat} {v0 v1 v2 : Value} (h : Box3 w b v0 v1 v2) (t : Below w.heap.size w w') : Box3 w' b v0 v1 v2 := ⟨h.1.below t, h.2.1.below t, h.2.2.below t⟩
theorem Box3.turned {S : Nat → Prop} {w w' : World} {b : Nat} {v0 v1 v2 : Value} (h : Box3 w b v0 v1 v2) (t : Turned S w w') (hs : ¬ S b) : Box3 w' b v0 v1 v2 := ⟨h.1.turned t hs, h.2.1.turned t hs, h.2.2.turned t hs⟩
theorem Box3.new (w : World) (v0 v1 v2 : Value) (t : TypeId) : Box3 (w.alloc (.cells #[v0, v1, v2] t)) w.heap.size v0 v1 v2 :=
  ⟨⟨by rw [World.cell?_alloc_at (hn := rfl)]; rfl, by rw [World.frozen?_alloc_at (hn := rfl)]⟩, ⟨by rw [World.cell?_alloc_at (hn := rfl)]; rfl, by rw [World.frozen?_alloc_at (hn := rfl)]⟩, ⟨by rw [World.cell?_alloc_at (hn := rfl)]; rfl, by rw [World.frozen?_alloc_at (hn := rfl)]⟩⟩
theorem Box3.put {w : World} {b : Nat} {v0 v1 v2 : Value} (h : Box3 w b v0 v1 v2) (u0 u1 u2 : Value) : Box3 (((w.setCell ⟨b, 0, none⟩ u0).setCell ⟨b, 1, none⟩ u1).setCell ⟨b, 2, none⟩ u2) b u0 u1 u2 :=
  ⟨((h.1.set u0).other _ (Or.inr (by omega))).other _ (Or.inr (by omega)), ((h.2.1.other _ (Or.inr (by omega))).set u1).other _ (Or.inr (by omega)), ((h.2.2.other _ (Or.inr (by omega))).other _ (Or.inr (by omega))).set u2⟩
theorem Box2.put {w : World} {b : Nat} {v0 v1 : Value} (h : Box2 w b v0 v1) (u0 u1 : Value) : Box2 ((w.setCell ⟨b, 0, none⟩ u0).setCell ⟨b, 1, none⟩ u1) b u0 u1 :=
  ⟨(h.1.set u0).other _ (Or.inr (by omega)), (h.2.other _ (Or.inr (by omega))).set u1⟩
theorem Box3.other {w : World} {b : Nat} {v0 v1 v2 : Value} (h : Box3 w b v0 v1 v2) {b' o' : Nat} (u : Value) (hne : b' ≠ b) : Box3 (w.setCell ⟨b', o', none⟩ u) b v0 v1 v2 :=
  ⟨h.1.other u (Or.inl hne), h.2.1.other u (Or.inl hne), h.2.2.other u (Or.inl hne)⟩
theorem Box2.other {w : World} {b : Nat} {v0 v1 : Value} (h : Box2 w b v0 v1) {b' o' : Nat} (u : Value) (hne : b' ≠ b) : Box2 (w.setCell ⟨b', o', none⟩ u) b v0 v1 :=
  ⟨h.1.other u (Or.inl hne), h.2.other u (Or.inl hne)⟩
theorem PtrsOwn.put {w : World} {b : Nat} {v : Value} {n : Nat} {f g : Nat → Int} (h : PtrsOwn w b v n f g) {b' o' : Nat} (u : Value) (hne : b' ≠ b) : PtrsOwn (w.setCell ⟨b', o', none⟩ u) b v n f g :=
  h.turned (Turned.put w b' o' u) (fun _ e => hne e.symm)
theorem IntsOwn.put {w : World} {b : Nat} {v : Value} {n : Nat} {f : Nat → Int} (h : IntsOwn w b v n f) {b' o' : Nat} (u : Value) (hne : b' ≠ b) : IntsOwn (w.setCell ⟨b', o', none⟩ u) b v n f :=
  h.turned (Turned.put w b' o' u) (fun _ e => hne e.symm)
theorem below_alloc (w : World) (o : Obj) : Below w.heap.size w (w.alloc o) := (Below.refl _ _).alloc (Nat.le_refl _) o

theorem cell_of_block {w : World} {b i : Nat} {cs : Array Value} {t : TypeId} {v : Value} (h : w.heap[b]? = some (.cells cs t)) (hi : cs[i]? = some v) : Cell w b i v := by
  refine ⟨?_, ?_⟩
  · simp [World.cell?, h, hi]
  · simp [World.frozen?, h]

theorem heap_setCell_at {w : World} {b o : Nat} {cs : Array Value} {t : TypeId} (v : Value) (h : w.heap[b]? = some (.cells cs t)) : (w.setCell ⟨b, o, none⟩ v).heap[b]? = some (.cells (cs.setIfInBounds o v) t) := by
  simp [World.setCell, Array.getElem?_modify, h]

theorem owns_form {w : World} {base e size : Nat} {v : Value} {n : Nat} {xs : List Value} (h : w.ownsRow base e size v n xs) : ∃ a cap, v = .slice a n cap ∧ n ≤ cap := by
  obtain ⟨_, ⟨h, rfl⟩ | ⟨g, cap, cur, hv, _, _, hle, _⟩⟩ := h
  · exact ⟨none, 0, h, Nat.le_refl _⟩
  · exact ⟨_, cap, hv, hle⟩

theorem owns_cell {w : World} {base e size : Nat} {v : Value} {n : Nat} {xs : List Value} (h : w.ownsRow base e size v n xs) (hn : 0 < n) :
    ∃ g cap, v = .slice (some ⟨g, 0, none⟩) n cap ∧ n ≤ cap ∧ base ≤ g ∧ g < w.heap.size ∧ ∀ j u, xs[j]? = some u → Cell w g j u := by
  obtain ⟨_, ⟨h, rfl⟩ | ⟨g, cap, cur, hv, hb, hg, h1, h2, h3, h4⟩⟩ := h
  · omega
  · refine ⟨g, cap, hv, h1, hb, ?_, fun j u hj => ?_⟩
    · by_cases hlt : g < w.heap.size
      · exact hlt
      · rw [Array.getElem?_eq_none (by omega)] at hg; simp at hg
    · refine ⟨?_, ?_⟩
      · simp only [World.cell?, hg]
        have hj' : (cur.toList.take (n * size))[j]? = some u := by rw [h4]; exact hj
        rw [List.getElem?_take] at hj'
        split at hj'
        · simpa using hj'
        · simp at hj'
      · simp only [World.frozen?, hg]
        simp

theorem grown_block {w w1 : World} {v : Value} {b base e size n : Nat} {xs : List Value} (hg : w.grownBy w1 v.ownBlock) (hown : w.ownsRow base e size v n xs) (hb : b < base) (hlt : b < w.heap.size) : w1.heap[b]? = w.heap[b]? :=
  hg.block b hlt (fun e => by have := hown.lt b e.symm; omega)

end Go.Proofs.Ytiijnmpenljniaf
