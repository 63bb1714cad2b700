/- A pool that the call owns; new pools; how great a pool is; what the types' tables say. -/
import Derived.Test.YtiijnmpenljniafRows
import Derived.Test.YtiijnmpenljniafOwn
import Derived.Deep.OwnRows
namespace Go.Proofs.Ytiijnmpenljniaf
open Go.RowKit
set_option linter.unusedVariables false

/-- The blocks of a row of slots. -/
def SlotsB (bs : Nat) (kb : Nat → Nat) (n : Nat) (f : Nat → SlotD) (k : Nat) : Prop := (0 < n ∧ k = bs) ∨ ∃ i, i < n ∧ 0 < (f i).kn ∧ k = kb i

theorem SlotsOwn.lt {w : World} {bs : Nat} {kb : Nat → Nat} {kv : Nat → Value} {v : Value} {n : Nat} {f : Nat → SlotD} (h : SlotsOwn w bs kb kv v n f) {k : Nat} (hk : SlotsB bs kb n f k) : k < w.heap.size := by
  obtain ⟨_, a, cap, _, _, hc⟩ := h
  rcases hk with ⟨h0, rfl⟩ | ⟨i, hi, h0, rfl⟩
  · obtain ⟨off, _, h3⟩ := hc h0
    exact (h3 0 h0).birth.lt
  · obtain ⟨off, _, h3⟩ := hc (by omega)
    obtain ⟨_, _, _, _, _, h4⟩ := (h3 i hi).kids
    obtain ⟨o, _, h5⟩ := h4 h0
    exact (h5 0 h0).1.lt

/-- A pool in blocks from lo to hi, no two of its lists in one block, all of them free to be written. -/
def PoolOwn (w : World) (lo hi : Nat) (v0 v1 : Value) (p : PoolD) : Prop :=
  ∃ (bs hb : Nat) (kb : Nat → Nat) (kv : Nat → Value), SlotsOwn w bs kb kv v0 p.n p.s ∧ KidsApart kb p.n p.s ∧ IntsOwn w hb v1 p.hn p.h ∧ (0 < p.hn → ¬ SlotsB bs kb p.n p.s hb) ∧
    ∀ k, SlotsB bs kb p.n p.s k ∨ (0 < p.hn ∧ k = hb) → lo ≤ k ∧ k < hi

theorem PoolOwn.at {w : World} {lo hi : Nat} {v0 v1 : Value} {p : PoolD} (h : PoolOwn w lo hi v0 v1 p) : PoolAt w lo hi v0 v1 p := by
  obtain ⟨bs, hb, kb, kv, h1, h2, h3, h4, h5⟩ := h
  exact ⟨h1.at fun h0 => ⟨h5 _ (Or.inl (Or.inl ⟨h0, rfl⟩)), fun i hi h => h5 _ (Or.inl (Or.inr ⟨i, hi, h, rfl⟩))⟩, h3.at fun h0 => h5 _ (Or.inr ⟨h0, rfl⟩)⟩

theorem PoolOwn.below {w w' : World} {lo hi : Nat} {v0 v1 : Value} {p : PoolD} (h : PoolOwn w lo hi v0 v1 p) (t : Below w.heap.size w w') : PoolOwn w' lo hi v0 v1 p := by
  obtain ⟨bs, hb, kb, kv, h1, h2, h3, h4, h5⟩ := h
  exact ⟨bs, hb, kb, kv, h1.below t, h2, h3.below t, h4, h5⟩

theorem PoolOwn.turned {S : Nat → Prop} {w w' : World} {lo hi : Nat} {v0 v1 : Value} {p : PoolD} (h : PoolOwn w lo hi v0 v1 p) (t : Turned S w w') (hs : ∀ k, S k → k < lo ∨ hi ≤ k) : PoolOwn w' lo hi v0 v1 p := by
  obtain ⟨bs, hb, kb, kv, h1, h2, h3, h4, h5⟩ := h
  have out : ∀ k, SlotsB bs kb p.n p.s k ∨ (0 < p.hn ∧ k = hb) → ¬ S k := fun k hk hx => by
    have a := h5 k hk
    have b := hs k hx
    omega
  exact ⟨bs, hb, kb, kv, h1.turned t (fun h0 => out _ (Or.inl (Or.inl ⟨h0, rfl⟩))) (fun i hi h => out _ (Or.inl (Or.inr ⟨i, hi, h, rfl⟩))), h2, h3.turned t (fun h0 => out _ (Or.inr ⟨h0, rfl⟩)), h4, h5⟩

theorem PoolOwn.wide {w : World} {lo hi lo' hi' : Nat} {v0 v1 : Value} {p : PoolD} (h : PoolOwn w lo hi v0 v1 p) (h1 : lo' ≤ lo) (h2 : hi ≤ hi') : PoolOwn w lo' hi' v0 v1 p := by
  obtain ⟨bs, hb, kb, kv, g1, g2, g3, g4, g5⟩ := h
  exact ⟨bs, hb, kb, kv, g1, g2, g3, g4, fun k hk => by have := g5 k hk; omega⟩

theorem PoolOwn.form {w : World} {lo hi : Nat} {v0 v1 : Value} {p : PoolD} (h : PoolOwn w lo hi v0 v1 p) : ∃ a c a' c', v0 = .slice a p.n c ∧ v1 = .slice a' p.hn c' := by
  obtain ⟨bs, hb, kb, kv, ⟨_, a, c, h1, _⟩, h2, ⟨_, a', c', h3, _, _⟩, h4, h5⟩ := h
  exact ⟨a, c, a', c', h1, h3⟩

theorem PoolAt.form {w : World} {lo hi : Nat} {v0 v1 : Value} {p : PoolD} (h : PoolAt w lo hi v0 v1 p) : ∃ a c a' c', v0 = .slice a p.n c ∧ v1 = .slice a' p.hn c' := by
  obtain ⟨⟨_, a, c, h1, _⟩, ⟨_, a', c', h3, _⟩⟩ := h
  exact ⟨a, c, a', c', h1, h3⟩

/-- The answer is a new pool that holds what p tells; what was there is as it was. -/
def NewPool (p : PoolD) (w : World) (e : Ending) (w' : World) : Prop := ∃ v0 v1, e = .returned (.agg #[v0, v1]) ∧ PoolOwn w' w.heap.size w'.heap.size v0 v1 p ∧ Below w.heap.size w w'

/-- A free slot; a pool of n free slots. -/
def zeroS : SlotD := { birth := 0, kn := 0, ks := fun _ => 0, kb := fun _ => 0, data := ⟨#[]⟩ }
def newP (n : Nat) : PoolD := { n := n, s := fun _ => zeroS, hn := 0, h := fun _ => 0 }

theorem slotsB_zero {bs : Nat} {kb : Nat → Nat} {n k : Nat} : SlotsB bs kb n (fun _ => zeroS) k ↔ 0 < n ∧ k = bs := by
  constructor
  · rintro (h | ⟨i, _, h0, _⟩)
    · exact h
    · exact absurd h0 (by simp [zeroS])
  · exact Or.inl

/-- A new pool out of a row of free slots. -/
theorem newP_own {w : World} {lo hi g n : Nat} {v0 : Value} (hn : n ≤ maxLen) (hv : ∃ a cap, v0 = .slice a n cap ∧ n ≤ cap ∧ (0 < n → a = some ⟨g, 0, none⟩ ∧ lo ≤ g ∧ g < hi))
    (hc : ∀ i, i < n → Cell w g (0 + i * 3) (.int .i64 0) ∧ Cell w g (0 + i * 3 + 1) (.slice none 0 0) ∧ Cell w g (0 + i * 3 + 2) (.string ⟨#[]⟩)) :
    PoolOwn w lo hi v0 (.slice none 0 0) (newP n) := by
  obtain ⟨a, cap, rfl, hcap, ha⟩ := hv
  refine ⟨g, 0, fun _ => 0, fun _ => .slice none 0 0, ⟨hn, a, cap, rfl, hcap, fun h0 => ⟨0, (ha h0).1, fun i hi => ?_⟩⟩, fun i j _ _ _ h0 _ => absurd h0 (by simp [newP, zeroS]), ⟨Nat.zero_le _, none, 0, rfl, Nat.le_refl _, fun h => absurd h (Nat.lt_irrefl _), fun h => absurd h (Nat.lt_irrefl _)⟩, fun h => absurd h (Nat.lt_irrefl _), ?_⟩
  · exact ⟨(hc i hi).1, (hc i hi).2.1, (hc i hi).2.2, ⟨Nat.zero_le _, none, 0, rfl, Nat.le_refl _, fun h => absurd h (Nat.lt_irrefl _)⟩, Nat.zero_le _, fun h => absurd h (Nat.lt_irrefl _)⟩
  · rintro k (h | h)
    · obtain ⟨h0, rfl⟩ := slotsB_zero.1 h
      exact (ha h0).2
    · exact absurd h.1 (Nat.lt_irrefl _)

def slotN (s : SlotD) : Nat := s.kn + s.data.size
def slotsN (f : Nat → SlotD) : Nat → Nat
  | 0 => 0
  | k + 1 => slotsN f k + slotN (f k)
def poolN (p : PoolD) : Nat := p.n + slotsN p.s p.n + p.hn

theorem slotN_le (f : Nat → SlotD) {j n : Nat} (h : j < n) : slotN (f j) ≤ slotsN f n := by
  induction n with
  | zero => omega
  | succ n ih =>
    show _ ≤ slotsN f n + slotN (f n)
    by_cases e : j = n
    · subst e; omega
    · have := ih (by omega); omega

theorem infoInt64 : (Try.prog.info? 2).map (fun i => (i.zero, i.size, i.bytes)) = some (some (.int .i64 0), 1, 8) := by kernel_rfl
theorem infoPtr : (Try.prog.info? 49).map (fun i => (i.zero, i.size, i.bytes)) = some (some (.agg #[.int .i64 0, .int .i64 0]), 2, 16) := by kernel_rfl
theorem infoSlotT : (Try.prog.info? 44).map (fun i => (i.zero, i.size, i.bytes)) = some (some (.agg #[.int .i64 0, .slice none 0 0, .string ⟨#[]⟩]), 3, 48) := by kernel_rfl

/-- n times the cells zs. -/
def zeros (zs : Array Value) (n : Nat) : Array Value := madeCells zs (n * zs.size)

theorem zeros_at (zs : Array Value) (n i r : Nat) (hi : i < n) (hr : r < zs.size) : (zeros zs n)[i * zs.size + r]? = some (zs[r]!) := by
  unfold zeros madeCells
  have h1 : i * zs.size + r < n * zs.size := by
    have : (i + 1) * zs.size ≤ n * zs.size := Nat.mul_le_mul_right _ hi
    rw [Nat.add_mul] at this
    omega
  have h2 : (i * zs.size + r) % zs.size = r := by rw [Nat.mul_comm, Nat.mul_add_mod]; exact Nat.mod_eq_of_lt hr
  simp only [Array.getElem?_map, Array.getElem?_range, h1, if_true, Option.map_some, h2]

theorem make_zeros (t e : TypeId) (z : Value) (size bytes : Nat) (ht : Try.prog.underlying t = some (.slice e)) (hinfo : (Try.prog.info? e).map (fun i => (i.zero, i.size, i.bytes)) = some (some z, size, bytes)) (hs : z.cells.size = size)
    (n : Nat) (hn : n ≤ 1048576) (hb : bytes ≤ 1000) (w : World) : (Instr.makeSlice t (.int .i64 (n : Int)) (.int .i64 (n : Int))).run Try.prog w = .ok (.slice (some ⟨w.heap.size, 0, none⟩) n n) (w.alloc (.cells (zeros z.cells n) e)) := by
  obtain ⟨i, hi, hzz⟩ := Option.map_eq_some_iff.1 hinfo
  simp only [Prod.mk.injEq] at hzz
  obtain ⟨hz, hs', hb'⟩ := hzz
  have hbn : (bytes : Int) * (n : Int) ≤ 281474976710656 := by
    have h : bytes * n ≤ 1000 * 1048576 := Nat.mul_le_mul hb hn
    have h2 : ((bytes * n : Nat) : Int) ≤ ((1000 * 1048576 : Nat) : Int) := Int.ofNat_le.2 h
    rw [Int.natCast_mul] at h2
    omega
  have hr := run_make (P := Try.prog) w t e i z ht hi hz .i64 .i64 n n (by omega) (Int.le_refl _) (by rw [hb']; exact hbn) (by omega)
  rw [hs', ← hs] at hr
  simp only [Int.toNat_natCast] at hr
  exact hr

theorem new_cell (w : World) (zs : Array Value) (n i r : Nat) (t : TypeId) (hi : i < n) (hr : r < zs.size) : Cell (w.alloc (.cells (zeros zs n) t)) w.heap.size (i * zs.size + r) (zs[r]!) :=
  ⟨by rw [World.cell?_alloc_at (hn := rfl)]; exact zeros_at zs n i r hi hr, by rw [World.frozen?_alloc_at (hn := rfl)]⟩

end Go.Proofs.Ytiijnmpenljniaf
