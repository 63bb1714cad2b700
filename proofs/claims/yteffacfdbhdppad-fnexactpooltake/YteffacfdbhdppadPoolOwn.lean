/- A pool that the call owns; marks laid and looked for, over a whole pool. -/
import Derived.Test.YteffacfdbhdppadHeld
import Derived.Test.YteffacfdbhdppadEq
namespace Go.Proofs.Yteffacfdbhdppad
open Go.RowKit
set_option linter.unusedVariables false

/-- A pool in blocks from lo to hi, no two of its lists in one block, all of them free to be written. -/
def PoolOwn (w : World) (lo hi : Nat) (v0 v1 : Value) (p : PoolD) : Prop :=
  ∃ (bs hb : Nat) (kb : Nat → Nat) (kv : Nat → Value), SlotsOwn w bs kb kv v0 p.n p.s ∧ KidsApart kb p.n p.s ∧ IntsOwn w hb v1 p.hn p.h ∧ (0 < p.hn → ¬ SlotsB bs kb p.n p.s hb) ∧
    ∀ k, SlotsB bs kb p.n p.s k ∨ (0 < p.hn ∧ k = hb) → lo ≤ k ∧ k < hi

theorem PoolOwn.at {w : World} {lo hi : Nat} {v0 v1 : Value} {p : PoolD} (h : PoolOwn w lo hi v0 v1 p) : PoolAt w lo hi v0 v1 p := by
  obtain ⟨bs, hb, kb, kv, h1, h2, h3, h4, h5⟩ := h
  exact ⟨h1.at fun h0 => ⟨h5 _ (Or.inl (Or.inl ⟨h0, rfl⟩)), fun i hi h => h5 _ (Or.inl (Or.inr ⟨i, hi, h, rfl⟩))⟩, h3.at fun h0 => h5 _ (Or.inr ⟨h0, rfl⟩)⟩

theorem PoolOwn.below {w w' : World} {lo hi : Nat} {v0 v1 : Value} {p : PoolD} (h : PoolOwn w lo hi v0 v1 p) (t : Below w.heap.size w w') : PoolOwn w' lo hi v0 v1 p := by
  obtain ⟨bs, hb, kb, kv, h1, h2, h3, h4, h5⟩ := h
  exact ⟨bs, hb, kb, kv, h1.below t, h2, h3.below t, h4, h5⟩

theorem PoolOwn.turned {S : Nat → Prop} {w w' : World} {lo hi : Nat} {v0 v1 : Value} {p : PoolD} (h : PoolOwn w lo hi v0 v1 p) (t : Turned S w w') (hs : ∀ k, S k → k < lo ∨ hi ≤ k) : PoolOwn w' lo hi v0 v1 p := by
  obtain ⟨bs, hb, kb, kv, h1, h2, h3, h4, h5⟩ := h
  have out : ∀ k, SlotsB bs kb p.n p.s k ∨ (0 < p.hn ∧ k = hb) → ¬ S k := fun k hk hx => by
    have a := h5 k hk
    have b := hs k hx
    omega
  exact ⟨bs, hb, kb, kv, h1.turned t (fun h0 => out _ (Or.inl (Or.inl ⟨h0, rfl⟩))) (fun i hi h => out _ (Or.inl (Or.inr ⟨i, hi, h, rfl⟩))), h2, h3.turned t (fun h0 => out _ (Or.inr ⟨h0, rfl⟩)), h4, h5⟩

theorem PoolOwn.wide {w : World} {lo hi lo' hi' : Nat} {v0 v1 : Value} {p : PoolD} (h : PoolOwn w lo hi v0 v1 p) (h1 : lo' ≤ lo) (h2 : hi ≤ hi') : PoolOwn w lo' hi' v0 v1 p := by
  obtain ⟨bs, hb, kb, kv, g1, g2, g3, g4, g5⟩ := h
  exact ⟨bs, hb, kb, kv, g1, g2, g3, g4, fun k hk => by have := g5 k hk; omega⟩

theorem PoolOwn.form {w : World} {lo hi : Nat} {v0 v1 : Value} {p : PoolD} (h : PoolOwn w lo hi v0 v1 p) : ∃ a c a' c', v0 = .slice a p.n c ∧ v1 = .slice a' p.hn c' := by
  obtain ⟨bs, hb, kb, kv, ⟨_, a, c, h1, _⟩, h2, ⟨_, a', c', h3, _⟩, h4, h5⟩ := h
  exact ⟨a, c, a', c', h1, h3⟩

theorem PoolAt.form {w : World} {lo hi : Nat} {v0 v1 : Value} {p : PoolD} (h : PoolAt w lo hi v0 v1 p) : ∃ a c a' c', v0 = .slice a p.n c ∧ v1 = .slice a' p.hn c' := by
  obtain ⟨⟨_, a, c, h1, _⟩, ⟨_, a', c', h3, _⟩⟩ := h
  exact ⟨a, c, a', c', h1, h3⟩

/-- A pool with its marks from k0 on, and how many there are. -/
def markP (p : PoolD) (k0 : Int) : PoolD := { n := p.n, s := markS p.s k0, hn := p.hn, h := fun i => cnt p.s k0 p.n + i }
def endP (p : PoolD) (k0 : Int) : Int := cnt p.s k0 p.n + p.hn

theorem markPool_own (lo hi : Nat) (v0 v1 : Value) (p : PoolD) (k0 : Int) (w : World) (h : PoolOwn w lo hi v0 v1 p) (hk0 : 0 ≤ k0) (hk1 : endP p k0 ≤ 1000000000000) :
    Calls Try.prog 16 #[.agg #[v0, v1], .int .i64 k0] w fun e w' => e = .returned (.int .i64 (endP p k0)) ∧ PoolOwn w' lo hi v0 v1 (markP p k0) ∧ Turned (fun k => lo ≤ k ∧ k < hi) w w' := by
  obtain ⟨bs, hb, kb, kv, h1, h2, h3, h4, h5⟩ := h
  refine (markPool_any bs hb kb kv v0 v1 p k0 w h1 h2 h3 h4 hk0 hk1).mono ?_
  rintro e w' ⟨rfl, g1, g2, g3⟩
  exact ⟨rfl, ⟨bs, hb, kb, kv, g1, h2, g2, h4, h5⟩, g3.mono h5⟩

theorem heldPool_own (lo hi : Nat) (v0 v1 : Value) (p : PoolD) (k0 : Int) (w : World) (h : PoolAt w lo hi v0 v1 (markP p k0)) (hk0 : 0 ≤ k0) (hk1 : endP p k0 ≤ 1000000000000) :
    Calls Try.prog 25 #[.agg #[v0, v1], .int .i64 k0] w fun e w' => e = .returned (.int .i64 (endP p k0)) ∧ Below w.heap.size w w' :=
  heldPool_any v0 v1 lo hi p k0 w h.1 h.2 hk0 hk1

/-- The answer is a new pool that holds what p tells; what was there is as it was. -/
def NewPool (p : PoolD) (w : World) (e : Ending) (w' : World) : Prop := ∃ v0 v1, e = .returned (.agg #[v0, v1]) ∧ PoolOwn w' w.heap.size w'.heap.size v0 v1 p ∧ Below w.heap.size w w'

/-- A free slot; a pool of n free slots. -/
def zeroS : SlotD := { birth := 0, kn := 0, ks := fun _ => 0, kb := fun _ => 0, data := ⟨#[]⟩ }
def newP (n : Nat) : PoolD := { n := n, s := fun _ => zeroS, hn := 0, h := fun _ => 0 }

theorem slotsB_zero {bs : Nat} {kb : Nat → Nat} {n k : Nat} : SlotsB bs kb n (fun _ => zeroS) k ↔ 0 < n ∧ k = bs := by
  constructor
  · rintro (h | ⟨i, _, h0, _⟩)
    · exact h
    · exact absurd h0 (by simp [zeroS])
  · exact Or.inl

/-- A new pool out of a row of free slots. -/
theorem newP_own {w : World} {lo hi g n : Nat} {v0 : Value} (hn : n ≤ maxLen) (hv : ∃ a cap, v0 = .slice a n cap ∧ n ≤ cap ∧ (0 < n → a = some ⟨g, 0, none⟩ ∧ lo ≤ g ∧ g < hi))
    (hc : ∀ i, i < n → Cell w g (0 + i * 3) (.int .i64 0) ∧ Cell w g (0 + i * 3 + 1) (.slice none 0 0) ∧ Cell w g (0 + i * 3 + 2) (.string ⟨#[]⟩)) :
    PoolOwn w lo hi v0 (.slice none 0 0) (newP n) := by
  obtain ⟨a, cap, rfl, hcap, ha⟩ := hv
  refine ⟨g, 0, fun _ => 0, fun _ => .slice none 0 0, ⟨hn, a, cap, rfl, hcap, fun h0 => ⟨0, (ha h0).1, fun i hi => ?_⟩⟩, fun i j _ _ _ h0 _ => absurd h0 (by simp [newP, zeroS]), ⟨Nat.zero_le _, none, 0, rfl, Nat.le_refl _, fun h => absurd h (Nat.lt_irrefl _)⟩, fun h => absurd h (Nat.lt_irrefl _), ?_⟩
  · exact ⟨(hc i hi).1, (hc i hi).2.1, (hc i hi).2.2, ⟨Nat.zero_le _, none, 0, rfl, Nat.le_refl _, fun h => absurd h (Nat.lt_irrefl _)⟩, Nat.zero_le _, fun h => absurd h (Nat.lt_irrefl _)⟩
  · rintro k (h | h)
    · obtain ⟨h0, rfl⟩ := slotsB_zero.1 h
      exact (ha h0).2
    · exact absurd h.1 (Nat.lt_irrefl _)

end Go.Proofs.Yteffacfdbhdppad
