/- A store in memory (no law is proved here). -/
import Derived.Test.YtjpbmpjddbekgaaGreatG27
namespace Go.Proofs.YtjpbmpjddbekgaaGreat
open Go.RowKit
set_option linter.unusedVariables false

structure StoreD where
  live : WorldD
  safe : WorldD
/-- The value that stands for it. -/
abbrev storeV (v0 v1 v2 v3 u0 u1 u2 u3 : Value) (S : StoreD) : Value := .agg #[v0, v1, .int .i64 S.live.time, .int .i64 S.live.next, v2, v3, u0, u1, .int .i64 S.safe.time, .int .i64 S.safe.next, u2, u3]
structure StoreAt (w : World) (lo hi : Nat) (v0 v1 v2 v3 u0 u1 u2 u3 : Value) (S : StoreD) : Prop where
  live : WorldAt w lo hi v0 v1 v2 v3 S.live
  safe : WorldAt w lo hi u0 u1 u2 u3 S.safe
theorem StoreAt.below {w w' : World} {lo hi : Nat} {v0 v1 v2 v3 u0 u1 u2 u3 : Value} {S : StoreD} (h : StoreAt w lo hi v0 v1 v2 v3 u0 u1 u2 u3 S) (t : Below w.heap.size w w') : StoreAt w' lo hi v0 v1 v2 v3 u0 u1 u2 u3 S := ⟨h.live.below t, h.safe.below t⟩
theorem SetsAt.wide {w : World} {lo hi lo' hi' : Nat} {v : Value} {n : Nat} {f : Nat → SetD} (h : SetsAt w lo hi v n f) (h1 : lo' ≤ lo) (h2 : hi ≤ hi') (hp : ∀ {v n f g}, PtrsAt w lo hi v n f g → PtrsAt w lo' hi' v n f g) : SetsAt w lo' hi' v n f := by
  obtain ⟨m, a, c, hv, hc, hx⟩ := h
  refine ⟨m, a, c, hv, hc, fun h0 => ?_⟩
  obtain ⟨b, off, ha, l1, l2, h3⟩ := hx h0
  refine ⟨b, off, ha, by omega, by omega, fun i hi => ?_⟩
  obtain ⟨vd, hs⟩ := h3 i hi
  exact ⟨vd, hs.c0, hs.c1, hs.c2, hs.c3, hs.c4, hs.c5, hp hs.dead, hs.small⟩
theorem SnapsAt.wide {w : World} {lo hi lo' hi' : Nat} {v : Value} {n : Nat} {f : Nat → SnapD} (h : SnapsAt w lo hi v n f) (h1 : lo' ≤ lo) (h2 : hi ≤ hi') (hp : ∀ {v n f g}, PtrsAt w lo hi v n f g → PtrsAt w lo' hi' v n f g) : SnapsAt w lo' hi' v n f := by
  obtain ⟨m, a, c, hv, hc, hx⟩ := h
  refine ⟨m, a, c, hv, hc, fun h0 => ?_⟩
  obtain ⟨b, off, ha, l1, l2, h3⟩ := hx h0
  refine ⟨b, off, ha, by omega, by omega, fun i hi => ?_⟩
  obtain ⟨vd, hs⟩ := h3 i hi
  exact ⟨vd, hs.c0, hs.c1, hs.c2, hs.c3, hs.c4, hs.c5, hs.c6, hs.c7, hp hs.dead, hs.small⟩
theorem PtrsAt.wide {w : World} {lo hi lo' hi' : Nat} {v : Value} {n : Nat} {f g : Nat → Int} (h : PtrsAt w lo hi v n f g) (h1 : lo' ≤ lo) (h2 : hi ≤ hi') : PtrsAt w lo' hi' v n f g := by
  obtain ⟨m, a, c, hv, hc, hx⟩ := h
  refine ⟨m, a, c, hv, hc, fun h0 => ?_⟩
  obtain ⟨b, off, ha, l1, l2, h3⟩ := hx h0
  exact ⟨b, off, ha, by omega, by omega, h3⟩
theorem IntsAt.wide {w : World} {lo hi lo' hi' : Nat} {v : Value} {n : Nat} {f : Nat → Int} (h : IntsAt w lo hi v n f) (h1 : lo' ≤ lo) (h2 : hi ≤ hi') : IntsAt w lo' hi' v n f := by
  obtain ⟨m, a, c, hv, hc, hx⟩ := h
  refine ⟨m, a, c, hv, hc, fun h0 => ?_⟩
  obtain ⟨b, off, ha, l1, l2, h3⟩ := hx h0
  exact ⟨b, off, ha, by omega, by omega, h3⟩
theorem SlotsAt.wide {w : World} {lo hi lo' hi' : Nat} {v : Value} {n : Nat} {f : Nat → SlotD} (h : SlotsAt w lo hi v n f) (h1 : lo' ≤ lo) (h2 : hi ≤ hi') : SlotsAt w lo' hi' v n f := by
  obtain ⟨m, a, c, hv, hc, hx⟩ := h
  refine ⟨m, a, c, hv, hc, fun h0 => ?_⟩
  obtain ⟨b, off, ha, l1, l2, h3⟩ := hx h0
  refine ⟨b, off, ha, by omega, by omega, fun i hi => ?_⟩
  obtain ⟨x0, x1, x2, c0, c1, c2, e0, hp, e2, hs⟩ := h3 i hi
  exact ⟨x0, x1, x2, c0, c1, c2, e0, hp.wide h1 h2, e2, hs⟩
theorem WorldAt.wide {w : World} {lo hi lo' hi' : Nat} {v0 v1 v2 v3 : Value} {W : WorldD} (h : WorldAt w lo hi v0 v1 v2 v3 W) (h1 : lo' ≤ lo) (h2 : hi ≤ hi') : WorldAt w lo' hi' v0 v1 v2 v3 W :=
  ⟨⟨h.pool.1.wide h1 h2, h.pool.2.wide h1 h2⟩, h.sets.wide h1 h2 (fun hp => hp.wide h1 h2), h.snaps.wide h1 h2 (fun hp => hp.wide h1 h2)⟩
/-- A store that the call owns, in blocks from lo to hi: its worlds in two ranges apart. -/
def StoreOwn (w : World) (lo hi : Nat) (v0 v1 v2 v3 u0 u1 u2 u3 : Value) (S : StoreD) : Prop := ∃ l1 h1 l2 h2, WorldOwn w l1 h1 v0 v1 v2 v3 S.live ∧ WorldOwn w l2 h2 u0 u1 u2 u3 S.safe ∧ lo ≤ l1 ∧ h1 ≤ hi ∧ lo ≤ l2 ∧ h2 ≤ hi ∧ (h1 ≤ l2 ∨ h2 ≤ l1)
theorem StoreOwn.at {w : World} {lo hi : Nat} {v0 v1 v2 v3 u0 u1 u2 u3 : Value} {S : StoreD} (h : StoreOwn w lo hi v0 v1 v2 v3 u0 u1 u2 u3 S) : StoreAt w lo hi v0 v1 v2 v3 u0 u1 u2 u3 S := by
  obtain ⟨l1, h1, l2, h2, a, b, c1, c2, c3, c4, _⟩ := h
  exact ⟨a.at.wide c1 c2, b.at.wide c3 c4⟩
theorem StoreOwn.below {w w' : World} {lo hi : Nat} {v0 v1 v2 v3 u0 u1 u2 u3 : Value} {S : StoreD} (h : StoreOwn w lo hi v0 v1 v2 v3 u0 u1 u2 u3 S) (t : Below w.heap.size w w') : StoreOwn w' lo hi v0 v1 v2 v3 u0 u1 u2 u3 S := by
  obtain ⟨l1, h1, l2, h2, a, b, c⟩ := h
  exact ⟨l1, h1, l2, h2, a.below t, b.below t, c⟩
theorem StoreOwn.turned {T : Nat → Prop} {w w' : World} {lo hi : Nat} {v0 v1 v2 v3 u0 u1 u2 u3 : Value} {S : StoreD} (h : StoreOwn w lo hi v0 v1 v2 v3 u0 u1 u2 u3 S) (t : Turned T w w') (hs : ∀ k, T k → k < lo ∨ hi ≤ k) : StoreOwn w' lo hi v0 v1 v2 v3 u0 u1 u2 u3 S := by
  obtain ⟨l1, h1, l2, h2, a, b, c⟩ := h
  exact ⟨l1, h1, l2, h2, a.turned t (fun k hk => by have := hs k hk; omega), b.turned t (fun k hk => by have := hs k hk; omega), c⟩
def NewStore (S : StoreD) (w : World) (e : Ending) (w' : World) : Prop := ∃ v0 v1 v2 v3 u0 u1 u2 u3, e = .returned (storeV v0 v1 v2 v3 u0 u1 u2 u3 S) ∧ StoreOwn w' w.heap.size w'.heap.size v0 v1 v2 v3 u0 u1 u2 u3 S ∧ Below w.heap.size w w'

end Go.Proofs.YtjpbmpjddbekgaaGreat
