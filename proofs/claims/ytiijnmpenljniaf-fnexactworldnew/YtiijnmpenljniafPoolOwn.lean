/- A pool that the call owns; marks laid and looked for, over a whole pool. -/
import Derived.Test.YtiijnmpenljniafHeld
import Derived.Test.YtiijnmpenljniafEq
namespace Go.Proofs.Ytiijnmpenljniaf
open Go.RowKit
set_option linter.unusedVariables false

/-- A pool with its marks from k0 on, and how many there are. -/
def markP (p : PoolD) (k0 : Int) : PoolD := { n := p.n, s := markS p.s k0, hn := p.hn, h := fun i => cnt p.s k0 p.n + i }
def endP (p : PoolD) (k0 : Int) : Int := cnt p.s k0 p.n + p.hn

theorem markPool_own (lo hi : Nat) (v0 v1 : Value) (p : PoolD) (k0 : Int) (w : World) (h : PoolOwn w lo hi v0 v1 p) (hk0 : 0 ≤ k0) (hk1 : endP p k0 ≤ 1000000000000) :
    Calls Try.prog 15 #[.agg #[v0, v1], .int .i64 k0] w fun e w' => e = .returned (.int .i64 (endP p k0)) ∧ PoolOwn w' lo hi v0 v1 (markP p k0) ∧ Turned (fun k => lo ≤ k ∧ k < hi) w w' := by
  obtain ⟨bs, hb, kb, kv, h1, h2, h3, h4, h5⟩ := h
  refine (markPool_any bs hb kb kv v0 v1 p k0 w h1 h2 h3 h4 hk0 hk1).mono ?_
  rintro e w' ⟨rfl, g1, g2, g3⟩
  exact ⟨rfl, ⟨bs, hb, kb, kv, g1, h2, g2, h4, h5⟩, g3.mono h5⟩

theorem heldPool_own (lo hi : Nat) (v0 v1 : Value) (p : PoolD) (k0 : Int) (w : World) (h : PoolAt w lo hi v0 v1 (markP p k0)) (hk0 : 0 ≤ k0) (hk1 : endP p k0 ≤ 1000000000000) :
    Calls Try.prog 18 #[.agg #[v0, v1], .int .i64 k0] w fun e w' => e = .returned (.int .i64 (endP p k0)) ∧ Below w.heap.size w w' :=
  heldPool_any v0 v1 lo hi p k0 w h.1 h.2 hk0 hk1

end Go.Proofs.Ytiijnmpenljniaf
