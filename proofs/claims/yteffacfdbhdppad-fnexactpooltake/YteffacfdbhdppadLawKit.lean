/- Variables that hold own pools; how many marks there are. For the walks of laws. -/
import Derived.Test.YteffacfdbhdppadCopy
namespace Go.Proofs.Yteffacfdbhdppad
open Go.RowKit
set_option linter.unusedVariables false

/-- A variable that holds a pool of its own, in blocks from lo to hi. -/
structure PoolVar (w : World) (b lo hi : Nat) (v0 v1 : Value) (q : PoolD) : Prop where
  box : Box2 w b v0 v1
  own : PoolOwn w lo hi v0 v1 q

theorem PoolVar.below {w w' : World} {b lo hi : Nat} {v0 v1 : Value} {q : PoolD} (h : PoolVar w b lo hi v0 v1 q) (t : Below w.heap.size w w') : PoolVar w' b lo hi v0 v1 q := ⟨h.box.below t, h.own.below t⟩
theorem PoolVar.turned {S : Nat → Prop} {w w' : World} {b lo hi : Nat} {v0 v1 : Value} {q : PoolD} (h : PoolVar w b lo hi v0 v1 q) (t : Turned S w w') (hb : ¬ S b) (hs : ∀ k, S k → k < lo ∨ hi ≤ k) : PoolVar w' b lo hi v0 v1 q := ⟨h.box.turned t hb, h.own.turned t hs⟩

theorem poolVar_new {p : PoolD} {w1 w2 : World} {s0 s1 : Value} {t : TypeId} (ho : PoolOwn w2 w1.heap.size w2.heap.size s0 s1 p) (hb : Below w1.heap.size w1 w2) :
    PoolVar (w2.alloc (.cells #[s0, s1] t)) w2.heap.size w1.heap.size w2.heap.size s0 s1 p ∧ w1.heap.size ≤ w2.heap.size ∧ w2.heap.size < (w2.alloc (.cells #[s0, s1] t)).heap.size ∧ Below w1.heap.size w1 (w2.alloc (.cells #[s0, s1] t)) :=
  ⟨⟨Box2.new _ _ _ _, ho.below (below_alloc _ _)⟩, hb.size, by rw [World.size_alloc]; exact Nat.lt_succ_self _, below_next hb (below_alloc _ _)⟩

theorem cnt_size (f : Nat → SlotD) : ∀ n, cnt f 1 n ≤ 1 + 2 * (n : Int) + 2 * (slotsN f n : Int)
  | 0 => by show (1 : Int) ≤ _; omega
  | n + 1 => by
    have := cnt_size f n
    show cnt f 1 n + 2 + 2 * ((f n).kn : Int) ≤ 1 + 2 * ((n + 1 : Nat) : Int) + 2 * ((slotsN f n + ((f n).kn + (f n).data.size) : Nat) : Int)
    omega
theorem end_small {p : PoolD} (h : poolN p ≤ 1048576) : endP p 1 ≤ 1000000000000 ∧ 0 ≤ endP p 1 := by
  have h1 := cnt_size p.s p.n
  have h2 := cnt_le p.s 1 (Nat.zero_le p.n)
  have h3 : cnt p.s 1 0 = 1 := rfl
  unfold poolN at h
  unfold endP
  omega
theorem slotsN_le {f g : Nat → SlotD} (h : ∀ i, slotN (f i) ≤ slotN (g i)) : ∀ n, slotsN f n ≤ slotsN g n
  | 0 => Nat.le_refl _
  | n + 1 => Nat.add_le_add (slotsN_le h n) (h n)

end Go.Proofs.Yteffacfdbhdppad
