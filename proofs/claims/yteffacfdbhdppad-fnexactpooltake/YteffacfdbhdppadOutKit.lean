/- New variables that hold what is handed back beside a code. For the walks of laws. -/
import Derived.Test.YteffacfdbhdppadOut
namespace Go.Proofs.Yteffacfdbhdppad
open Go.RowKit
set_option linter.unusedVariables false

theorem PoolOwn.at0 {w : World} {lo hi : Nat} {v0 v1 : Value} {p : PoolD} (h : PoolOwn w lo hi v0 v1 p) : PoolAt w 0 hi v0 v1 p := (h.wide (Nat.zero_le _) (Nat.le_refl _)).at

theorem end_small2 {p : PoolD} (h : poolN p ≤ 4000000) : endP p 1 ≤ 1000000000000 ∧ 0 ≤ endP p 1 := by
  have h1 := cnt_size p.s p.n
  have h2 := cnt_le p.s 1 (Nat.zero_le p.n)
  have h3 : cnt p.s 1 0 = 1 := rfl
  unfold poolN at h
  unfold endP
  omega

/-- A new variable that holds an answer, made since w1. -/
def NewOutVar (o : OutD) (w1 : World) (t : Value) (wx : World) : Prop :=
  ∃ L a c a' c' lo hi, t = .pointer (some ⟨L, 0, none⟩) ∧ OutVar wx L lo hi (.slice a o.pool.n c) (.slice a' o.pool.hn c') o ∧ w1.heap.size ≤ lo ∧ hi ≤ wx.heap.size ∧ (L < lo ∨ hi ≤ L) ∧ w1.heap.size ≤ L ∧ L < wx.heap.size ∧ Below w1.heap.size w1 wx

theorem newOut_late {o : OutD} {w1 w2 : World} {m : Nat} {a a' : Option Addr} {c c' : Nat} {t : TypeId} (hC : Below w1.heap.size w1 w2) (hm : w1.heap.size ≤ m) (ho : PoolOwn w2 m w2.heap.size (.slice a o.pool.n c) (.slice a' o.pool.hn c') o.pool) :
    NewOutVar o w1 (.pointer (some ⟨w2.heap.size, 0, none⟩)) (w2.alloc (.cells #[.slice a o.pool.n c, .slice a' o.pool.hn c', .int .i64 o.ps, .int .i64 o.pb, .int .i64 o.code] t)) :=
  ⟨_, a, c, a', c', m, w2.heap.size, rfl, ⟨Box5.new _ _ _ _ _ _ _, ho.below (below_alloc _ _)⟩, hm, by rw [World.size_alloc]; omega, Or.inr (Nat.le_refl _), hC.size, by rw [World.size_alloc]; omega, below_next hC (below_alloc _ _)⟩
theorem newOut_early {o : OutD} {w1 w2 : World} {m B : Nat} {a a' : Option Addr} {c c' : Nat} {o0 o1 o2 o3 o4 : Value} (hC : Below w1.heap.size w1 w2) (hL : Box5 w2 B o0 o1 o2 o3 o4) (hB : w1.heap.size ≤ B) (hm : B < m) (ho : PoolOwn w2 m w2.heap.size (.slice a o.pool.n c) (.slice a' o.pool.hn c') o.pool) :
    NewOutVar o w1 (.pointer (some ⟨B, 0, none⟩)) (put5 w2 B (.slice a o.pool.n c) (.slice a' o.pool.hn c') (.int .i64 o.ps) (.int .i64 o.pb) (.int .i64 o.code)) := by
  have t := Turned.put5 w2 B (.slice a o.pool.n c) (.slice a' o.pool.hn c') (.int .i64 o.ps) (.int .i64 o.pb) (.int .i64 o.code)
  have hBC := hL.1.lt
  have hz := t.size
  exact ⟨_, a, c, a', c', m, w2.heap.size, rfl, ⟨hL.put _ _ _ _ _, ho.turned t (fun k hk => by omega)⟩, by omega, hz, Or.inl hm, hB, by omega, ((Turned.of_below (S := fun k => k = B) hC).trans t).below (Nat.le_refl _) (fun k hk => hk ▸ hB)⟩

end Go.Proofs.Yteffacfdbhdppad
