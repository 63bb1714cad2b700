/- What slices.Contains of pointers and impl.apart answer. -/
import Derived.Test.YtiijnmpenljniadTreeC
namespace Go.Proofs.Ytiijnmpenljniad
open Go.RowKit
set_option linter.unusedVariables false

def HasP (n : Nat) (f g : Nat → Int) (x y : Int) : Prop := ∃ j, j < n ∧ f j = x ∧ g j = y

theorem PtrsAt.cellsT {w : World} {lo hi : Nat} {a : Option Addr} {n c : Nat} {f g : Nat → Int} (h : PtrsAt w lo hi (.slice a n c) n f g) {k : Nat} (hk : k < n) : ∃ b off, a = some ⟨b, off, none⟩ ∧ w.cell? ⟨b, off + k * 2, none⟩ = some (.int .i64 (f k)) ∧ w.cell? ⟨b, off + k * 2 + 1, none⟩ = some (.int .i64 (g k)) := by
  obtain ⟨_, a2, c2, hv, _, hx⟩ := h
  simp only [Value.slice.injEq, true_and] at hv
  obtain ⟨rfl, rfl⟩ := hv
  obtain ⟨b, off, ha, _, _, h3⟩ := hx (by omega)
  exact ⟨b, off, ha, (h3 k hk).1, (h3 k hk).2⟩
theorem PtrsAt.take {w : World} {lo hi : Nat} {a : Option Addr} {n c m c' : Nat} {f g : Nat → Int} (h : PtrsAt w lo hi (.slice a n c) n f g) (hm : m ≤ n) (hc : m ≤ c') : PtrsAt w lo hi (.slice a m c') m f g := by
  obtain ⟨h0, a2, c2, hv, _, hx⟩ := h
  simp only [Value.slice.injEq, true_and] at hv
  obtain ⟨rfl, rfl⟩ := hv
  refine ⟨by omega, _, c', rfl, hc, fun h1 => ?_⟩
  obtain ⟨b, off, ha, hl, hh, h3⟩ := hx (by omega)
  exact ⟨b, off, ha, hl, hh, fun i hi => h3 i (by omega)⟩

set_option maxRecDepth 20000 in
set_option maxHeartbeats 1000000 in
theorem indexPtr_any (v : Value) (n lo hi : Nat) (f g : Nat → Int) (x y : Int) (w : World) (h1 : PtrsAt w lo hi v n f g) :
    Calls Try.prog 100 #[v, .agg #[.int .i64 x, .int .i64 y]] w fun e w' => (∃ r : Int, e = .returned (.int .i64 r) ∧ (0 ≤ r ↔ HasP n f g x y)) ∧ Below w.heap.size w w' := by
  have Hp := hideT h1
  obtain ⟨m1, a, c, rfl, mc, _⟩ := id h1
  unfold maxLen at m1
  clear h1
  have ha := below_alloc w (.cells #[.int .i64 x, .int .i64 y] 35)
  have HB := hideT (Box2.new w (.int .i64 x) (.int .i64 y) 35)
  go_enter Try.func100, Try.ntmps100
  go_wp2
  go_loopw [8] (fun i wr => ∃ k : Nat, k ≤ n ∧ i = .int .i64 k ∧ ¬ HasP k f g x y ∧ Box2 wr w.heap.size (.int .i64 x) (.int .i64 y) ∧ Below w.heap.size w wr) (fun i _ => n - (intOf i).toNat)
  case atStart => exact ⟨0, Nat.zero_le _, rfl, fun ⟨j, hj, _⟩ => absurd hj (Nat.not_lt_zero _), HB.out, ha⟩
  case round =>
    obtain ⟨k, hk, rfl, hno, hX, hb⟩ := hrel
    have Hno := hideT hno
    have HX := hideT hX
    clear hno hX
    obtain ⟨⟨x0, x1⟩, ⟨x2, x3⟩⟩ := HX.out
    by_cases hlt : k < n
    · have hlt' : (k : Int) < (n : Int) := by omega
      obtain ⟨b, off, rfl, q0, q1⟩ := (Hp.out.below hb).cellsT hlt
      by_cases he : x = f k ∧ y = g k
      · have H := hideT (show HasP n f g x y from ⟨k, hlt, he.1.symm, he.2.symm⟩)
        rw [← he.1] at q0
        rw [← he.2] at q1
        clear he
        go_wp2
        go_quiet (fail)
        go_wp2
        go_ret
        exact ⟨⟨_, rfl, ⟨fun _ => H.out, fun _ => Int.natCast_nonneg _⟩⟩, below_drewN hb _⟩
      · have H := hideT he
        have e0 : (x == f k) = false ∨ (x == f k) = true ∧ (y == g k) = false := by
          by_cases h : x = f k
          · right
            refine ⟨by simp [h], ?_⟩
            have : y ≠ g k := fun h' => he ⟨h, h'⟩
            simp [this]
          · left; simp [h]
        clear he
        rcases e0 with e0 | ⟨e0, e1⟩
        all_goals
          go_wp2
          go_quiet (fail)
          go_wp2
          go_roundw
          case rel =>
            refine ⟨k + 1, by omega, by go_num, ?_, HX.out.below (below_drewN (Below.refl _ _) _), below_drewN hb _⟩
            rintro ⟨j, hj, hjx⟩
            by_cases e : j = k
            · subst e; exact H.out ⟨hjx.1.symm, hjx.2.symm⟩
            · exact Hno.out ⟨j, by omega, hjx⟩
          case measure => simp [intOf]; omega
    · obtain rfl : k = n := by omega
      go_wp2
      go_ret
      exact ⟨⟨-1, rfl, ⟨fun h => absurd h (by omega), fun h => absurd h Hno.out⟩⟩, hb⟩

set_option maxRecDepth 20000 in
set_option maxHeartbeats 400000 in
theorem containsPtr_any (v : Value) (n lo hi : Nat) (f g : Nat → Int) (x y : Int) (w : World) (h1 : PtrsAt w lo hi v n f g) :
    Calls Try.prog 99 #[v, .agg #[.int .i64 x, .int .i64 y]] w fun e w' => BoolIs (HasP n f g x y) e ∧ Below w.heap.size w w' := by
  have Hi := hideT h1
  obtain ⟨m1, a, c, rfl, mc, _⟩ := id h1
  clear h1
  have ha := below_alloc w (.cells #[.int .i64 x, .int .i64 y] 35)
  go_enter Try.func99, Try.ntmps99
  go_wp2_with fail
  refine (indexPtr_any _ n lo hi f g x y _ (Hi.out.below ha)).mono ?_
  rintro e w' ⟨⟨r, rfl, hr⟩, hb⟩
  have Hr := hideT hr
  have hB := below_next ha hb
  clear hr hb
  go_wp2
  go_ret
  exact ⟨⟨_, rfl, by simpa using Hr.out⟩, hB⟩

end Go.Proofs.Ytiijnmpenljniad
