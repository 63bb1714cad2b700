/- What impl.isPtr answers. -/
import Derived.Test.YtiijnmpenljniadImplRight3
import Derived.Deep.RegionHeld3
import Derived.Deep.QuietTactic
import Derived.BigQuiet
namespace Go.Proofs.Ytiijnmpenljniad
open Go.RowKit
set_option linter.unusedVariables false

theorem PtrOf.some (n : Nat) (f : Nat → SlotD) (x : Int) : ∃ ps pb, PtrOf n f x ps pb := by
  by_cases h : 0 ≤ x ∧ x < n ∧ ¬ Free (f x.toNat)
  · exact ⟨x, (f x.toNat).birth, Or.inl ⟨h.1, h.2.1, h.2.2, rfl, rfl⟩⟩
  · exact ⟨0, 0, Or.inr ⟨h, rfl, rfl⟩⟩

set_option maxRecDepth 20000 in
set_option maxHeartbeats 1000000 in
theorem isPtr_any (v : Value) (n lo hi : Nat) (f : Nat → SlotD) (xs xb : Int) (w : World) (h1 : SlotsAt w lo hi v n f) :
    Calls Try.prog 60 #[v, .agg #[.int .i64 xs, .int .i64 xb]] w fun e w' => BoolIs (¬ PtrEq xs xb 0 0 ∧ PtrOf n f xs xs xb) e ∧ Below w.heap.size w w' := by
  have Hi : Hid (SlotsAt w lo hi v n f) := h1
  obtain ⟨m1, a, c, rfl, mc, g1⟩ := h1
  clear g1
  have ha := below_alloc w (.cells #[.int .i64 xs, .int .i64 xb] 35)
  have Hx : Hid (Box2 (w.alloc (.cells #[.int .i64 xs, .int .i64 xb] 35)) w.heap.size (.int .i64 xs) (.int .i64 xb)) := Box2.new _ _ _ _
  by_cases hz : xs = 0 ∧ xb = 0
  · obtain ⟨rfl, rfl⟩ := hz
    go_enter Try.func60, Try.ntmps60
    go_wp2_with fail
    go_quiet (fail)
    go_wp2
    go_ret
    exact ⟨BoolIs.no fun h => h.1 ⟨rfl, rfl⟩, below_drewN ha _⟩
  · have HZ : Hid (¬ PtrEq xs xb 0 0) := hz
    have e0 : (xs == 0) = false ∨ (xs == 0) = true ∧ (xb == 0) = false := by
      by_cases h : xs = 0
      · right
        refine ⟨by simp [h], ?_⟩
        have : xb ≠ 0 := fun h' => hz ⟨h, h'⟩
        simp [this]
      · left; simp [h]
    clear hz
    obtain ⟨ps0, pb0, h0⟩ := PtrOf.some n f xs
    have H0 : Hid (PtrOf n f xs ps0 pb0) := h0
    clear h0
    by_cases hq : xs = ps0 ∧ xb = pb0
    · obtain ⟨rfl, rfl⟩ := hq
      rcases e0 with e0 | ⟨e0, e1⟩
      all_goals
        go_enter Try.func60, Try.ntmps60
        go_wp2_with fail
        go_region_held3 (fun w' => w'.cell? ⟨w.heap.size, 0, none⟩ = some (.int .i64 xs) ∧ w'.cell? ⟨w.heap.size, 1, none⟩ = some (.int .i64 xb)) (go_keep)
          (first | (go_at_call 81; refine (ptrOf_any _ n lo hi f _ _ ?_).mono ?_; (exact (Hi.out.below ha).below ((Below.refl _ _).drew)); rintro e w1 ⟨⟨ps, pb, rfl, hp⟩, hb1⟩; obtain ⟨rfl, rfl⟩ := H0.out.uniq hp; clear hp; have hbb := below_undrew hb1; have z0 := (Hx.out.below hbb).1.1; have z1 := (Hx.out.below hbb).2.1))
        have hbn := below_next ha hbb
        clear hb1 hbb z0 z1
        go_wp2
        go_ret
        exact ⟨BoolIs.yes ⟨HZ.out, H0.out⟩, hbn⟩
    · have HQ : Hid (¬ (xs = ps0 ∧ xb = pb0)) := hq
      have e4 : (xs == ps0) = false ∨ (xs == ps0) = true ∧ (xb == pb0) = false := by
        by_cases h : xs = ps0
        · right
          refine ⟨by simp [h], ?_⟩
          have : xb ≠ pb0 := fun h' => hq ⟨h, h'⟩
          simp [this]
        · left; simp [h]
      clear hq
      rcases e0 with e0 | ⟨e0, e1⟩
      all_goals
        rcases e4 with e4 | ⟨e4, e5⟩
        all_goals
          go_enter Try.func60, Try.ntmps60
          go_wp2_with fail
          go_region_held3 (fun w' => w'.cell? ⟨w.heap.size, 0, none⟩ = some (.int .i64 xs) ∧ w'.cell? ⟨w.heap.size, 1, none⟩ = some (.int .i64 xb)) (go_keep)
            (first | (go_at_call 81; refine (ptrOf_any _ n lo hi f _ _ ?_).mono ?_; (exact (Hi.out.below ha).below ((Below.refl _ _).drew)); rintro e w1 ⟨⟨ps, pb, rfl, hp⟩, hb1⟩; obtain ⟨rfl, rfl⟩ := H0.out.uniq hp; clear hp; have hbb := below_undrew hb1; have z0 := (Hx.out.below hbb).1.1; have z1 := (Hx.out.below hbb).2.1))
          have hbn := below_next ha hbb
          clear hb1 hbb z0 z1
          go_wp2
          go_ret
          refine ⟨BoolIs.no fun h => ?_, hbn⟩
          obtain ⟨q0, q1⟩ := h.2.uniq H0.out
          exact HQ.out ⟨q0, q1⟩

theorem isPtr_iff {p : PoolD} {xs xb : Int} (hR : Right p) : (¬ PtrEq xs xb 0 0 ∧ PtrOf p.n p.s xs xs xb) ↔ Points p xs xb := by
  constructor
  · rintro ⟨h, h1 | ⟨_, h2, h3⟩⟩
    · obtain ⟨a, b, c, _, e⟩ := h1
      have := fits_birth (hR.2.1 xs.toNat (by omega)) c
      exact ⟨by omega, a, b, e.symm⟩
    · exact absurd ⟨h2, h3⟩ h
  · rintro ⟨a, b, c, d⟩
    refine ⟨fun h => by have := h.2; omega, Or.inl ⟨b, c, fun hf => ?_, rfl, d.symm⟩⟩
    have := free_birth hf
    omega

end Go.Proofs.Ytiijnmpenljniad
