/- What impl.wayTo answers. -/
import Derived.Test.YtiijnmpenljniadTreeS
import Derived.Test.YtiijnmpenljniadStepRows
namespace Go.Proofs.Ytiijnmpenljniad
open Go Go.RowKit
set_option linter.unusedVariables false

theorem wayFrame {v : Value} {xs xb : Int} {n z B X L : Nat} (a : Act) (h : a = { tmps := #[v, .agg #[.int .i64 xs, .int .i64 xb], .int .i64 (n : Int), a.tmps.getD 3 undef, .pointer (some ⟨z, 0, none⟩), a.tmps.getD 5 undef, .pointer (some ⟨z + 1, 0, none⟩), .pointer (some ⟨B, 0, none⟩), .pointer (some ⟨X, 0, none⟩), .int .i64 (L : Int), a.tmps.getD 10 undef, a.tmps.getD 11 undef, a.tmps.getD 12 undef, a.tmps.getD 13 undef, a.tmps.getD 14 undef, a.tmps.getD 15 undef, a.tmps.getD 16 undef, a.tmps.getD 17 undef, a.tmps.getD 18 undef, a.tmps.getD 19 undef, a.tmps.getD 20 undef, a.tmps.getD 21 undef, a.tmps.getD 22 undef, a.tmps.getD 23 undef, a.tmps.getD 24 undef, a.tmps.getD 25 undef, a.tmps.getD 26 undef, a.tmps.getD 27 undef, a.tmps.getD 28 undef, a.tmps.getD 29 undef, a.tmps.getD 30 undef, a.tmps.getD 31 undef, a.tmps.getD 32 undef, a.tmps.getD 33 undef, a.tmps.getD 34 undef, a.tmps.getD 35 undef, a.tmps.getD 36 undef, a.tmps.getD 37 undef, a.tmps.getD 38 undef, a.tmps.getD 39 undef, a.tmps.getD 40 undef, a.tmps.getD 41 undef, a.tmps.getD 42 undef, a.tmps.getD 43 undef, a.tmps.getD 44 undef, a.tmps.getD 45 undef, a.tmps.getD 46 undef, a.tmps.getD 47 undef, a.tmps.getD 48 undef, a.tmps.getD 49 undef, a.tmps.getD 50 undef, a.tmps.getD 51 undef, a.tmps.getD 52 undef, a.tmps.getD 53 undef, a.tmps.getD 54 undef, a.tmps.getD 55 undef, a.tmps.getD 56 undef, a.tmps.getD 57 undef, a.tmps.getD 58 undef, a.tmps.getD 59 undef, a.tmps.getD 60 undef, a.tmps.getD 61 undef, a.tmps.getD 62 undef, a.tmps.getD 63 undef, a.tmps.getD 64 undef, a.tmps.getD 65 undef, a.tmps.getD 66 undef, a.tmps.getD 67 undef], defers := [] }) : ∃ j : Nat → Value, a = { tmps := #[v, .agg #[.int .i64 xs, .int .i64 xb], .int .i64 (n : Int), j 3, .pointer (some ⟨z, 0, none⟩), j 5, .pointer (some ⟨z + 1, 0, none⟩), .pointer (some ⟨B, 0, none⟩), .pointer (some ⟨X, 0, none⟩), .int .i64 (L : Int), j 10, j 11, j 12, j 13, j 14, j 15, j 16, j 17, j 18, j 19, j 20, j 21, j 22, j 23, j 24, j 25, j 26, j 27, j 28, j 29, j 30, j 31, j 32, j 33, j 34, j 35, j 36, j 37, j 38, j 39, j 40, j 41, j 42, j 43, j 44, j 45, j 46, j 47, j 48, j 49, j 50, j 51, j 52, j 53, j 54, j 55, j 56, j 57, j 58, j 59, j 60, j 61, j 62, j 63, j 64, j 65, j 66, j 67], defers := [] } := ⟨fun i => a.tmps.getD i undef, h⟩

/-- The run of impl.wayTo at its labels. -/
def WayR (p : PoolD) (v : Value) (xs xb : Int) (n : Nat) (w0 : World) (z : Nat) (k l : Nat) (a : Act) (w : World) : Prop :=
  ∃ B X L : Nat, (∃ j : Nat → Value, a = { tmps := #[v, .agg #[.int .i64 xs, .int .i64 xb], .int .i64 (n : Int), j 3, .pointer (some ⟨z, 0, none⟩), j 5, .pointer (some ⟨z + 1, 0, none⟩), .pointer (some ⟨B, 0, none⟩), .pointer (some ⟨X, 0, none⟩), .int .i64 (L : Int), j 10, j 11, j 12, j 13, j 14, j 15, j 16, j 17, j 18, j 19, j 20, j 21, j 22, j 23, j 24, j 25, j 26, j 27, j 28, j 29, j 30, j 31, j 32, j 33, j 34, j 35, j 36, j 37, j 38, j 39, j 40, j 41, j 42, j 43, j 44, j 45, j 46, j 47, j 48, j 49, j 50, j 51, j 52, j 53, j 54, j 55, j 56, j 57, j 58, j 59, j 60, j 61, j 62, j 63, j 64, j 65, j 66, j 67], defers := [] }) ∧ L < 3 ∧ z + 1 < B ∧ B < X ∧ X < w.heap.size ∧ Below z w0 w ∧ w.heap[z + 1]? = some (.cells wayZ 96 (0, 0)) ∧
    ((l = 0 ∧ 7 ≤ k + L ∧ WayAt w B (wayV p xs xb n L L (.slice none 0 0)) ∧ Box2 w X (.int .i64 (metS p xs xb n L)) (.int .i64 (metB p xs xb n L))) ∨
     (l = 1 ∧ L < k ∧ ∃ o, WayAt w B (wayV p xs xb n 2 3 o) ∧ RowL w (X + 1) o (oldW p xs xb n (2 - L))))

theorem turned_setCells (B : Nat) : ∀ (vs : List Value) (o : Nat) (w : World), Turned (fun k => k = B) w (w.setCells B o vs)
  | [], _, w => Turned.refl _ w
  | v :: vs, o, w => ((Turned.refl (fun k => k = B) w).setCell (p := ⟨B, o, none⟩) rfl v).trans (turned_setCells B vs (o + 1) _)
theorem wayV_place (p : PoolD) (xs xb : Int) (n K M : Nat) (o : Value) {L : Nat} (hL : L < 2) : wayV p xs xb n K M o L = .int .i64 (plc n L : Nat) := by
  unfold wayV
  rw [if_pos hL]
theorem wayV_kid (p : PoolD) (xs xb : Int) (n M : Nat) (o : Value) {L j : Nat} (hL : L < 2) (hj : j < 16) : wayV p xs xb n (L + 1) M o (2 + L * 16 + j) = .int .i64 (kidC p xs xb n L j) := by
  unfold wayV
  rw [if_neg (by omega), if_pos (by omega), show (2 + L * 16 + j - 2) / 16 = L by omega, show (2 + L * 16 + j - 2) % 16 = j by omega, if_pos (by omega)]
theorem wayV_met (p : PoolD) (xs xb : Int) (n K : Nat) (o : Value) {L : Nat} (hL : L < 3) : wayV p xs xb n K 3 o (34 + L * 2) = .int .i64 (metS p xs xb n L) ∧ wayV p xs xb n K 3 o (34 + L * 2 + 1) = .int .i64 (metB p xs xb n L) := by
  refine ⟨?_, ?_⟩
  · unfold wayV
    rw [if_neg (by omega), if_neg (by omega), if_pos (by omega), show (34 + L * 2 - 34) / 2 = L by omega, show (34 + L * 2 - 34) % 2 = 0 by omega, if_pos (by omega), if_pos rfl]
  · unfold wayV
    rw [if_neg (by omega), if_neg (by omega), if_pos (by omega), show (34 + L * 2 + 1 - 34) / 2 = L by omega, show (34 + L * 2 + 1 - 34) % 2 = 1 by omega, if_pos (by omega), if_neg (by omega)]
theorem wayV_old (p : PoolD) (xs xb : Int) (n K M : Nat) (o : Value) : wayV p xs xb n K M o 40 = o := rfl
theorem old_none {p : PoolD} {xs xb : Int} {n L : Nat} (hN : L < 2 → Nil (metS p xs xb n L) (metB p xs xb n L)) (hL : L < 3) : oldW p xs xb n (2 - L) = [] := by
  unfold oldW
  rcases L with _ | _ | L
  · have h0 := hN (by omega)
    have h1 := met_nil h0 (by omega)
    have h2 := met_nil h1 (by omega)
    show ([] ++ one (metS p xs xb n 2) (metB p xs xb n 2)) ++ one (metS p xs xb n 1) (metB p xs xb n 1) = []
    unfold one
    rw [if_pos h2, if_pos h1]
    rfl
  · have h0 := hN (by omega)
    have h1 := met_nil h0 (by omega)
    show [] ++ one (metS p xs xb n 2) (metB p xs xb n 2) = []
    unfold one
    rw [if_pos h1]
    rfl
  · obtain rfl : L = 0 := by omega
    rfl

theorem old_step (p : PoolD) (xs xb : Int) (n : Nat) {L : Nat} (hL : L < 3) : oldW p xs xb n (2 - L + 1) = oldW p xs xb n (2 - L) ++ one (metS p xs xb n L) (metB p xs xb n L) := by
  show oldW p xs xb n (2 - L) ++ one (metS p xs xb n (2 - (2 - L))) (metB p xs xb n (2 - (2 - L))) = _
  rw [show 2 - (2 - L) = L by omega]
theorem old_length (p : PoolD) (xs xb : Int) (n k : Nat) : (oldW p xs xb n k).length ≤ k := kidsUp_len _ _ k

theorem wayV_one (p : PoolD) (xs xb : Int) (n K M : Nat) {o : Value} (ho : o.oneCell' = true) : (wayF (wayV p xs xb n K M o)).all (·.oneCell') = true := by
  unfold wayF
  rw [Array.all_eq_true_iff_forall_mem]
  intro v hv
  simp at hv
  obtain ⟨i, _, rfl⟩ := hv
  unfold wayV
  split
  · rfl
  split
  · rfl
  split
  · rfl
  · exact ho
theorem RowL.one {w : World} {base : Nat} {v : Value} {l : List (Int × Int)} (h : RowL w base v l) : v.oneCell' = true := by
  obtain ⟨a, c, rfl, _⟩ := owns_form h
  rfl
theorem RowL.setRow {w : World} {base g : Nat} {v : Value} {l : List (Int × Int)} (h : RowL w base v l) (hb : g < base) (cs : Array Value) : RowL (w.setRow g cs) base v l := by
  have t := Turned.setRow w g cs
  exact h.turned (row := some g) ⟨t.os, t.tape, t.output, t.size, fun k hk hne => t.block k hk (fun e => hne (by rw [e]))⟩ (fun q hq => by
    have := (h.lt hq).1
    simp only [ne_eq, Option.some.injEq]
    omega)

theorem infoWayL (f : Nat → Value) : (Try.prog.info? 96).map (·.size) = some ((List.range 41).map f).length := by
  rw [infoWay]
  simp

end Go.Proofs.Ytiijnmpenljniad
