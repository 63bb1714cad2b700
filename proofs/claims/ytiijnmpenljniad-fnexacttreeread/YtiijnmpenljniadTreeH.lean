/- What spec.l02Number and impl.pageNumber answer; rows of numbers. -/
import Derived.Test.YtiijnmpenljniadTreeF
namespace Go.Proofs.Ytiijnmpenljniad
open Go.RowKit
set_option linter.unusedVariables false

def PageNo (n : Int) : Prop := 0 ≤ n ∧ n ≤ 63

set_option maxRecDepth 20000 in
set_option maxHeartbeats 400000 in
theorem l02Number_any (n : Int) (w : World) : Calls Try.prog 70 #[.int .i64 n] w fun e w' => BoolIs (PageNo n) e ∧ w' = w := by
  by_cases h1 : 0 ≤ n
  · by_cases h2 : n ≤ 63
    · go_enter Try.func70, Try.ntmps70
      go_wp2
      go_ret
      exact ⟨BoolIs.yes ⟨h1, h2⟩, rfl⟩
    · go_enter Try.func70, Try.ntmps70
      go_wp2
      go_ret
      exact ⟨BoolIs.no fun h => by have := h.2; omega, rfl⟩
  · go_enter Try.func70, Try.ntmps70
    go_wp2
    go_ret
    exact ⟨BoolIs.no fun h => by have := h.1; omega, rfl⟩

set_option maxRecDepth 20000 in
set_option maxHeartbeats 400000 in
theorem pageNumber_any (n : Int) (w : World) : Calls Try.prog 73 #[.int .i64 n] w fun e w' => BoolIs (PageNo n) e ∧ w' = w := by
  by_cases h1 : 0 ≤ n
  · by_cases h2 : n < 64
    · go_enter Try.func73, Try.ntmps73
      go_wp2
      go_ret
      exact ⟨BoolIs.yes ⟨h1, by omega⟩, rfl⟩
    · go_enter Try.func73, Try.ntmps73
      go_wp2
      go_ret
      exact ⟨BoolIs.no fun h => by have := h.2; omega, rfl⟩
  · go_enter Try.func73, Try.ntmps73
    go_wp2
    go_ret
    exact ⟨BoolIs.no fun h => by have := h.1; omega, rfl⟩

/-- The cells of a list of numbers. -/
def icl (l : List Int) : List Value := l.map (Value.int .i64)
theorem icl_len (l : List Int) : (icl l).length = l.length * 1 := by simp [icl]
theorem icl_append (l m : List Int) : icl (l ++ m) = icl l ++ icl m := by simp [icl]
theorem icl_one (l : List Int) : ∀ u ∈ icl l, u.oneCell' = true := by
  intro u hu
  simp only [icl, List.mem_map] at hu
  obtain ⟨x, _, rfl⟩ := hu
  rfl

theorem row_ints {w : World} {base : Nat} {v : Value} {l : List Int} (hm : l.length ≤ maxLen) (h : w.ownsRow base 2 1 v l.length (icl l)) : IntsAt w 0 w.heap.size v l.length (fun i => l.getD i 0) := by
  by_cases h0 : 0 < l.length
  · obtain ⟨g, cap, rfl, hcp, hb, hlt, hcell⟩ := owns_cell h h0
    refine ⟨hm, _, cap, rfl, hcp, fun _ => ⟨g, 0, rfl, Nat.zero_le _, hlt, fun i hi => ?_⟩⟩
    rw [Nat.zero_add]
    refine (hcell i _ ?_).1
    simp [icl, hi]
  · obtain ⟨a, cap, rfl, hcp⟩ := owns_form h
    exact ⟨hm, a, cap, rfl, hcp, fun h => absurd h h0⟩

theorem has_list (l : List Int) (x : Int) : Has l.length (fun i => l.getD i 0) x ↔ x ∈ l := by
  have getE : ∀ i (h : i < l.length), l.getD i 0 = l[i] := fun i h => by rw [List.getD_eq_getElem?_getD, List.getElem?_eq_getElem h, Option.getD_some]
  constructor
  · rintro ⟨j, hj, e⟩
    rw [← e]
    show l.getD j 0 ∈ l
    rw [getE j hj]
    exact List.getElem_mem hj
  · intro h
    obtain ⟨i, hi, rfl⟩ := List.getElem_of_mem h
    exact ⟨i, hi, getE i hi⟩

end Go.Proofs.Ytiijnmpenljniad
