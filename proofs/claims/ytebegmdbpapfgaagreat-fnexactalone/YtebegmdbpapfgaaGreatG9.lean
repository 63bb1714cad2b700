/- What spec.l02Right answers in a right pool. -/
import Derived.Test.YtebegmdbpapfgaaGreatG8
import Derived.Deep.AppendLies
namespace Go.Proofs.YtebegmdbpapfgaaGreat
open Go.RowKit
set_option linter.unusedVariables false

/-- The slots that have been seen ahead of the j-th Kid of the root. -/
def seenL (p : PoolD) (rs : Int) (s : SlotD) (j : Nat) : List Int := rs :: slotsL (subUp p s j)
/-- .. and ahead of the i-th Kid of that. -/
def midS (p : PoolD) (rs : Int) (s : SlotD) (j i : Nat) : List Int := seenL p rs s j ++ (kidS s j :: slotsL (kidsUp (kidS (p.s (kidS s j).toNat)) (kidB (p.s (kidS s j).toNat)) i))

theorem sub_prefix (p : PoolD) (s : SlotD) (j : Nat) : ∀ m, j ≤ m → ∃ r, subUp p s m = subUp p s j ++ r
  | 0, h => ⟨[], by rw [show j = 0 by omega]; simp⟩
  | m + 1, h => by
    by_cases e : j = m + 1
    · subst e; exact ⟨[], by simp⟩
    · obtain ⟨r, hr⟩ := sub_prefix p s j m (by omega)
      exact ⟨r ++ midL p (kidS s m) (kidB s m), by rw [subUp, hr, List.append_assoc]⟩
theorem kids_prefix (ks kb : Nat → Int) (j : Nat) : ∀ m, j ≤ m → ∃ r, kidsUp ks kb m = kidsUp ks kb j ++ r
  | 0, h => ⟨[], by rw [show j = 0 by omega]; simp⟩
  | m + 1, h => by
    by_cases e : j = m + 1
    · subst e; exact ⟨[], by simp⟩
    · obtain ⟨r, hr⟩ := kids_prefix ks kb j m (by omega)
      exact ⟨r ++ one (ks m) (kb m), by rw [kidsUp, hr, List.append_assoc]⟩
theorem slotsL_append (l m : List (Int × Int)) : slotsL (l ++ m) = slotsL l ++ slotsL m := by simp [slotsL]
theorem snoc_nodup {l : List Int} {x : Int} : (l ++ [x]).Nodup ↔ l.Nodup ∧ x ∉ l := by
  rw [List.nodup_append]
  constructor
  · rintro ⟨h1, _, h3⟩
    exact ⟨h1, fun hx => h3 x hx x (by simp) rfl⟩
  · rintro ⟨h1, h2⟩
    refine ⟨h1, by simp, fun a ha b hb e => ?_⟩
    rw [List.mem_singleton] at hb
    subst hb
    subst e
    exact h2 ha
theorem tree_slots {p : PoolD} {rs rb : Int} (hz : ¬ Nil rs rb) : slotsL (treeL p rs rb) = seenL p rs (p.s rs.toNat) 8 := by
  unfold treeL seenL
  rw [if_neg hz]
  rfl
theorem midL_yes {p : PoolD} {s : SlotD} {j : Nat} (hn : ¬ Nil (kidS s j) (kidB s j)) : midL p (kidS s j) (kidB s j) = (kidS s j, kidB s j) :: lowL (p.s (kidS s j).toNat) := if_neg hn
theorem seen_next {p : PoolD} {rs : Int} {s : SlotD} {j : Nat} (hn : ¬ Nil (kidS s j) (kidB s j)) : seenL p rs s (j + 1) = midS p rs s j 8 := by
  unfold seenL midS seenL
  rw [subUp, slotsL_append, midL_yes hn]
  rfl
theorem seen_stay {p : PoolD} {rs : Int} {s : SlotD} {j : Nat} (hn : Nil (kidS s j) (kidB s j)) : seenL p rs s (j + 1) = seenL p rs s j := by
  unfold seenL
  rw [subUp, show midL p (kidS s j) (kidB s j) = [] from if_pos hn, List.append_nil]
theorem mid_start (p : PoolD) (rs : Int) (s : SlotD) (j : Nat) : midS p rs s j 0 = seenL p rs s j ++ [kidS s j] := rfl
theorem mid_stay {p : PoolD} {rs : Int} {s : SlotD} {j i : Nat} (hn : Nil (kidS (p.s (kidS s j).toNat) i) (kidB (p.s (kidS s j).toNat) i)) : midS p rs s j (i + 1) = midS p rs s j i := by
  unfold midS
  rw [kidsUp, show one (kidS (p.s (kidS s j).toNat) i) (kidB (p.s (kidS s j).toNat) i) = [] from if_pos hn, List.append_nil]
theorem mid_next {p : PoolD} {rs : Int} {s : SlotD} {j i : Nat} (hn : ¬ Nil (kidS (p.s (kidS s j).toNat) i) (kidB (p.s (kidS s j).toNat) i)) : midS p rs s j (i + 1) = midS p rs s j i ++ [kidS (p.s (kidS s j).toNat) i] := by
  unfold midS
  rw [kidsUp, show one (kidS (p.s (kidS s j).toNat) i) (kidB (p.s (kidS s j).toNat) i) = [(kidS (p.s (kidS s j).toNat) i, kidB (p.s (kidS s j).toNat) i)] from if_neg hn, slotsL_append, List.append_assoc]
  rfl
theorem seen_len (p : PoolD) (rs : Int) (s : SlotD) {j : Nat} (hj : j ≤ 8) : (seenL p rs s j).length ≤ 73 := by
  have := subUp_len p s j
  simp only [seenL, slotsL, List.length_cons, List.length_map]
  omega
theorem mid_len (p : PoolD) (rs : Int) (s : SlotD) {j i : Nat} (hj : j ≤ 8) (hi : i ≤ 8) : (midS p rs s j i).length ≤ 90 := by
  have h1 := seen_len p rs s hj
  have h2 := kidsUp_len (kidS (p.s (kidS s j).toNat)) (kidB (p.s (kidS s j).toNat)) i
  simp only [midS, slotsL, List.length_append, List.length_cons, List.length_map]
  omega
/-- In a tree whose slots are all different so are those seen, and the next one. -/
theorem nodup_low {p : PoolD} {rs rb : Int} (hz : ¬ Nil rs rb) (h : (slotsL (treeL p rs rb)).Nodup) {j i : Nat} (hj : j < 8) (hi : i ≤ 8) (hn : ¬ Nil (kidS (p.s rs.toNat) j) (kidB (p.s rs.toNat) j)) : (midS p rs (p.s rs.toNat) j i).Nodup := by
  rw [tree_slots hz] at h
  obtain ⟨r, hr⟩ := sub_prefix p (p.s rs.toNat) (j + 1) 8 (by omega)
  obtain ⟨r2, hr2⟩ := kids_prefix (kidS (p.s (kidS (p.s rs.toNat) j).toNat)) (kidB (p.s (kidS (p.s rs.toNat) j).toNat)) i 8 hi
  have e1 : seenL p rs (p.s rs.toNat) 8 = seenL p rs (p.s rs.toNat) (j + 1) ++ slotsL r := by unfold seenL; rw [hr, slotsL_append]; rfl
  have e2 : midS p rs (p.s rs.toNat) j 8 = midS p rs (p.s rs.toNat) j i ++ slotsL r2 := by
    unfold midS
    rw [hr2, slotsL_append, List.append_assoc]
    rfl
  rw [e1, seen_next hn, e2, List.append_assoc] at h
  exact (List.nodup_append.1 h).1


end Go.Proofs.YtebegmdbpapfgaaGreat
