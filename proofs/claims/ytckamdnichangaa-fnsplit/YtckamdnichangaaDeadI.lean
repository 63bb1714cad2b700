/- What was parted comes together: the pointers born behind a time and the others are the same as all; append of rows as a step of a region that draws (no law is proved here). -/
import Derived.Test.YtckamdnichangaaDeadD
import Derived.Test.YtckamdnichangaaCopy
import Derived.Deep.RegionHeld3
namespace Go.Proofs.Ytckamdnichangaa
open Go.RowKit
set_option linter.unusedVariables false

def allL (f g : Nat → Int) : Nat → List (Int × Int)
  | 0 => []
  | k + 1 => allL f g k ++ [(f k, g k)]
theorem all_len (f g : Nat → Int) : ∀ k, (allL f g k).length = k
  | 0 => rfl
  | k + 1 => by simp [allL, all_len f g k]
theorem mem_all {f g : Nat → Int} {x : Int × Int} : ∀ {k : Nat}, x ∈ allL f g k ↔ ∃ i, i < k ∧ x = (f i, g i)
  | 0 => by simp [allL]
  | k + 1 => by
    rw [allL, List.mem_append, mem_all, List.mem_singleton]
    constructor
    · rintro (⟨i, hi, h⟩ | h)
      · exact ⟨i, by omega, h⟩
      · exact ⟨k, by omega, h⟩
    · rintro ⟨i, hi, h⟩
      by_cases e : i = k
      · subst e; exact Or.inr h
      · exact Or.inl ⟨i, by omega, h⟩
theorem all_nodup {f g : Nat → Int} : ∀ {k : Nat}, Dist k f → ((allL f g k).map Prod.fst).Nodup
  | 0, _ => by simp [allL]
  | k + 1, h => by
    obtain ⟨h1, h2⟩ := dist_succ.1 h
    rw [allL, List.map_append, List.nodup_append]
    refine ⟨all_nodup h1, by simp, fun a ha b hb e => ?_⟩
    subst e
    simp only [List.map_cons, List.map_nil, List.mem_singleton] at hb
    rw [List.mem_map] at ha
    obtain ⟨x, hx, e⟩ := ha
    obtain ⟨i, hi, rfl⟩ := mem_all.1 hx
    exact h2 i hi (e.trans hb)

theorem both_perm (f g : Nat → Int) (t : Int) : ∀ k, (oldL f g t k ++ youngL f g t k).Perm (allL f g k)
  | 0 => List.Perm.refl _
  | k + 1 => by
    have ih := both_perm f g t k
    by_cases h : t < g k
    · rw [show oldL f g t (k + 1) = oldL f g t k from if_pos h, show youngL f g t (k + 1) = youngL f g t k ++ [(f k, g k)] from if_pos h, ← List.append_assoc]
      exact ih.append_right _
    · rw [show oldL f g t (k + 1) = oldL f g t k ++ [(f k, g k)] from if_neg h, show youngL f g t (k + 1) = youngL f g t k from if_neg h, List.append_assoc]
      refine (List.Perm.append_left _ List.perm_append_comm).trans ?_
      rw [← List.append_assoc]
      exact ih.append_right _

theorem getL {l : List (Int × Int)} {i : Nat} (h : i < l.length) : l.getD i (0, 0) = l[i] := by rw [List.getD_eq_getElem?_getD, List.getElem?_eq_getElem h, Option.getD_some]
theorem mem_getL {l : List (Int × Int)} {i : Nat} (h : i < l.length) : (fstL l i, sndL l i) ∈ l := by
  have : (fstL l i, sndL l i) = l[i] := by unfold fstL sndL; rw [getL h]
  rw [this]
  exact List.getElem_mem h
theorem dist_list {l : List (Int × Int)} (h : (l.map Prod.fst).Nodup) : Dist l.length (fstL l) := by
  intro i hi k hk e
  rw [List.Nodup, List.pairwise_iff_getElem] at h
  refine h k i (by rw [List.length_map]; omega) (by rw [List.length_map]; omega) hk ?_
  rw [List.getElem_map, List.getElem_map]
  unfold fstL at e
  rw [getL hi, getL (by omega)] at e
  exact e

theorem both_same {n : Nat} {f g : Nat → Int} (t : Int) (h : PtrsOk n f g) : PSame (oldL f g t n ++ youngL f g t n).length (fstL (oldL f g t n ++ youngL f g t n)) (sndL (oldL f g t n ++ youngL f g t n)) n f g := by
  have hp := both_perm f g t n
  have hin : ∀ i, i < (oldL f g t n ++ youngL f g t n).length → PIn n f g (fstL (oldL f g t n ++ youngL f g t n) i) (sndL (oldL f g t n ++ youngL f g t n) i) := fun i hi => by
    obtain ⟨j, hj, e⟩ := mem_all.1 (hp.mem_iff.1 (mem_getL hi))
    simp only [Prod.mk.injEq] at e
    exact ⟨j, hj, e.1.symm, e.2.symm⟩
  have hlen : (oldL f g t n ++ youngL f g t n).length = n := by rw [hp.length_eq, all_len]
  refine ⟨⟨by rw [hlen]; exact h.1, fun i hi => ?_, dist_list ((hp.map Prod.fst).nodup_iff.2 (all_nodup h.2.2))⟩, h, hlen, hin⟩
  obtain ⟨j, hj, e1, e2⟩ := hin i hi
  rw [← e1, ← e2]
  exact h.2.1 j hj

theorem young_gt {f g : Nat → Int} {t : Int} {x : Int × Int} : ∀ {k : Nat}, x ∈ youngL f g t k → t < x.2
  | 0, h => by simp [youngL] at h
  | k + 1, h => by
    unfold youngL at h
    split at h
    · rename_i hq
      rw [List.mem_append, List.mem_singleton] at h
      rcases h with h | rfl
      · exact young_gt h
      · exact hq
    · exact young_gt h
theorem old_le {f g : Nat → Int} {t : Int} {x : Int × Int} : ∀ {k : Nat}, x ∈ oldL f g t k → ¬ t < x.2
  | 0, h => by simp [oldL] at h
  | k + 1, h => by
    unfold oldL at h
    split at h
    · exact old_le h
    · rename_i hq
      rw [List.mem_append, List.mem_singleton] at h
      rcases h with h | rfl
      · exact old_le h
      · exact hq

theorem RowL.at' {w : World} {base : Nat} {v : Value} {l : List (Int × Int)} (h : RowL w base v l) (hm : l.length ≤ maxLen) : PtrsAt w 0 w.heap.size v l.length (fstL l) (sndL l) := by
  obtain ⟨b, h1, h2⟩ := h.own hm
  exact h1.at (fun h0 => ⟨Nat.zero_le _, (h2 h0).2.2⟩)

/-- append of a row behind a row, as a step of a region that draws its order. -/
theorem step_rows {ops : Array Oper} {o : Oper} {a : Act} {w : World} {K : Act → World → Prop} {Q : Exit → Act → World → Prop} {E : Prop} (hgd : o.guard = none) (s x : Operand)
    (ho : o.op = .call { callee := .builtin .append, args := #[s, x], argTypes := #[27, 27] }) (base base2 : Nat) (v : Value) (l : List (Int × Int)) (hs : a.eval s = v) (hown : RowL w base v l)
    (ao : Option Addr) (m c : Nat) (l2 : List (Int × Int)) (hx : a.eval x = .slice ao m c) (hm : m = l2.length) (h2 : RowL w base2 (.slice ao m c) l2) (hlen : l.length + l2.length ≤ 1000) (hbase : base ≤ w.heap.size)
    (h : ∀ v' w', RowL w' base v' (l ++ l2) → w.grownBy w' v.ownBlock → K (a.put o.dst v') w') : if Region.wanted o (yielded ops a.tmps) = true then Oper.wp Try.prog o a w K Q else E := by
  have hw : Region.wanted o (yielded ops a.tmps) = true := by simp [Region.wanted, hgd]
  rw [if_pos hw]
  obtain ⟨i0, hi0, hz0, hz1, hz2⟩ : ∃ i, Try.prog.info? 33 = some i ∧ i.zero = some (.agg #[.int .i64 0, .int .i64 0]) ∧ i.size = 2 ∧ i.bytes = 16 := by
    obtain ⟨i0, hi0, hzz⟩ := Option.map_eq_some_iff.1 infoPtrL
    simp only [Prod.mk.injEq] at hzz
    exact ⟨i0, hi0, hzz⟩
  have ht : Try.prog.underlying 27 = some (.slice 33) := by kernel_rfl
  by_cases h0 : 0 < l2.length
  · obtain ⟨b, cap, e, _, _, _, hcell⟩ := owns_cell h2 h0
    simp only [Value.slice.injEq] at e
    obtain ⟨rfl, _, _⟩ := e
    obtain ⟨v', w', hr, r1, r2, _⟩ := run_append_own (P := Try.prog) w base 27 o.type 33 i0 (.agg #[.int .i64 0, .int .i64 0]) 2 16 ht hi0 hz0 hz1 hz2 rfl (by decide) v l.length (pcl l) hown ⟨b, 0, none⟩ m c (pcl l2) (by rw [pcl_len, hm]) (fun j u hj => by rw [add_lit, Nat.zero_add]; exact (hcell j u hj).1) (pcl_one l2) (by rw [hm]; unfold maxLen; omega) (by rw [hm]; omega) hbase
    unfold Oper.wp
    simp [execOp, ho, resolve, invoke, builtin, hs, hx, hr, Result.andThen]
    refine h v' w' ?_ r2
    unfold RowL
    rw [pcl_append, List.length_append, ← hm]
    exact r1
  · have e0 : l2 = [] := List.eq_nil_of_length_eq_zero (by omega)
    subst e0
    have hm0 : m = 0 := hm
    subst hm0
    have hr := run_append_zero (P := Try.prog) (w := w) base 27 o.type 33 i0 2 c ao ht hi0 v l.length (pcl l) hown
    unfold Oper.wp
    simp [execOp, ho, resolve, invoke, builtin, hs, hx, hr, Result.andThen]
    exact h v w (by rw [List.append_nil]; exact hown) ⟨rfl, rfl, rfl, Nat.le_refl _, fun _ _ _ => rfl⟩

end Go.Proofs.Ytckamdnichangaa
