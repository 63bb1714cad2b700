/- append of a row of pointers behind a row, as a step of a region that draws its order (no law is proved here). -/
import Derived.Test.YtiijnmpenljniadPcl
import Derived.Test.YtiijnmpenljniadCopy
import Derived.Deep.RegionHeld3
namespace Go.Proofs.Ytiijnmpenljniad
open Go.RowKit
set_option linter.unusedVariables false

theorem RowL.at' {w : World} {base : Nat} {v : Value} {l : List (Int × Int)} (h : RowL w base v l) (hm : l.length ≤ maxLen) : PtrsAt w 0 w.heap.size v l.length (fstL l) (sndL l) := by
  obtain ⟨b, h1, h2⟩ := h.own hm
  exact h1.at (fun h0 => ⟨Nat.zero_le _, (h2 h0).2.2⟩)

/-- append of a row behind a row, as a step of a region that draws its order. -/
theorem step_rows {ops : Array Oper} {o : Oper} {a : Act} {w : World} {K : Act → World → Prop} {Q : Exit → Act → World → Prop} {E : Prop} (hgd : o.guard = none) (s x : Operand)
    (ho : o.op = .call { callee := .builtin .append, args := #[s, x], argTypes := #[40, 40] }) (base base2 : Nat) (v : Value) (l : List (Int × Int)) (hs : a.eval s = v) (hown : RowL w base v l)
    (ao : Option Addr) (m c : Nat) (l2 : List (Int × Int)) (hx : a.eval x = .slice ao m c) (hm : m = l2.length) (h2 : RowL w base2 (.slice ao m c) l2) (hlen : l.length + l2.length ≤ 1000) (hbase : base ≤ w.heap.size)
    (h : ∀ v' w', RowL w' base v' (l ++ l2) → w.grownBy w' v.ownBlock → K (a.put o.dst v') w') : if Region.wanted o (yielded ops a.tmps) = true then Oper.wp Try.prog o a w K Q else E := by
  have hw : Region.wanted o (yielded ops a.tmps) = true := by simp [Region.wanted, hgd]
  rw [if_pos hw]
  obtain ⟨i0, hi0, hz0, hz1, hz2⟩ : ∃ i, Try.prog.info? 35 = some i ∧ i.zero = some (.agg #[.int .i64 0, .int .i64 0]) ∧ i.size = 2 ∧ i.bytes = 16 := by
    obtain ⟨i0, hi0, hzz⟩ := Option.map_eq_some_iff.1 infoPtrL
    simp only [Prod.mk.injEq] at hzz
    exact ⟨i0, hi0, hzz⟩
  have ht : Try.prog.underlying 40 = some (.slice 35) := by kernel_rfl
  by_cases h0 : 0 < l2.length
  · obtain ⟨b, cap, e, _, _, _, hcell⟩ := owns_cell h2 h0
    simp only [Value.slice.injEq] at e
    obtain ⟨rfl, _, _⟩ := e
    obtain ⟨v', w', hr, r1, r2, _⟩ := run_append_own (P := Try.prog) w base 40 o.type 35 i0 (.agg #[.int .i64 0, .int .i64 0]) 2 16 ht hi0 hz0 hz1 hz2 rfl (by decide) v l.length (pcl l) hown ⟨b, 0, none⟩ m c (pcl l2) (by rw [pcl_len, hm]) (fun j u hj => by rw [add_lit, Nat.zero_add]; exact (hcell j u hj).1) (pcl_one l2) (by rw [hm]; unfold maxLen; omega) (by rw [hm]; omega) hbase
    unfold Oper.wp
    simp [execOp, ho, resolve, invoke, builtin, hs, hx, hr, Result.andThen]
    refine h v' w' ?_ r2
    unfold RowL
    rw [pcl_append, List.length_append, ← hm]
    exact r1
  · have e0 : l2 = [] := List.eq_nil_of_length_eq_zero (by omega)
    subst e0
    have hm0 : m = 0 := hm
    subst hm0
    have hr := run_append_zero (P := Try.prog) (w := w) base 40 o.type 35 i0 2 c ao ht hi0 v l.length (pcl l) hown
    unfold Oper.wp
    simp [execOp, ho, resolve, invoke, builtin, hs, hx, hr, Result.andThen]
    exact h v w (by rw [List.append_nil]; exact hown) ⟨rfl, rfl, rfl, Nat.le_refl _, fun _ _ _ => rfl⟩

end Go.Proofs.Ytiijnmpenljniad
