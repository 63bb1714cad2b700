/- What impl.Used and spec.Used answer. -/
import Derived.Test.YtjpbmpjddbekgaaGreatG33
import Derived.Test.YtjpbmpjddbekgaaGreatG30
namespace Go.Proofs.YtjpbmpjddbekgaaGreat
open Go.RowKit Go.Maps
set_option linter.unusedVariables false

theorem cntNot_all (l : List (Int × Int)) : cntNot (fun _ => False) l = l.length := by
  unfold cntNot
  simp
open Classical in
/-- How many slots the set of a name has. -/
noncomputable def usedAns (W : WorldD) (x : ByteArray) : Nat := if SpecW W then (treeL W.pool (setAt W x).rs (setAt W x).rb).length else 0
theorem usedAns_no {W : WorldD} {x : ByteArray} (h : ¬ SpecW W) : usedAns W x = 0 := if_neg h
theorem usedAns_yes {W : WorldD} {x : ByteArray} (h : SpecW W) : usedAns W x = (treeL W.pool (setAt W x).rs (setAt W x).rb).length := if_pos h
theorem usedAns_zero {W : WorldD} {x : ByteArray} (h : SpecW W → setAt W x = zeroSetD) : usedAns W x = 0 := by
  by_cases hS : SpecW W
  · rw [usedAns_yes hS, h hS]
    show (treeL W.pool 0 0).length = 0
    rw [treeL_zero]; rfl
  · exact usedAns_no hS
set_option maxRecDepth 20000 in
set_option maxHeartbeats 400000 in
theorem whoHas_none (v0 v1 v2 v3 : Value) (W : WorldD) (w : World) : Calls Tryz.prog 135 #[worldV v0 v1 v2 v3 W, .slice none 0 0] w (HasPost (fun _ => False) w) := by
  have ha1 := below_alloc w (.cells #[v0, v1, .int .i64 W.time, .int .i64 W.next, v2, v3] 38)
  have hz1 : (w.alloc (.cells #[v0, v1, .int .i64 W.time, .int .i64 W.next, v2, v3] 38)).heap.size = w.heap.size + 1 := World.size_alloc _ _
  have hm := World.ownsMap_made (w.alloc (.cells #[v0, v1, .int .i64 W.time, .int .i64 W.next, v2, v3] 38)) Tryz.prog 43 rawE
  rw [hz1] at hm
  have ha2 := below_next ha1 (below_alloc _ (.map #[] 0))
  have hz2 : ((w.alloc (.cells #[v0, v1, .int .i64 W.time, .int .i64 W.next, v2, v3] 38)).alloc (.map #[] 0)).heap.size = w.heap.size + 2 := by rw [World.size_alloc, hz1]
  have ha3 := below_alloc ((w.alloc (.cells #[v0, v1, .int .i64 W.time, .int .i64 W.next, v2, v3] 38)).alloc (.map #[] 0)) (.cells #[.map (some (w.heap.size + 1))] 158)
  have hc : Cell (((w.alloc (.cells #[v0, v1, .int .i64 W.time, .int .i64 W.next, v2, v3] 38)).alloc (.map #[] 0)).alloc (.cells #[.map (some (w.heap.size + 1))] 158)) (w.heap.size + 2) 0 (.map (some (w.heap.size + 1))) := by
    have := cell_of_block (i := 0) (heap_alloc_new ((w.alloc (.cells #[v0, v1, .int .i64 W.time, .int .i64 W.next, v2, v3] 38)).alloc (.map #[] 0)) (.cells #[.map (some (w.heap.size + 1))] 158)) rfl
    rw [hz2] at this
    exact this
  have HC := hideW hc
  have HM := hideW (hm.kept (grown_of_below ha3 none) (by simp))
  have HB := hideW (below_next ha2 ha3)
  have HZ := hideW (show (((w.alloc (.cells #[v0, v1, .int .i64 W.time, .int .i64 W.next, v2, v3] 38)).alloc (.map #[] 0)).alloc (.cells #[.map (some (w.heap.size + 1))] 158)).heap.size = w.heap.size + 3 by rw [World.size_alloc, hz2])
  clear hm ha1 ha2 ha3 hc hz2
  have hmm := @run_makeMap Tryz.prog
  go_enter Tryz.func135, Tryz.ntmps135
  go_wp2
  generalize ((w.alloc (.cells #[v0, v1, .int .i64 W.time, .int .i64 W.next, v2, v3] 38)).alloc (.map #[] 0)).alloc (.cells #[.map (some (w.heap.size + 1))] 158) = W3 at HC HM HB HZ ⊢
  go_loopw [13] (fun i wr => i = .int .i64 0 ∧ wr = W3) (fun _ _ => 0)
  case atStart => exact ⟨rfl, rfl⟩
  case round =>
    obtain ⟨rfl, rfl⟩ := hrel
    obtain ⟨c0, -⟩ := HC.out
    go_wp2
    go_ret
    exact ⟨_, _, _, rfl, HM.out, by omega, by have := HZ.out; omega, fun s b kl _ => ⟨0, rfl, by simp⟩, HB.out⟩

end Go.Proofs.YtjpbmpjddbekgaaGreat
