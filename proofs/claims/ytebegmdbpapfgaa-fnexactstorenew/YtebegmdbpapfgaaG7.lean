/- For every number that comes in the law FnExactStoreNew returns true: impl.StoreNew answers as spec.StoreNew, every field; its answer owns its memory. No condition. -/
import Derived.Test.YtebegmdbpapfgaaG5
import Derived.Test.YtebegmdbpapfgaaG6
import Derived.OpenShut
namespace Go.Proofs.Ytebegmdbpapfgaa
open Go.ChangeShapes Go.WideShapes Go.ChangeAt Go.RowKit
set_option linter.unusedVariables false

/-- A store of two new worlds. -/
def newSt (x : Int) : StoreD := ⟨newW x, newW x⟩
def NewSt (x : Int) (w : World) (e : Ending) (w' : World) : Prop := ∃ v0 v1 u0 u1, e = .returned (storeV v0 v1 (.slice none 0 0) (.slice none 0 0) u0 u1 (.slice none 0 0) (.slice none 0 0) (newSt x)) ∧ StoreOwn w' w.heap.size w'.heap.size v0 v1 (.slice none 0 0) (.slice none 0 0) u0 u1 (.slice none 0 0) (.slice none 0 0) (newSt x) ∧ Below w.heap.size w w'

set_option maxRecDepth 20000 in
set_option maxHeartbeats 400000 in
theorem specStoreNew_any (x : Int) (w : World) : Calls Try.prog 4 #[.int .i64 x] w (NewSt x w) := by
  have ha := below_alloc w (.cells #[.slice none 0 0, .slice none 0 0, .int .i64 0, .int .i64 0, .slice none 0 0, .slice none 0 0, .slice none 0 0, .slice none 0 0, .int .i64 0, .int .i64 0, .slice none 0 0, .slice none 0 0] 31)
  have HB := hideM (Box12.new w (.slice none 0 0) (.slice none 0 0) (.int .i64 0) (.int .i64 0) (.slice none 0 0) (.slice none 0 0) (.slice none 0 0) (.slice none 0 0) (.int .i64 0) (.int .i64 0) (.slice none 0 0) (.slice none 0 0) 31)
  have HS := hideM (show (w.alloc (.cells #[.slice none 0 0, .slice none 0 0, .int .i64 0, .int .i64 0, .slice none 0 0, .slice none 0 0, .slice none 0 0, .slice none 0 0, .int .i64 0, .int .i64 0, .slice none 0 0, .slice none 0 0] 31)).heap.size = w.heap.size + 1 from World.size_alloc _ _)
  go_enter Try.func4, Try.ntmps4
  go_wp2_with fail
  generalize w.alloc (.cells #[.slice none 0 0, .slice none 0 0, .int .i64 0, .int .i64 0, .slice none 0 0, .slice none 0 0, .slice none 0 0, .slice none 0 0, .int .i64 0, .int .i64 0, .slice none 0 0, .slice none 0 0] 31) = W0 at ha HB HS ⊢
  refine (specWorldNew_any x W0).mono ?_
  rintro e w1 hnew
  obtain ⟨v0, v1, rfl, ho1, hb1⟩ := hnew.world
  have Ho1 := hideM ho1
  obtain ⟨s0a, t0a, s0b, t0b, rfl, rfl⟩ := ho1.at.pool.form
  have hB1 := below_next ha hb1
  have HB1 := hideM (HB.out.below hb1)
  have Z1 := hideM (show W0.heap.size ≤ w1.heap.size from hb1.size)
  clear ho1 hb1 ha HB hnew
  go_wp2_with fail
  refine (specWorldNew_any x w1).mono ?_
  rintro e w2 hnew
  obtain ⟨v0, v1, rfl, ho2, hb2⟩ := hnew.world
  have Ho2 := hideM ho2
  obtain ⟨s1a, t1a, s1b, t1b, rfl, rfl⟩ := ho2.at.pool.form
  have hB2 := below_next hB1 hb2
  have HB2 := hideM (HB1.out.below hb2)
  have Ho1' := hideM (Ho1.out.below hb2)
  have Z2 := hideM (show w1.heap.size ≤ w2.heap.size from hb2.size)
  clear ho2 hb2 hB1 HB1 hnew Ho1
  obtain ⟨⟨x0, x0'⟩, ⟨x1, x1'⟩, ⟨x2, x2'⟩, ⟨x3, x3'⟩, ⟨x4, x4'⟩, ⟨x5, x5'⟩, ⟨x6, x6'⟩, ⟨x7, x7'⟩, ⟨x8, x8'⟩, ⟨x9, x9'⟩, ⟨x10, x10'⟩, ⟨x11, x11'⟩⟩ := HB2.out
  go_wp2
  have HR := HB2.out.put (.slice s0a (newW x).pool.n t0a) (.slice s0b (newW x).pool.hn t0b) (.int .i64 (newW x).time) (.int .i64 (newW x).next) (.slice none 0 0) (.slice none 0 0) (.slice s1a (newW x).pool.n t1a) (.slice s1b (newW x).pool.hn t1b) (.int .i64 (newW x).time) (.int .i64 (newW x).next) (.slice none 0 0) (.slice none 0 0)
  have T := Turned.put12 w2 w.heap.size (.slice s0a (newW x).pool.n t0a) (.slice s0b (newW x).pool.hn t0b) (.int .i64 (newW x).time) (.int .i64 (newW x).next) (.slice none 0 0) (.slice none 0 0) (.slice s1a (newW x).pool.n t1a) (.slice s1b (newW x).pool.hn t1b) (.int .i64 (newW x).time) (.int .i64 (newW x).next) (.slice none 0 0) (.slice none 0 0)
  have z0 := HS.out
  have z1 := Z1.out
  have z2 := Z2.out
  refine bodyPost_ret (v := .agg #[.slice s0a (newW x).pool.n t0a, .slice s0b (newW x).pool.hn t0b, .int .i64 (newW x).time, .int .i64 (newW x).next, .slice none 0 0, .slice none 0 0, .slice s1a (newW x).pool.n t1a, .slice s1b (newW x).pool.hn t1b, .int .i64 (newW x).time, .int .i64 (newW x).next, .slice none 0 0, .slice none 0 0]) (by simp [results, Try.results4, go_sem, HR.1.1, HR.2.1.1, HR.2.2.1.1, HR.2.2.2.1.1, HR.2.2.2.2.1.1, HR.2.2.2.2.2.1.1, HR.2.2.2.2.2.2.1.1, HR.2.2.2.2.2.2.2.1.1, HR.2.2.2.2.2.2.2.2.1.1, HR.2.2.2.2.2.2.2.2.2.1.1, HR.2.2.2.2.2.2.2.2.2.2.1.1, HR.2.2.2.2.2.2.2.2.2.2.2.1]) rfl ⟨_, _, _, _, rfl, ?_, ?_⟩
  · refine ⟨W0.heap.size, w1.heap.size, w1.heap.size, w2.heap.size, Ho1'.out.turned T (fun k e => by omega), Ho2.out.turned T (fun k e => by omega), by omega, ?_, by omega, ?_, Or.inl (Nat.le_refl _)⟩
    · simp only [World.size_setCell]; omega
    · simp only [World.size_setCell]; omega
  · exact hB2.trans (T.below (B := w.heap.size) (by omega) (fun k e => by omega))

set_option maxRecDepth 20000 in
set_option maxHeartbeats 400000 in
theorem implStoreNew_any (x : Int) (w : World) : Calls Try.prog 5 #[.int .i64 x] w (NewSt x w) := by
  have ha := below_alloc w (.cells #[.slice none 0 0, .slice none 0 0, .int .i64 0, .int .i64 0, .slice none 0 0, .slice none 0 0, .slice none 0 0, .slice none 0 0, .int .i64 0, .int .i64 0, .slice none 0 0, .slice none 0 0] 31)
  have HB := hideM (Box12.new w (.slice none 0 0) (.slice none 0 0) (.int .i64 0) (.int .i64 0) (.slice none 0 0) (.slice none 0 0) (.slice none 0 0) (.slice none 0 0) (.int .i64 0) (.int .i64 0) (.slice none 0 0) (.slice none 0 0) 31)
  have HS := hideM (show (w.alloc (.cells #[.slice none 0 0, .slice none 0 0, .int .i64 0, .int .i64 0, .slice none 0 0, .slice none 0 0, .slice none 0 0, .slice none 0 0, .int .i64 0, .int .i64 0, .slice none 0 0, .slice none 0 0] 31)).heap.size = w.heap.size + 1 from World.size_alloc _ _)
  go_enter Try.func5, Try.ntmps5
  go_wp2_with fail
  generalize w.alloc (.cells #[.slice none 0 0, .slice none 0 0, .int .i64 0, .int .i64 0, .slice none 0 0, .slice none 0 0, .slice none 0 0, .slice none 0 0, .int .i64 0, .int .i64 0, .slice none 0 0, .slice none 0 0] 31) = W0 at ha HB HS ⊢
  refine (implWorldNew_any x W0).mono ?_
  rintro e w1 hnew
  obtain ⟨v0, v1, rfl, ho1, hb1⟩ := hnew.world
  have Ho1 := hideM ho1
  obtain ⟨s0a, t0a, s0b, t0b, rfl, rfl⟩ := ho1.at.pool.form
  have hB1 := below_next ha hb1
  have HB1 := hideM (HB.out.below hb1)
  have Z1 := hideM (show W0.heap.size ≤ w1.heap.size from hb1.size)
  clear ho1 hb1 ha HB hnew
  go_wp2_with fail
  refine (implWorldNew_any x w1).mono ?_
  rintro e w2 hnew
  obtain ⟨v0, v1, rfl, ho2, hb2⟩ := hnew.world
  have Ho2 := hideM ho2
  obtain ⟨s1a, t1a, s1b, t1b, rfl, rfl⟩ := ho2.at.pool.form
  have hB2 := below_next hB1 hb2
  have HB2 := hideM (HB1.out.below hb2)
  have Ho1' := hideM (Ho1.out.below hb2)
  have Z2 := hideM (show w1.heap.size ≤ w2.heap.size from hb2.size)
  clear ho2 hb2 hB1 HB1 hnew Ho1
  obtain ⟨⟨x0, x0'⟩, ⟨x1, x1'⟩, ⟨x2, x2'⟩, ⟨x3, x3'⟩, ⟨x4, x4'⟩, ⟨x5, x5'⟩, ⟨x6, x6'⟩, ⟨x7, x7'⟩, ⟨x8, x8'⟩, ⟨x9, x9'⟩, ⟨x10, x10'⟩, ⟨x11, x11'⟩⟩ := HB2.out
  go_wp2
  have HR := HB2.out.put (.slice s0a (newW x).pool.n t0a) (.slice s0b (newW x).pool.hn t0b) (.int .i64 (newW x).time) (.int .i64 (newW x).next) (.slice none 0 0) (.slice none 0 0) (.slice s1a (newW x).pool.n t1a) (.slice s1b (newW x).pool.hn t1b) (.int .i64 (newW x).time) (.int .i64 (newW x).next) (.slice none 0 0) (.slice none 0 0)
  have T := Turned.put12 w2 w.heap.size (.slice s0a (newW x).pool.n t0a) (.slice s0b (newW x).pool.hn t0b) (.int .i64 (newW x).time) (.int .i64 (newW x).next) (.slice none 0 0) (.slice none 0 0) (.slice s1a (newW x).pool.n t1a) (.slice s1b (newW x).pool.hn t1b) (.int .i64 (newW x).time) (.int .i64 (newW x).next) (.slice none 0 0) (.slice none 0 0)
  have z0 := HS.out
  have z1 := Z1.out
  have z2 := Z2.out
  refine bodyPost_ret (v := .agg #[.slice s0a (newW x).pool.n t0a, .slice s0b (newW x).pool.hn t0b, .int .i64 (newW x).time, .int .i64 (newW x).next, .slice none 0 0, .slice none 0 0, .slice s1a (newW x).pool.n t1a, .slice s1b (newW x).pool.hn t1b, .int .i64 (newW x).time, .int .i64 (newW x).next, .slice none 0 0, .slice none 0 0]) (by simp [results, Try.results5, go_sem, HR.1.1, HR.2.1.1, HR.2.2.1.1, HR.2.2.2.1.1, HR.2.2.2.2.1.1, HR.2.2.2.2.2.1.1, HR.2.2.2.2.2.2.1.1, HR.2.2.2.2.2.2.2.1.1, HR.2.2.2.2.2.2.2.2.1.1, HR.2.2.2.2.2.2.2.2.2.1.1, HR.2.2.2.2.2.2.2.2.2.2.1.1, HR.2.2.2.2.2.2.2.2.2.2.2.1]) rfl ⟨_, _, _, _, rfl, ?_, ?_⟩
  · refine ⟨W0.heap.size, w1.heap.size, w1.heap.size, w2.heap.size, Ho1'.out.turned T (fun k e => by omega), Ho2.out.turned T (fun k e => by omega), by omega, ?_, by omega, ?_, Or.inl (Nat.le_refl _)⟩
    · simp only [World.size_setCell]; omega
    · simp only [World.size_setCell]; omega
  · exact hB2.trans (T.below (B := w.heap.size) (by omega) (fun k e => by omega))

set_option maxRecDepth 20000 in
set_option maxHeartbeats 400000 in
theorem eqStore_new (v0 v1 u0 u1 p0 p1 q0 q1 : Value) (lo hi lo' hi' : Nat) (x : Int) (w : World) (h1 : StoreAt w lo hi v0 v1 (.slice none 0 0) (.slice none 0 0) u0 u1 (.slice none 0 0) (.slice none 0 0) (newSt x)) (h2 : StoreAt w lo' hi' p0 p1 (.slice none 0 0) (.slice none 0 0) q0 q1 (.slice none 0 0) (.slice none 0 0) (newSt x)) :
    Calls Try.prog 6 #[.agg #[v0, v1, .int .i64 (newSt x).live.time, .int .i64 (newSt x).live.next, .slice none 0 0, .slice none 0 0, u0, u1, .int .i64 (newSt x).safe.time, .int .i64 (newSt x).safe.next, .slice none 0 0, .slice none 0 0], .agg #[p0, p1, .int .i64 (newSt x).live.time, .int .i64 (newSt x).live.next, .slice none 0 0, .slice none 0 0, q0, q1, .int .i64 (newSt x).safe.time, .int .i64 (newSt x).safe.next, .slice none 0 0, .slice none 0 0]] w fun e w' => e = .returned (.bool true) ∧ Below w.heap.size w w' := by
  have H1 := hideM h1
  have H2 := hideM h2
  clear h1 h2
  have ha := below_alloc w (.cells #[v0, v1, .int .i64 (newSt x).live.time, .int .i64 (newSt x).live.next, .slice none 0 0, .slice none 0 0, u0, u1, .int .i64 (newSt x).safe.time, .int .i64 (newSt x).safe.next, .slice none 0 0, .slice none 0 0] 31)
  have ha2 := below_alloc (w.alloc (.cells #[v0, v1, .int .i64 (newSt x).live.time, .int .i64 (newSt x).live.next, .slice none 0 0, .slice none 0 0, u0, u1, .int .i64 (newSt x).safe.time, .int .i64 (newSt x).safe.next, .slice none 0 0, .slice none 0 0] 31)) (.cells #[p0, p1, .int .i64 (newSt x).live.time, .int .i64 (newSt x).live.next, .slice none 0 0, .slice none 0 0, q0, q1, .int .i64 (newSt x).safe.time, .int .i64 (newSt x).safe.next, .slice none 0 0, .slice none 0 0] 31)
  have hA := below_next ha ha2
  have HX := hideM ((Box12.new w v0 v1 (.int .i64 (newSt x).live.time) (.int .i64 (newSt x).live.next) (.slice none 0 0) (.slice none 0 0) u0 u1 (.int .i64 (newSt x).safe.time) (.int .i64 (newSt x).safe.next) (.slice none 0 0) (.slice none 0 0) 31).below ha2)
  have hy := Box12.new (w.alloc (.cells #[v0, v1, .int .i64 (newSt x).live.time, .int .i64 (newSt x).live.next, .slice none 0 0, .slice none 0 0, u0, u1, .int .i64 (newSt x).safe.time, .int .i64 (newSt x).safe.next, .slice none 0 0, .slice none 0 0] 31)) p0 p1 (.int .i64 (newSt x).live.time) (.int .i64 (newSt x).live.next) (.slice none 0 0) (.slice none 0 0) q0 q1 (.int .i64 (newSt x).safe.time) (.int .i64 (newSt x).safe.next) (.slice none 0 0) (.slice none 0 0) 31
  rw [World.size_alloc] at hy
  have HY := hideM hy
  clear hy ha ha2
  obtain ⟨⟨m0, -⟩, ⟨m1, -⟩, ⟨m2, -⟩, ⟨m3, -⟩, ⟨m4, -⟩, ⟨m5, -⟩, ⟨m6, -⟩, ⟨m7, -⟩, ⟨m8, -⟩, ⟨m9, -⟩, ⟨m10, -⟩, ⟨m11, -⟩⟩ := HX.out
  obtain ⟨⟨n0, -⟩, ⟨n1, -⟩, ⟨n2, -⟩, ⟨n3, -⟩, ⟨n4, -⟩, ⟨n5, -⟩, ⟨n6, -⟩, ⟨n7, -⟩, ⟨n8, -⟩, ⟨n9, -⟩, ⟨n10, -⟩, ⟨n11, -⟩⟩ := HY.out
  go_enter Try.func6, Try.ntmps6
  go_wp2_with fail
  clear m0 m1 m2 m3 m4 m5 m6 m7 m8 m9 m10 m11 n0 n1 n2 n3 n4 n5 n6 n7 n8 n9 n10 n11
  generalize (w.alloc (.cells #[v0, v1, .int .i64 (newSt x).live.time, .int .i64 (newSt x).live.next, .slice none 0 0, .slice none 0 0, u0, u1, .int .i64 (newSt x).safe.time, .int .i64 (newSt x).safe.next, .slice none 0 0, .slice none 0 0] 31)).alloc (.cells #[p0, p1, .int .i64 (newSt x).live.time, .int .i64 (newSt x).live.next, .slice none 0 0, .slice none 0 0, q0, q1, .int .i64 (newSt x).safe.time, .int .i64 (newSt x).safe.next, .slice none 0 0, .slice none 0 0] 31) = W0 at hA HX HY ⊢
  refine (eqWorld_nil _ _ _ _ _ _ _ _ (newSt x).live.pool (newSt x).live.time (newSt x).live.next W0 (H1.out.live.pool.below hA) (H2.out.live.pool.below hA)).mono ?_
  rintro e w1 ⟨rfl, hb1⟩
  have hB1 := below_next hA hb1
  obtain ⟨⟨m0, -⟩, ⟨m1, -⟩, ⟨m2, -⟩, ⟨m3, -⟩, ⟨m4, -⟩, ⟨m5, -⟩, ⟨m6, -⟩, ⟨m7, -⟩, ⟨m8, -⟩, ⟨m9, -⟩, ⟨m10, -⟩, ⟨m11, -⟩⟩ := HX.out.below hb1
  obtain ⟨⟨n0, -⟩, ⟨n1, -⟩, ⟨n2, -⟩, ⟨n3, -⟩, ⟨n4, -⟩, ⟨n5, -⟩, ⟨n6, -⟩, ⟨n7, -⟩, ⟨n8, -⟩, ⟨n9, -⟩, ⟨n10, -⟩, ⟨n11, -⟩⟩ := HY.out.below hb1
  clear hb1 HX HY hA
  go_wp2_with fail
  clear m0 m1 m2 m3 m4 m5 m6 m7 m8 m9 m10 m11 n0 n1 n2 n3 n4 n5 n6 n7 n8 n9 n10 n11
  refine (eqWorld_nil _ _ _ _ _ _ _ _ (newSt x).safe.pool (newSt x).safe.time (newSt x).safe.next w1 (H1.out.safe.pool.below hB1) (H2.out.safe.pool.below hB1)).mono ?_
  rintro e w2 ⟨rfl, hb2⟩
  have hB2 := below_next hB1 hb2
  clear hb2 hB1
  go_wp2
  go_ret
  exact ⟨rfl, hB2⟩

theorem endSt_new (x : Int) : endSt (newSt x) 1 ≤ 1000000000000 ∧ 0 ≤ endSt (newSt x) 1 := by
  have hm : many x ≤ 200 := by unfold many; split <;> omega
  have h1 : ∀ k0 : Int, endW (newW x) k0 = k0 + 2 * (many x : Int) := fun k0 => by
    show cntSl (fun _ => zeroS) k0 (many x) + ((0 : Nat) : Int) = _
    rw [cntSl_zero]
    omega
  unfold endSt newSt
  rw [h1, h1]
  omega

set_option maxRecDepth 20000 in
set_option maxHeartbeats 1000000 in
theorem storeNew_walk (x : Int) (w : World) : Calls Try.prog 3 #[.int .i64 x] w fun e w' => e = .returned (.bool true) ∧ Below w.heap.size w w' := by
  have hend := endSt_new x
  generalize hge : endSt (newSt x) 1 = ge at hend
  have Hge := hideM hge
  obtain ⟨hge1, hge2⟩ := hend
  have hge0 : ¬ ge < 0 := by omega
  have hgg : (ge != ge) = false := by simp
  clear hge
  go_enter Try.func3, Try.ntmps3
  go_wp2_with fail
  refine (specStoreNew_any x w).mono ?_
  rintro e w1 ⟨v0, v1, u0, u1, rfl, ho1, hb1⟩
  have hL := ho1.at.live.pool
  have hF := ho1.at.safe.pool
  obtain ⟨s0a, t0a, s0b, t0b, rfl, rfl⟩ := hL.form
  obtain ⟨s1a, t1a, s1b, t1b, rfl, rfl⟩ := hF.form
  clear hL hF
  have ha1 := below_alloc w1 (.cells #[.slice s0a (newSt x).live.pool.n t0a, .slice s0b (newSt x).live.pool.hn t0b, .int .i64 (newSt x).live.time, .int .i64 (newSt x).live.next, .slice none 0 0, .slice none 0 0, .slice s1a (newSt x).safe.pool.n t1a, .slice s1b (newSt x).safe.pool.hn t1b, .int .i64 (newSt x).safe.time, .int .i64 (newSt x).safe.next, .slice none 0 0, .slice none 0 0] 31)
  have Hv1 := hideM (Box12.new w1 (.slice s0a (newSt x).live.pool.n t0a) (.slice s0b (newSt x).live.pool.hn t0b) (.int .i64 (newSt x).live.time) (.int .i64 (newSt x).live.next) (.slice none 0 0) (.slice none 0 0) (.slice s1a (newSt x).safe.pool.n t1a) (.slice s1b (newSt x).safe.pool.hn t1b) (.int .i64 (newSt x).safe.time) (.int .i64 (newSt x).safe.next) (.slice none 0 0) (.slice none 0 0) 31)
  have HA1 := hideM (ho1.below ha1)
  have hB1 := below_next hb1 ha1
  have hz1 : (w1.alloc (.cells #[.slice s0a (newSt x).live.pool.n t0a, .slice s0b (newSt x).live.pool.hn t0b, .int .i64 (newSt x).live.time, .int .i64 (newSt x).live.next, .slice none 0 0, .slice none 0 0, .slice s1a (newSt x).safe.pool.n t1a, .slice s1b (newSt x).safe.pool.hn t1b, .int .i64 (newSt x).safe.time, .int .i64 (newSt x).safe.next, .slice none 0 0, .slice none 0 0] 31)).heap.size = w1.heap.size + 1 := World.size_alloc _ _
  have Z1 := hideM (show w.heap.size ≤ w1.heap.size ∧ (w1.alloc (.cells #[.slice s0a (newSt x).live.pool.n t0a, .slice s0b (newSt x).live.pool.hn t0b, .int .i64 (newSt x).live.time, .int .i64 (newSt x).live.next, .slice none 0 0, .slice none 0 0, .slice s1a (newSt x).safe.pool.n t1a, .slice s1b (newSt x).safe.pool.hn t1b, .int .i64 (newSt x).safe.time, .int .i64 (newSt x).safe.next, .slice none 0 0, .slice none 0 0] 31)).heap.size = w1.heap.size + 1 by have := hb1.size; omega)
  clear ho1 hb1 ha1 hz1
  go_wp2_with fail
  generalize w1.alloc (.cells #[.slice s0a (newSt x).live.pool.n t0a, .slice s0b (newSt x).live.pool.hn t0b, .int .i64 (newSt x).live.time, .int .i64 (newSt x).live.next, .slice none 0 0, .slice none 0 0, .slice s1a (newSt x).safe.pool.n t1a, .slice s1b (newSt x).safe.pool.hn t1b, .int .i64 (newSt x).safe.time, .int .i64 (newSt x).safe.next, .slice none 0 0, .slice none 0 0] 31) = W1 at Hv1 HA1 hB1 Z1 ⊢
  generalize w1.heap.size = V3 at Hv1 HA1 Z1 ⊢
  refine (implStoreNew_any x W1).mono ?_
  rintro e w2 ⟨v0, v1, u0, u1, rfl, ho2, hb2⟩
  have hL := ho2.at.live.pool
  have hF := ho2.at.safe.pool
  obtain ⟨s2a, t2a, s2b, t2b, rfl, rfl⟩ := hL.form
  obtain ⟨s3a, t3a, s3b, t3b, rfl, rfl⟩ := hF.form
  clear hL hF
  have ha2 := below_alloc w2 (.cells #[.slice s2a (newSt x).live.pool.n t2a, .slice s2b (newSt x).live.pool.hn t2b, .int .i64 (newSt x).live.time, .int .i64 (newSt x).live.next, .slice none 0 0, .slice none 0 0, .slice s3a (newSt x).safe.pool.n t3a, .slice s3b (newSt x).safe.pool.hn t3b, .int .i64 (newSt x).safe.time, .int .i64 (newSt x).safe.next, .slice none 0 0, .slice none 0 0] 31)
  have hba := below_next hb2 ha2
  have Hv2 := hideM (Hv1.out.below hba)
  have HA2 := hideM (HA1.out.below hba)
  have Hg2 := hideM (Box12.new w2 (.slice s2a (newSt x).live.pool.n t2a) (.slice s2b (newSt x).live.pool.hn t2b) (.int .i64 (newSt x).live.time) (.int .i64 (newSt x).live.next) (.slice none 0 0) (.slice none 0 0) (.slice s3a (newSt x).safe.pool.n t3a) (.slice s3b (newSt x).safe.pool.hn t3b) (.int .i64 (newSt x).safe.time) (.int .i64 (newSt x).safe.next) (.slice none 0 0) (.slice none 0 0) 31)
  have HG2 := hideM (ho2.below ha2)
  have hB2 := below_next hB1 hba
  have hz2 : (w2.alloc (.cells #[.slice s2a (newSt x).live.pool.n t2a, .slice s2b (newSt x).live.pool.hn t2b, .int .i64 (newSt x).live.time, .int .i64 (newSt x).live.next, .slice none 0 0, .slice none 0 0, .slice s3a (newSt x).safe.pool.n t3a, .slice s3b (newSt x).safe.pool.hn t3b, .int .i64 (newSt x).safe.time, .int .i64 (newSt x).safe.next, .slice none 0 0, .slice none 0 0] 31)).heap.size = w2.heap.size + 1 := World.size_alloc _ _
  have Z2 := hideM (show W1.heap.size ≤ w2.heap.size ∧ (w2.alloc (.cells #[.slice s2a (newSt x).live.pool.n t2a, .slice s2b (newSt x).live.pool.hn t2b, .int .i64 (newSt x).live.time, .int .i64 (newSt x).live.next, .slice none 0 0, .slice none 0 0, .slice s3a (newSt x).safe.pool.n t3a, .slice s3b (newSt x).safe.pool.hn t3b, .int .i64 (newSt x).safe.time, .int .i64 (newSt x).safe.next, .slice none 0 0, .slice none 0 0] 31)).heap.size = w2.heap.size + 1 by have := hb2.size; omega)
  clear ho2 hb2 ha2 hba hz2 hB1 Hv1 HA1
  obtain ⟨⟨g0, -⟩, ⟨g1, -⟩, ⟨g2, -⟩, ⟨g3, -⟩, ⟨g4, -⟩, ⟨g5, -⟩, ⟨g6, -⟩, ⟨g7, -⟩, ⟨g8, -⟩, ⟨g9, -⟩, ⟨g10, -⟩, ⟨g11, -⟩⟩ := Hg2.out
  obtain ⟨⟨v0, -⟩, ⟨v1, -⟩, ⟨v2, -⟩, ⟨v3, -⟩, ⟨v4, -⟩, ⟨v5, -⟩, ⟨v6, -⟩, ⟨v7, -⟩, ⟨v8, -⟩, ⟨v9, -⟩, ⟨v10, -⟩, ⟨v11, -⟩⟩ := Hv2.out
  go_wp2_with fail
  clear g0 g1 g2 g3 g4 g5 g6 g7 g8 g9 g10 g11 v0 v1 v2 v3 v4 v5 v6 v7 v8 v9 v10 v11
  generalize w2.alloc (.cells #[.slice s2a (newSt x).live.pool.n t2a, .slice s2b (newSt x).live.pool.hn t2b, .int .i64 (newSt x).live.time, .int .i64 (newSt x).live.next, .slice none 0 0, .slice none 0 0, .slice s3a (newSt x).safe.pool.n t3a, .slice s3b (newSt x).safe.pool.hn t3b, .int .i64 (newSt x).safe.time, .int .i64 (newSt x).safe.next, .slice none 0 0, .slice none 0 0] 31) = W2 at Hv2 HA2 Hg2 HG2 hB2 Z2 ⊢
  generalize w2.heap.size = V4 at Hg2 HG2 Z2 ⊢
  refine (eqStore_new _ _ _ _ _ _ _ _ _ _ _ _ x W2 HG2.out.at HA2.out.at).mono ?_
  rintro e w3 ⟨rfl, hb3⟩
  have Hv3 := hideM (Hv2.out.below hb3)
  have HA3 := hideM (HA2.out.below hb3)
  have Hg3 := hideM (Hg2.out.below hb3)
  have HG3 := hideM (HG2.out.below hb3)
  have hB3 := below_next hB2 hb3
  have Z3 := hideM (show W2.heap.size ≤ w3.heap.size from hb3.size)
  clear hb3 hB2 Hv2 HA2 Hg2 HG2
  obtain ⟨⟨g0, -⟩, ⟨g1, -⟩, ⟨g2, -⟩, ⟨g3, -⟩, ⟨g4, -⟩, ⟨g5, -⟩, ⟨g6, -⟩, ⟨g7, -⟩, ⟨g8, -⟩, ⟨g9, -⟩, ⟨g10, -⟩, ⟨g11, -⟩⟩ := Hg3.out
  go_wp2_with fail
  clear g0 g1 g2 g3 g4 g5 g6 g7 g8 g9 g10 g11
  have zz1 := Z1.out
  have zz2 := Z2.out
  have zz3 := Z3.out
  refine (markStore_any _ _ _ _ _ _ _ _ _ _ (newSt x) 1 w3 HG3.out (by omega) (by omega) (by rw [Hge.out]; exact hge1)).mono ?_
  rintro e w4 ⟨rfl, hG4, ht4⟩
  rw [Hge.out]
  have hB4 : Below w.heap.size w w4 := hB3.trans (ht4.below (B := w.heap.size) (by omega) (fun k hk => by omega))
  have Hv4 := hideM (Hv3.out.turned ht4 (fun hk => by omega))
  have HA4 := hideM (HA3.out.turned ht4 (fun k hk => by omega))
  have Hg4 := hideM (Hg3.out.turned ht4 (fun hk => by omega))
  have HG4 := hideM hG4.at
  clear zz1 zz2 zz3 ht4 hG4 hB3 Hv3 HA3 Hg3 HG3
  obtain ⟨⟨g0, -⟩, ⟨g1, -⟩, ⟨g2, -⟩, ⟨g3, -⟩, ⟨g4, -⟩, ⟨g5, -⟩, ⟨g6, -⟩, ⟨g7, -⟩, ⟨g8, -⟩, ⟨g9, -⟩, ⟨g10, -⟩, ⟨g11, -⟩⟩ := Hg4.out
  go_wp2_with fail
  clear g0 g1 g2 g3 g4 g5 g6 g7 g8 g9 g10 g11
  refine (heldStore_any _ _ _ _ _ _ _ _ _ _ (newSt x) 1 w4 HG4.out (by omega) (by rw [Hge.out]; exact hge1)).mono ?_
  rintro e w5 ⟨rfl, hb5⟩
  rw [Hge.out]
  have hB5 := below_next hB4 hb5
  have Hv5 := hideM (Hv4.out.below hb5)
  have HA5 := hideM (HA4.out.below hb5)
  have Hg5 := hideM (Hg4.out.below hb5)
  have HG5 := hideM (HG4.out.below hb5)
  clear hb5 hB4 Hv4 HA4 Hg4 HG4
  go_wp2_with fail
  refine (implStoreNew_any x w5).mono ?_
  rintro e w6 ⟨v0, v1, u0, u1, rfl, ho6, hb6⟩
  have hL := ho6.at.live.pool
  have hF := ho6.at.safe.pool
  obtain ⟨s6a, t6a, s6b, t6b, rfl, rfl⟩ := hL.form
  obtain ⟨s7a, t7a, s7b, t7b, rfl, rfl⟩ := hF.form
  clear hL hF
  have ha6 := below_alloc w6 (.cells #[.slice s6a (newSt x).live.pool.n t6a, .slice s6b (newSt x).live.pool.hn t6b, .int .i64 (newSt x).live.time, .int .i64 (newSt x).live.next, .slice none 0 0, .slice none 0 0, .slice s7a (newSt x).safe.pool.n t7a, .slice s7b (newSt x).safe.pool.hn t7b, .int .i64 (newSt x).safe.time, .int .i64 (newSt x).safe.next, .slice none 0 0, .slice none 0 0] 31)
  have hba := below_next hb6 ha6
  have hB6 := below_next hB5 hba
  have Hv6 := hideM (Hv5.out.below hba)
  have HA6 := hideM (HA5.out.below hba)
  have Hg6 := hideM (Hg5.out.below hba)
  have HG6 := hideM (HG5.out.below hba)
  have HH6 := hideM (ho6.at.below ha6)
  obtain ⟨⟨h0, -⟩, ⟨h1, -⟩, ⟨h2, -⟩, ⟨h3, -⟩, ⟨h4, -⟩, ⟨h5, -⟩, ⟨h6, -⟩, ⟨h7, -⟩, ⟨h8, -⟩, ⟨h9, -⟩, ⟨h10, -⟩, ⟨h11, -⟩⟩ := Box12.new w6 (.slice s6a (newSt x).live.pool.n t6a) (.slice s6b (newSt x).live.pool.hn t6b) (.int .i64 (newSt x).live.time) (.int .i64 (newSt x).live.next) (.slice none 0 0) (.slice none 0 0) (.slice s7a (newSt x).safe.pool.n t7a) (.slice s7b (newSt x).safe.pool.hn t7b) (.int .i64 (newSt x).safe.time) (.int .i64 (newSt x).safe.next) (.slice none 0 0) (.slice none 0 0) 31
  obtain ⟨⟨v0, -⟩, ⟨v1, -⟩, ⟨v2, -⟩, ⟨v3, -⟩, ⟨v4, -⟩, ⟨v5, -⟩, ⟨v6, -⟩, ⟨v7, -⟩, ⟨v8, -⟩, ⟨v9, -⟩, ⟨v10, -⟩, ⟨v11, -⟩⟩ := Hv6.out
  clear ho6 hb6 ha6 hba hB5 Hv5 HA5 Hg5 HG5
  go_wp2_with fail
  clear h0 h1 h2 h3 h4 h5 h6 h7 h8 h9 h10 h11 v0 v1 v2 v3 v4 v5 v6 v7 v8 v9 v10 v11
  generalize w6.alloc (.cells #[.slice s6a (newSt x).live.pool.n t6a, .slice s6b (newSt x).live.pool.hn t6b, .int .i64 (newSt x).live.time, .int .i64 (newSt x).live.next, .slice none 0 0, .slice none 0 0, .slice s7a (newSt x).safe.pool.n t7a, .slice s7b (newSt x).safe.pool.hn t7b, .int .i64 (newSt x).safe.time, .int .i64 (newSt x).safe.next, .slice none 0 0, .slice none 0 0] 31) = W6 at hB6 Hv6 HA6 Hg6 HG6 HH6 ⊢
  refine (eqStore_new _ _ _ _ _ _ _ _ _ _ _ _ x W6 HH6.out HA6.out.at).mono ?_
  rintro e w7 ⟨rfl, hb7⟩
  have hB7 := below_next hB6 hb7
  have Hg7 := hideM (Hg6.out.below hb7)
  have HG7 := hideM (HG6.out.below hb7)
  clear hb7 hB6 Hv6 HA6 Hg6 HG6 HH6
  obtain ⟨⟨g0, -⟩, ⟨g1, -⟩, ⟨g2, -⟩, ⟨g3, -⟩, ⟨g4, -⟩, ⟨g5, -⟩, ⟨g6, -⟩, ⟨g7, -⟩, ⟨g8, -⟩, ⟨g9, -⟩, ⟨g10, -⟩, ⟨g11, -⟩⟩ := Hg7.out
  go_wp2_with fail
  clear g0 g1 g2 g3 g4 g5 g6 g7 g8 g9 g10 g11
  refine (heldStore_any _ _ _ _ _ _ _ _ _ _ (newSt x) 1 w7 HG7.out (by omega) (by rw [Hge.out]; exact hge1)).mono ?_
  rintro e w8 ⟨rfl, hb8⟩
  rw [Hge.out]
  have hB8 := below_next hB7 hb8
  clear hb8 hB7 Hg7 HG7
  go_wp2
  go_ret
  exact ⟨rfl, hB8⟩

theorem own : ownKnob Try.prog.godebug = none := by kernel_rfl

set_option maxRecDepth 100000 in
theorem storeNew_lifted (os : Os) (started : os.Started) (H : Type) (enc : TypeId × Value → H) :
    ReturnsInHanded {} Try.checked os 3 .any (Rows.fnExactStoreNewSpec.pre6 enc Try.prog Try.f3 Rows.fnExactStoreNewRow.domain false) (Rows.fnExactStoreNewSpec.post enc Try.prog Try.f3 false true false false) := by
  refine returnsInHanded_of_change (C := Try.checked) own started (by kernel_rfl) Try.func3
    (ChangeSpec.witness6 (enc := enc) (C := Try.checked) false ⟨#[], #[.int .i64 0], []⟩ 8 (by kernel_rfl) (by kernel_rfl) (by kernel_rfl) (by kernel_rfl)) ?_
  intro W base args ds gs before hval0 hW hcnd _
  have hval : ∀ (j : Nat) t v, Try.f3.params[j]? = some t → args[j]? = some v → Value.okWide Try.prog W .any base t v := hval0
  have hW' := hW
  obtain ⟨p, q, hA0, hV, rfl, hfz, hnd⟩ := hW
  have hA : DataW.TrodAll enc Try.prog W 0 (fun _ => true) true Try.f3.params.toList args.toList ds p := hA0
  rw [Try.params3] at hA hval
  obtain ⟨v0, vs0, d0, ds0, p0, q0, hargs, rfl, rfl, h0, r0⟩ := trodAll_cons hA
  obtain ⟨rfl, rfl, rfl⟩ := trodAll_nil r0
  obtain rfl : args = #[v0] := by cases args; simp_all
  obtain ⟨rfl, rfl⟩ := trodVars_none hV
  obtain ⟨a0, rfl, rfl, rfl, w0⟩ := open_int Try.underlying2 (hval 0 2 v0 rfl rfl) h0
  clear hA0 hval0
  refine (storeNew_walk a0 W).mono fun e W' ⟨he, bel⟩ => ?_
  subst he
  exact ⟨_, rfl, _, _, _, [], _, [], hW', trodAll_mk1 (shut_bool Try.underlying4 _), (trodAll_cons_mk (shut_int Try.underlying2 w0) trodAll_mk0), rfl, bel.frame _, fun h => by cases h⟩

theorem fnExactStoreNew_holds : Rows.FnExactStoreNewSaid :=
  OpenClaim.holds_of_wide 3 Try.f3 rfl rfl rfl rfl rfl rfl rfl ⟨rfl, rfl, rfl, rfl, rfl⟩ rfl rfl rfl rfl rfl (by kernel_rfl) Try.func3 (by kernel_rfl)
    (of_decide_eq_true (by kernel_rfl)) (by unfold Func.isWrapper; first | (rw [if_pos (by decide +kernel)]; kernel_rfl) | (rw [if_neg (by decide +kernel)]; exact ⟨rfl, rfl⟩))
    (fun os started H enc _ => storeNew_lifted os started H enc)

end Go.Proofs.Ytebegmdbpapfgaa
