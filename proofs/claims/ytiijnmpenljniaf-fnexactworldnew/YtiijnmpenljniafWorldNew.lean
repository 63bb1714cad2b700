/- For every number the law FnExactWorldNew returns true: impl.WorldNew answers as spec.WorldNew, in memory of its own. No condition. -/
import Derived.Test.YtiijnmpenljniafPoolNewC
import Derived.OpenShut
namespace Go.Proofs.Ytiijnmpenljniaf
open Go.ChangeShapes Go.WideShapes Go.ChangeAt Go.RowKit
set_option linter.unusedVariables false

theorem hideT {p : Prop} (h : p) : Hid p := h

/-- A variable of six cells. -/
def Box6 (w : World) (b : Nat) (v0 v1 v2 v3 v4 v5 : Value) : Prop := Cell w b 0 v0 ∧ Cell w b 1 v1 ∧ Cell w b 2 v2 ∧ Cell w b 3 v3 ∧ Cell w b 4 v4 ∧ Cell w b 5 v5
theorem Box6.below {w w' : World} {b : Nat} {v0 v1 v2 v3 v4 v5 : Value} (h : Box6 w b v0 v1 v2 v3 v4 v5) (t : Below w.heap.size w w') : Box6 w' b v0 v1 v2 v3 v4 v5 := ⟨h.1.below t, h.2.1.below t, h.2.2.1.below t, h.2.2.2.1.below t, h.2.2.2.2.1.below t, h.2.2.2.2.2.below t⟩
theorem Box6.turned {S : Nat → Prop} {w w' : World} {b : Nat} {v0 v1 v2 v3 v4 v5 : Value} (h : Box6 w b v0 v1 v2 v3 v4 v5) (t : Turned S w w') (hs : ¬ S b) : Box6 w' b v0 v1 v2 v3 v4 v5 := ⟨h.1.turned t hs, h.2.1.turned t hs, h.2.2.1.turned t hs, h.2.2.2.1.turned t hs, h.2.2.2.2.1.turned t hs, h.2.2.2.2.2.turned t hs⟩
theorem heap_new6 (w : World) (o : Obj) : (w.alloc o).heap[w.heap.size]? = some o := by
  show (w.heap.push o)[w.heap.size]? = _
  simp
theorem Box6.new (w : World) (v0 v1 v2 v3 v4 v5 : Value) (t : TypeId) : Box6 (w.alloc (.cells #[v0, v1, v2, v3, v4, v5] t)) w.heap.size v0 v1 v2 v3 v4 v5 := by
  have hb := heap_new6 w (.cells #[v0, v1, v2, v3, v4, v5] t)
  exact ⟨cell_of_block hb rfl, cell_of_block hb rfl, cell_of_block hb rfl, cell_of_block hb rfl, cell_of_block hb rfl, cell_of_block hb rfl⟩
abbrev put6 (w : World) (b : Nat) (u0 u1 u2 u3 u4 u5 : Value) : World := (((((w.setCell ⟨b, 0, none⟩ u0).setCell ⟨b, 1, none⟩ u1).setCell ⟨b, 2, none⟩ u2).setCell ⟨b, 3, none⟩ u3).setCell ⟨b, 4, none⟩ u4).setCell ⟨b, 5, none⟩ u5
theorem Box6.put {w : World} {b : Nat} {v0 v1 v2 v3 v4 v5 : Value} (h : Box6 w b v0 v1 v2 v3 v4 v5) (u0 u1 u2 u3 u4 u5 : Value) : Box6 (put6 w b u0 u1 u2 u3 u4 u5) b u0 u1 u2 u3 u4 u5 := by
  obtain ⟨h0, h1, h2, h3, h4, h5⟩ := h
  refine ⟨?_, ?_, ?_, ?_, ?_, ?_⟩
  · exact (((((h0.set _).other _ (Or.inr (by omega))).other _ (Or.inr (by omega))).other _ (Or.inr (by omega))).other _ (Or.inr (by omega))).other _ (Or.inr (by omega))
  · exact (((((h1.other _ (Or.inr (by omega))).set _).other _ (Or.inr (by omega))).other _ (Or.inr (by omega))).other _ (Or.inr (by omega))).other _ (Or.inr (by omega))
  · exact (((((h2.other _ (Or.inr (by omega))).other _ (Or.inr (by omega))).set _).other _ (Or.inr (by omega))).other _ (Or.inr (by omega))).other _ (Or.inr (by omega))
  · exact (((((h3.other _ (Or.inr (by omega))).other _ (Or.inr (by omega))).other _ (Or.inr (by omega))).set _).other _ (Or.inr (by omega))).other _ (Or.inr (by omega))
  · exact (((((h4.other _ (Or.inr (by omega))).other _ (Or.inr (by omega))).other _ (Or.inr (by omega))).other _ (Or.inr (by omega))).set _).other _ (Or.inr (by omega))
  · exact (((((h5.other _ (Or.inr (by omega))).other _ (Or.inr (by omega))).other _ (Or.inr (by omega))).other _ (Or.inr (by omega))).other _ (Or.inr (by omega))).set _
theorem Turned.put6 (w : World) (b : Nat) (u0 u1 u2 u3 u4 u5 : Value) : Turned (fun k => k = b) w (put6 w b u0 u1 u2 u3 u4 u5) :=
  (((((Turned.put w b 0 u0).trans (Turned.put _ b 1 u1)).trans (Turned.put _ b 2 u2)).trans (Turned.put _ b 3 u3)).trans (Turned.put _ b 4 u4)).trans (Turned.put _ b 5 u5)

/-- The Time and the Next of a new world. -/
def stamp (x : Int) : Int := if 0 ≤ x ∧ x ≤ 200 then 1 else 0
/-- The answer is a new world of no sets and no snapshots. -/
def NewWorld (p : PoolD) (t : Int) (w : World) (e : Ending) (w' : World) : Prop := ∃ v0 v1, e = .returned (.agg #[v0, v1, .int .i64 t, .int .i64 t, .slice none 0 0, .slice none 0 0]) ∧ PoolOwn w' w.heap.size w'.heap.size v0 v1 p ∧ Below w.heap.size w w'

set_option maxRecDepth 20000 in
set_option maxHeartbeats 400000 in
theorem implWorldNew_any (x : Int) (w : World) : Calls Try.prog 5 #[.int .i64 x] w (NewWorld (newP (many x)) (stamp x) w) := by
  have hal := below_alloc w (.cells #[.slice none 0 0, .slice none 0 0, .int .i64 0, .int .i64 0, .slice none 0 0, .slice none 0 0] 29)
  by_cases h1 : x < 0 ∨ 200 < x
  · have hm : Hid (many x = 0) := if_neg (by omega)
    have hs : Hid (stamp x = 0) := if_neg (by omega)
    have Hal := hideT hal
    clear hal
    rcases h1 with h1 | h1
    · go_enter Try.func5, Try.ntmps5
      go_wp2
      refine bodyPost_ret (v := .agg #[.slice none 0 0, .slice none 0 0, .int .i64 0, .int .i64 0, .slice none 0 0, .slice none 0 0]) (by simp [results, Try.results5, go_sem]) rfl ?_
      rw [hm.out, hs.out]
      exact ⟨_, _, rfl, zero_own (w := w), (by first | exact Hal.out | exact Hal.out.drew)⟩
    · have h2 : ¬ x < 0 := by omega
      go_enter Try.func5, Try.ntmps5
      go_wp2
      refine bodyPost_ret (v := .agg #[.slice none 0 0, .slice none 0 0, .int .i64 0, .int .i64 0, .slice none 0 0, .slice none 0 0]) (by simp [results, Try.results5, go_sem]) rfl ?_
      rw [hm.out, hs.out]
      exact ⟨_, _, rfl, zero_own (w := w), (by first | exact Hal.out | exact Hal.out.drew)⟩
  · have h2 : ¬ x < 0 := by omega
    have h3 : ¬ 200 < x := by omega
    have hs : Hid (stamp x = 1) := if_pos (by omega)
    clear h1
    go_enter Try.func5, Try.ntmps5
    go_wp2_with fail
    refine (implPoolNew_any x _).mono ?_
    rintro e w1 ⟨v0, v1, rfl, ho, hb⟩
    have HB := hideT ((Box6.new w (.slice none 0 0) (.slice none 0 0) (.int .i64 0) (.int .i64 0) (.slice none 0 0) (.slice none 0 0) 29).below hb)
    have hB := below_next hal hb
    obtain ⟨a, c, a', c', rfl, rfl⟩ := ho.form
    rw [World.size_alloc] at ho
    have HO := hideT ho
    clear ho hb hal
    obtain ⟨⟨x0, x1⟩, ⟨x2, x3⟩, ⟨x4, x5⟩, ⟨x6, x7⟩, ⟨x8, x9⟩, ⟨x10, x11⟩⟩ := HB.out
    go_wp2
    obtain ⟨⟨y0, _⟩, ⟨y1, _⟩, ⟨y2, _⟩, ⟨y3, _⟩, ⟨y4, _⟩, ⟨y5, _⟩⟩ := HB.out.put (.slice a (newP (many x)).n c) (.slice a' (newP (many x)).hn c') (.int .i64 1) (.int .i64 1) (.slice none 0 0) (.slice none 0 0)
    have ht := Turned.put6 w1 w.heap.size (.slice a (newP (many x)).n c) (.slice a' (newP (many x)).hn c') (.int .i64 1) (.int .i64 1) (.slice none 0 0) (.slice none 0 0)
    refine bodyPost_ret (v := .agg #[.slice a (newP (many x)).n c, .slice a' (newP (many x)).hn c', .int .i64 1, .int .i64 1, .slice none 0 0, .slice none 0 0]) (by simp [results, Try.results5, go_sem, y0, y1, y2, y3, y4, y5]) rfl ?_
    rw [hs.out]
    exact ⟨_, _, rfl, (HO.out.turned ht (by omega)).wide (by omega) (by exact ht.size), hB.trans (ht.below hB.size (by intro k hk; omega))⟩

set_option maxRecDepth 20000 in
set_option maxHeartbeats 400000 in
theorem l01Is_any' (x a b : Int) (w : World) : Calls Try.prog 9 #[.int .i64 x, .int .i64 a, .int .i64 b] w fun e w' => BoolIs (a ≤ x ∧ x ≤ b) e ∧ w' = w := by
  by_cases h1 : a ≤ x
  · by_cases h2 : x ≤ b
    · go_enter Try.func9, Try.ntmps9
      go_wp2
      go_ret
      exact ⟨BoolIs.yes ⟨h1, h2⟩, rfl⟩
    · go_enter Try.func9, Try.ntmps9
      go_wp2
      go_ret
      exact ⟨BoolIs.no (fun h => by omega), rfl⟩
  · go_enter Try.func9, Try.ntmps9
    go_wp2
    go_ret
    exact ⟨BoolIs.no (fun h => by omega), rfl⟩

set_option maxRecDepth 20000 in
set_option maxHeartbeats 400000 in
theorem specWorldNew_any (x : Int) (w : World) : Calls Try.prog 4 #[.int .i64 x] w (NewWorld (newP (many x)) (stamp x) w) := by
  have hal := below_alloc w (.cells #[.slice none 0 0, .slice none 0 0, .int .i64 0, .int .i64 0, .slice none 0 0, .slice none 0 0] 29)
  by_cases h1 : 0 ≤ x ∧ x ≤ 200
  · have hs : Hid (stamp x = 1) := if_pos (by omega)
    have H1 := hideT h1
    clear h1
    go_enter Try.func4, Try.ntmps4
    go_wp2_with (first | (go_at_call 9; refine (l01Is_any' x 0 200 _).mono ?_; rintro e w0 ⟨⟨t0, rfl, ht0⟩, rfl⟩; obtain rfl : t0 = true := ht0.2 H1.out; clear ht0) | fail)
    go_wp2_with fail
    refine (specPoolNew_any x _).mono ?_
    rintro e w1 ⟨v0, v1, rfl, ho, hb⟩
    have HB := hideT ((Box6.new w (.slice none 0 0) (.slice none 0 0) (.int .i64 0) (.int .i64 0) (.slice none 0 0) (.slice none 0 0) 29).below hb)
    have hB := below_next hal hb
    obtain ⟨a, c, a', c', rfl, rfl⟩ := ho.form
    rw [World.size_alloc] at ho
    have HO := hideT ho
    clear ho hb hal
    obtain ⟨⟨x0, x1⟩, ⟨x2, x3⟩, ⟨x4, x5⟩, ⟨x6, x7⟩, ⟨x8, x9⟩, ⟨x10, x11⟩⟩ := HB.out
    go_wp2
    obtain ⟨⟨y0, _⟩, ⟨y1, _⟩, ⟨y2, _⟩, ⟨y3, _⟩, ⟨y4, _⟩, ⟨y5, _⟩⟩ := HB.out.put (.slice a (newP (many x)).n c) (.slice a' (newP (many x)).hn c') (.int .i64 1) (.int .i64 1) (.slice none 0 0) (.slice none 0 0)
    have ht := Turned.put6 w1 w.heap.size (.slice a (newP (many x)).n c) (.slice a' (newP (many x)).hn c') (.int .i64 1) (.int .i64 1) (.slice none 0 0) (.slice none 0 0)
    refine bodyPost_ret (v := .agg #[.slice a (newP (many x)).n c, .slice a' (newP (many x)).hn c', .int .i64 1, .int .i64 1, .slice none 0 0, .slice none 0 0]) (by simp [results, Try.results4, go_sem, y0, y1, y2, y3, y4, y5]) rfl ?_
    rw [hs.out]
    exact ⟨_, _, rfl, (HO.out.turned ht (by omega)).wide (by omega) (by exact ht.size), hB.trans (ht.below hB.size (by intro k hk; omega))⟩
  · have hm : Hid (many x = 0) := if_neg (by omega)
    have hs : Hid (stamp x = 0) := if_neg (by omega)
    have H1 := hideT h1
    have Hal := hideT hal
    clear h1 hal
    go_enter Try.func4, Try.ntmps4
    go_wp2_with (first | (go_at_call 9; refine (l01Is_any' x 0 200 _).mono ?_; rintro e w0 ⟨⟨t0, rfl, ht0⟩, rfl⟩; obtain rfl : t0 = false := Bool.eq_false_iff.2 (fun h => H1.out (ht0.1 h)); clear ht0) | fail)
    go_wp2
    refine bodyPost_ret (v := .agg #[.slice none 0 0, .slice none 0 0, .int .i64 0, .int .i64 0, .slice none 0 0, .slice none 0 0]) (by simp [results, Try.results4, go_sem]) rfl ?_
    rw [hm.out, hs.out]
    exact ⟨_, _, rfl, zero_own (w := w), (by first | exact Hal.out | exact Hal.out.drew)⟩

set_option maxRecDepth 20000 in
set_option maxHeartbeats 400000 in
theorem eqSetS_nil (w : World) : Calls Try.prog 13 #[.slice none 0 0, .slice none 0 0] w fun e w' => e = .returned (.bool true) ∧ w' = w := by
  go_enter Try.func13, Try.ntmps13
  go_wp2
  refine wp_loop_rounds 1 ?_
  rw [rounds_succ]
  go_wp2
  go_ret
  exact ⟨rfl, rfl⟩

set_option maxRecDepth 20000 in
set_option maxHeartbeats 400000 in
theorem markSetS_nil (k : Int) (w : World) : Calls Try.prog 16 #[.slice none 0 0, .int .i64 k] w fun e w' => e = .returned (.int .i64 k) ∧ w' = w := by
  go_enter Try.func16, Try.ntmps16
  go_wp2
  refine wp_loop_rounds 1 ?_
  rw [rounds_succ]
  go_wp2
  go_ret
  exact ⟨rfl, rfl⟩

set_option maxRecDepth 20000 in
set_option maxHeartbeats 400000 in
theorem heldSetS_nil (k : Int) (w : World) : Calls Try.prog 19 #[.slice none 0 0, .int .i64 k] w fun e w' => e = .returned (.int .i64 k) ∧ w' = w := by
  go_enter Try.func19, Try.ntmps19
  go_wp2
  refine wp_loop_rounds 1 ?_
  rw [rounds_succ]
  go_wp2
  go_ret
  exact ⟨rfl, rfl⟩

set_option maxRecDepth 20000 in
set_option maxHeartbeats 400000 in
theorem eqSnapS_nil (w : World) : Calls Try.prog 14 #[.slice none 0 0, .slice none 0 0] w fun e w' => e = .returned (.bool true) ∧ w' = w := by
  go_enter Try.func14, Try.ntmps14
  go_wp2
  refine wp_loop_rounds 1 ?_
  rw [rounds_succ]
  go_wp2
  go_ret
  exact ⟨rfl, rfl⟩

set_option maxRecDepth 20000 in
set_option maxHeartbeats 400000 in
theorem markSnapS_nil (k : Int) (w : World) : Calls Try.prog 17 #[.slice none 0 0, .int .i64 k] w fun e w' => e = .returned (.int .i64 k) ∧ w' = w := by
  go_enter Try.func17, Try.ntmps17
  go_wp2
  refine wp_loop_rounds 1 ?_
  rw [rounds_succ]
  go_wp2
  go_ret
  exact ⟨rfl, rfl⟩

set_option maxRecDepth 20000 in
set_option maxHeartbeats 400000 in
theorem heldSnapS_nil (k : Int) (w : World) : Calls Try.prog 20 #[.slice none 0 0, .int .i64 k] w fun e w' => e = .returned (.int .i64 k) ∧ w' = w := by
  go_enter Try.func20, Try.ntmps20
  go_wp2
  refine wp_loop_rounds 1 ?_
  rw [rounds_succ]
  go_wp2
  go_ret
  exact ⟨rfl, rfl⟩

set_option maxRecDepth 20000 in
set_option maxHeartbeats 1000000 in
theorem eqWorld_nil (v0 v1 u0 u1 : Value) (lo hi lo' hi' : Nat) (p : PoolD) (t t' : Int) (w : World) (h1 : PoolAt w lo hi v0 v1 p) (h2 : PoolAt w lo' hi' u0 u1 p) :
    Calls Try.prog 6 #[.agg #[v0, v1, .int .i64 t, .int .i64 t', .slice none 0 0, .slice none 0 0], .agg #[u0, u1, .int .i64 t, .int .i64 t', .slice none 0 0, .slice none 0 0]] w fun e w' => e = .returned (.bool true) ∧ Below w.heap.size w w' := by
  obtain ⟨a, c, a', c', rfl, rfl⟩ := h1.form
  obtain ⟨b, d, b', d', rfl, rfl⟩ := h2.form
  have H1 := hideT h1
  have H2 := hideT h2
  clear h1 h2
  have hbb := below_next (below_alloc w (.cells #[.slice a p.n c, .slice a' p.hn c', .int .i64 t, .int .i64 t', .slice none 0 0, .slice none 0 0] 29)) (below_alloc _ (.cells #[.slice b p.n d, .slice b' p.hn d', .int .i64 t, .int .i64 t', .slice none 0 0, .slice none 0 0] 29))
  have HX := hideT ((Box6.new w (.slice a p.n c) (.slice a' p.hn c') (.int .i64 t) (.int .i64 t') (.slice none 0 0) (.slice none 0 0) 29).below (below_alloc _ (.cells #[.slice b p.n d, .slice b' p.hn d', .int .i64 t, .int .i64 t', .slice none 0 0, .slice none 0 0] 29)))
  have HY : Hid (Box6 ((w.alloc (.cells #[.slice a p.n c, .slice a' p.hn c', .int .i64 t, .int .i64 t', .slice none 0 0, .slice none 0 0] 29)).alloc (.cells #[.slice b p.n d, .slice b' p.hn d', .int .i64 t, .int .i64 t', .slice none 0 0, .slice none 0 0] 29)) (w.heap.size + 1) (.slice b p.n d) (.slice b' p.hn d') (.int .i64 t) (.int .i64 t') (.slice none 0 0) (.slice none 0 0)) := by
    have := Box6.new (w.alloc (.cells #[.slice a p.n c, .slice a' p.hn c', .int .i64 t, .int .i64 t', .slice none 0 0, .slice none 0 0] 29)) (.slice b p.n d) (.slice b' p.hn d') (.int .i64 t) (.int .i64 t') (.slice none 0 0) (.slice none 0 0) 29
    rw [World.size_alloc] at this
    exact this
  go_enter Try.func6, Try.ntmps6
  go_wp2_with fail
  generalize (w.alloc (.cells #[.slice a p.n c, .slice a' p.hn c', .int .i64 t, .int .i64 t', .slice none 0 0, .slice none 0 0] 29)).alloc (.cells #[.slice b p.n d, .slice b' p.hn d', .int .i64 t, .int .i64 t', .slice none 0 0, .slice none 0 0] 29) = W at hbb HX HY ⊢
  refine (eqPool_any _ _ _ _ _ _ _ _ p p _ (H1.out.below hbb) (H2.out.below hbb)).mono ?_
  rintro e w1 ⟨⟨t1, rfl, ht1⟩, hb1⟩
  obtain rfl : t1 = true := ht1.2 (PoolEq.refl p)
  have hB := below_next hbb hb1
  obtain ⟨⟨x0, x1⟩, ⟨x2, x3⟩, ⟨x4, x5⟩, ⟨x6, x7⟩, ⟨x8, x9⟩, ⟨x10, x11⟩⟩ := HX.out.below hb1
  obtain ⟨⟨y0, y1⟩, ⟨y2, y3⟩, ⟨y4, y5⟩, ⟨y6, y7⟩, ⟨y8, y9⟩, ⟨y10, y11⟩⟩ := HY.out.below hb1
  clear hbb ht1 hb1
  have e1 : (t != t) = false := by simp
  have e2 : (t' != t') = false := by simp
  go_wp2_with (first | (go_at_call 13; refine (eqSetS_nil _).mono ?_; rintro e w2 ⟨rfl, rfl⟩) | (go_at_call 14; refine (eqSnapS_nil _).mono ?_; rintro e w3 ⟨rfl, rfl⟩) | fail)
  go_ret
  exact ⟨rfl, hB⟩

set_option maxRecDepth 20000 in
set_option maxHeartbeats 1000000 in
theorem markWorld_nil (v0 v1 : Value) (lo hi : Nat) (p : PoolD) (t t' k : Int) (w : World) (h : PoolOwn w lo hi v0 v1 p) (hk : 0 ≤ k) (hK : endP p k ≤ 1000000000000) (hw : hi ≤ w.heap.size) :
    Calls Try.prog 7 #[.agg #[v0, v1, .int .i64 t, .int .i64 t', .slice none 0 0, .slice none 0 0], .int .i64 k] w fun e w' => e = .returned (.int .i64 (endP p k)) ∧ PoolOwn w' lo hi v0 v1 (markP p k) ∧ Turned (fun b => lo ≤ b ∧ b < hi) w w' := by
  obtain ⟨a, c, a', c', rfl, rfl⟩ := h.form
  have H := hideT h
  clear h
  have hal := below_alloc w (.cells #[.slice a p.n c, .slice a' p.hn c', .int .i64 t, .int .i64 t', .slice none 0 0, .slice none 0 0] 29)
  have HX := hideT (Box6.new w (.slice a p.n c) (.slice a' p.hn c') (.int .i64 t) (.int .i64 t') (.slice none 0 0) (.slice none 0 0) 29)
  go_enter Try.func7, Try.ntmps7
  go_wp2_with fail
  refine (markPool_own lo hi _ _ p k _ (H.out.below hal) hk hK).mono ?_
  rintro e w1 ⟨rfl, ho1, ht1⟩
  have HX1 := hideT (HX.out.turned ht1 (by omega))
  have HO1 := hideT ho1
  have HT1 := hideT ((Turned.of_below (S := fun b => lo ≤ b ∧ b < hi) hal).trans ht1)
  generalize he : endP p k = q at hK ⊢
  have He := hideT he
  clear he
  clear ho1 ht1 hal HX H
  obtain ⟨⟨x0, x1⟩, ⟨x2, x3⟩, ⟨x4, x5⟩, ⟨x6, x7⟩, ⟨x8, x9⟩, ⟨x10, x11⟩⟩ := HX1.out
  go_wp2_with (first | (go_at_call 16; refine (markSetS_nil _ _).mono ?_; rintro e w2 ⟨rfl, rfl⟩) | (go_at_call 17; refine (markSnapS_nil _ _).mono ?_; rintro e w3 ⟨rfl, rfl⟩) | fail)
  go_ret
  exact ⟨by rw [He.out]; first | done | rfl, HO1.out, HT1.out⟩

set_option maxRecDepth 20000 in
set_option maxHeartbeats 1000000 in
theorem heldWorld_nil (v0 v1 : Value) (lo hi : Nat) (p : PoolD) (t t' k : Int) (w : World) (h : PoolAt w lo hi v0 v1 (markP p k)) (hk : 0 ≤ k) (hK : endP p k ≤ 1000000000000) (hq : 0 ≤ endP p k) :
    Calls Try.prog 8 #[.agg #[v0, v1, .int .i64 t, .int .i64 t', .slice none 0 0, .slice none 0 0], .int .i64 k] w fun e w' => e = .returned (.int .i64 (endP p k)) ∧ Below w.heap.size w w' := by
  obtain ⟨a, c, a', c', rfl, rfl⟩ := h.form
  have H := hideT h
  clear h
  have hal := below_alloc w (.cells #[.slice a (markP p k).n c, .slice a' (markP p k).hn c', .int .i64 t, .int .i64 t', .slice none 0 0, .slice none 0 0] 29)
  have HX := hideT (Box6.new w (.slice a (markP p k).n c) (.slice a' (markP p k).hn c') (.int .i64 t) (.int .i64 t') (.slice none 0 0) (.slice none 0 0) 29)
  go_enter Try.func8, Try.ntmps8
  go_wp2_with fail
  refine (heldPool_own lo hi _ _ p k _ (H.out.below hal) hk hK).mono ?_
  rintro e w1 ⟨rfl, hb1⟩
  have HX1 := hideT (HX.out.below hb1)
  have hB := below_next hal hb1
  generalize he : endP p k = q at hK hq ⊢
  have He := hideT he
  clear he
  clear hb1 hal HX H
  have hq0 : ¬ q < 0 := by omega
  obtain ⟨⟨x0, x1⟩, ⟨x2, x3⟩, ⟨x4, x5⟩, ⟨x6, x7⟩, ⟨x8, x9⟩, ⟨x10, x11⟩⟩ := HX1.out
  go_wp2_with (first | (go_at_call 19; refine (heldSetS_nil _ _).mono ?_; rintro e w2 ⟨rfl, rfl⟩) | (go_at_call 20; refine (heldSnapS_nil _ _).mono ?_; rintro e w3 ⟨rfl, rfl⟩) | fail)
  go_ret
  exact ⟨by rw [He.out]; first | done | rfl, hB⟩

set_option maxRecDepth 20000 in
set_option maxHeartbeats 1000000 in
theorem worldNew_walk (x : Int) (w : World) : Calls Try.prog 3 #[.int .i64 x] w fun e w' => e = .returned (.bool true) ∧ Below w.heap.size w w' := by
  have hend := end_new x
  generalize hp : newP (many x) = p at hend
  generalize hq : endP p 1 = q at hend
  have Hp : Hid (newP (many x) = p) := hp
  have Hq : Hid (endP p 1 = q) := hq
  clear hp hq
  obtain ⟨hend1, hend2⟩ := hend
  have hq0 : ¬ q < 0 := by omega
  have hqq : (q != q) = false := by simp
  go_enter Try.func3, Try.ntmps3
  go_wp2_with fail
  refine (specWorldNew_any x _).mono ?_
  rintro e w1 ⟨v0, v1, rfl, hw0, hb1⟩
  rw [Hp.out] at hw0
  obtain ⟨a0, c0, a1, c1, rfl, rfl⟩ := hw0.form
  have Hw0 : Hid (PoolOwn w1 w.heap.size w1.heap.size (.slice a0 p.n c0) (.slice a1 p.hn c1) p) := hw0
  clear hw0
  go_wp2_with fail
  refine (implWorldNew_any x _).mono ?_
  rintro e w2 ⟨u0, u1, rfl, hg0, hb2⟩
  rw [Hp.out] at hg0
  obtain ⟨b0, d0, b1, d1, rfl, rfl⟩ := hg0.form
  have hsz1 : w.heap.size ≤ w1.heap.size := hb1.size
  have hsz2 : w1.heap.size + 1 ≤ w2.heap.size := by have := hb2.size; simpa using this
  have hB1 : Below w.heap.size w w2 := (hb1.alloc hb1.size _).trans (hb2.mono (by simp; omega))
  have Hx0 : Hid (Box6 w2 w1.heap.size (.slice a0 p.n c0) (.slice a1 p.hn c1) (.int .i64 (stamp x)) (.int .i64 (stamp x)) (.slice none 0 0) (.slice none 0 0)) := (Box6.new w1 _ _ _ _ _ _ _).below hb2
  have Hw1 : Hid (PoolOwn w2 w.heap.size w1.heap.size (.slice a0 p.n c0) (.slice a1 p.hn c1) p) := (Hw0.out.below (below_alloc _ _)).below hb2
  have hg0' : PoolOwn w2 (w1.heap.size + 1) w2.heap.size (.slice b0 p.n d0) (.slice b1 p.hn d1) p := by simpa using hg0
  have Hg0 : Hid (PoolOwn w2 (w1.heap.size + 1) w2.heap.size (.slice b0 p.n d0) (.slice b1 p.hn d1) p) := hg0'
  have hl2 : w1.heap.size < w2.heap.size := by omega
  clear hb1 hb2 hg0 hg0' Hw0
  -- the first comparison
  obtain ⟨⟨x0, x1⟩, ⟨x2, x3⟩, ⟨x4, x5⟩, ⟨x6, x7⟩, ⟨x8, x9⟩, ⟨x10, x11⟩⟩ := Hx0.out
  go_wp2_with fail
  have hal := below_alloc w2 (.cells #[.slice b0 p.n d0, .slice b1 p.hn d1, .int .i64 (stamp x), .int .i64 (stamp x), .slice none 0 0, .slice none 0 0] 29)
  refine (eqWorld_nil _ _ _ _ _ _ _ _ p (stamp x) (stamp x) _ (Hg0.out.at.below hal) (Hw1.out.at.below hal)).mono ?_
  rintro e w3 ⟨rfl, hb3⟩
  clear x0 x1 x2 x3 x4 x5 x6 x7 x8 x9 x10 x11
  have Hx1 : Hid (Box6 w3 w1.heap.size (.slice a0 p.n c0) (.slice a1 p.hn c1) (.int .i64 (stamp x)) (.int .i64 (stamp x)) (.slice none 0 0) (.slice none 0 0)) := (Hx0.out.below hal).below hb3
  have Hx2 : Hid (Box6 w3 w2.heap.size (.slice b0 p.n d0) (.slice b1 p.hn d1) (.int .i64 (stamp x)) (.int .i64 (stamp x)) (.slice none 0 0) (.slice none 0 0)) := (Box6.new w2 _ _ _ _ _ _ _).below hb3
  have Hw2 : Hid (PoolOwn w3 w.heap.size w1.heap.size (.slice a0 p.n c0) (.slice a1 p.hn c1) p) := (Hw1.out.below hal).below hb3
  have Hg1 : Hid (PoolOwn w3 (w1.heap.size + 1) w2.heap.size (.slice b0 p.n d0) (.slice b1 p.hn d1) p) := (Hg0.out.below hal).below hb3
  have hB2 : Below w.heap.size w w3 := below_next (below_next hB1 hal) hb3
  have hsz3 : w2.heap.size + 1 ≤ w3.heap.size := by have := hb3.size; simpa using this
  clear hb3 hal Hx0 Hw1 Hg0 hB1
  -- the marks are laid
  obtain ⟨⟨x0, x1⟩, ⟨x2, x3⟩, ⟨x4, x5⟩, ⟨x6, x7⟩, ⟨x8, x9⟩, ⟨x10, x11⟩⟩ := Hx2.out
  go_wp2_with fail
  refine (markWorld_nil _ _ _ _ p (stamp x) (stamp x) 1 _ Hg1.out (by omega) (by rw [Hq.out]; omega) (by omega)).mono ?_
  rintro e w4 ⟨rfl, hg2, ht4⟩
  rw [Hq.out]
  clear x0 x1 x2 x3 x4 x5 x6 x7 x8 x9 x10 x11
  have Hx3 : Hid (Box6 w4 w1.heap.size (.slice a0 p.n c0) (.slice a1 p.hn c1) (.int .i64 (stamp x)) (.int .i64 (stamp x)) (.slice none 0 0) (.slice none 0 0)) := Hx1.out.turned ht4 (by omega)
  have Hx4 : Hid (Box6 w4 w2.heap.size (.slice b0 p.n d0) (.slice b1 p.hn d1) (.int .i64 (stamp x)) (.int .i64 (stamp x)) (.slice none 0 0) (.slice none 0 0)) := Hx2.out.turned ht4 (by omega)
  have Hw3 : Hid (PoolOwn w4 w.heap.size w1.heap.size (.slice a0 p.n c0) (.slice a1 p.hn c1) p) := Hw2.out.turned ht4 (by omega)
  have Hg2 : Hid (PoolOwn w4 (w1.heap.size + 1) w2.heap.size (.slice b0 p.n d0) (.slice b1 p.hn d1) (markP p 1)) := hg2
  have hB3 : Below w.heap.size w w4 := hB2.trans (ht4.below (by omega) (by omega))
  have hsz4 : w2.heap.size + 1 ≤ w4.heap.size := by have := ht4.size; omega
  clear ht4 hg2 Hx1 Hx2 Hw2 Hg1 hB2 hsz3
  -- and looked for
  obtain ⟨⟨x0, x1⟩, ⟨x2, x3⟩, ⟨x4, x5⟩, ⟨x6, x7⟩, ⟨x8, x9⟩, ⟨x10, x11⟩⟩ := Hx4.out
  go_wp2_with fail
  refine (heldWorld_nil _ _ _ _ p (stamp x) (stamp x) 1 _ Hg2.out.at (by omega) (by rw [Hq.out]; omega) (by rw [Hq.out]; omega)).mono ?_
  rintro e w5 ⟨rfl, hb5⟩
  rw [Hq.out]
  clear x0 x1 x2 x3 x4 x5 x6 x7 x8 x9 x10 x11
  have Hx5 : Hid (Box6 w5 w1.heap.size (.slice a0 p.n c0) (.slice a1 p.hn c1) (.int .i64 (stamp x)) (.int .i64 (stamp x)) (.slice none 0 0) (.slice none 0 0)) := Hx3.out.below hb5
  have Hx6 : Hid (Box6 w5 w2.heap.size (.slice b0 p.n d0) (.slice b1 p.hn d1) (.int .i64 (stamp x)) (.int .i64 (stamp x)) (.slice none 0 0) (.slice none 0 0)) := Hx4.out.below hb5
  have Hw4 : Hid (PoolOwn w5 w.heap.size w1.heap.size (.slice a0 p.n c0) (.slice a1 p.hn c1) p) := Hw3.out.below hb5
  have Hg3 : Hid (PoolOwn w5 (w1.heap.size + 1) w2.heap.size (.slice b0 p.n d0) (.slice b1 p.hn d1) (markP p 1)) := Hg2.out.below hb5
  have hB4 : Below w.heap.size w w5 := below_next hB3 hb5
  have hsz5 : w2.heap.size + 1 ≤ w5.heap.size := by have := hb5.size; omega
  clear hb5 Hx3 Hx4 Hw3 Hg2 hB3 hsz4
  -- a second answer
  go_wp2_with fail
  refine (implWorldNew_any x _).mono ?_
  rintro e w6 ⟨y0, y1, rfl, hh0, hb6⟩
  rw [Hp.out] at hh0
  obtain ⟨e0, g0, e1, g1, rfl, rfl⟩ := hh0.form
  have Hx7 : Hid (Box6 w6 w1.heap.size (.slice a0 p.n c0) (.slice a1 p.hn c1) (.int .i64 (stamp x)) (.int .i64 (stamp x)) (.slice none 0 0) (.slice none 0 0)) := Hx5.out.below hb6
  have Hx8 : Hid (Box6 w6 w2.heap.size (.slice b0 p.n d0) (.slice b1 p.hn d1) (.int .i64 (stamp x)) (.int .i64 (stamp x)) (.slice none 0 0) (.slice none 0 0)) := Hx6.out.below hb6
  have Hw5 : Hid (PoolOwn w6 w.heap.size w1.heap.size (.slice a0 p.n c0) (.slice a1 p.hn c1) p) := Hw4.out.below hb6
  have Hg4 : Hid (PoolOwn w6 (w1.heap.size + 1) w2.heap.size (.slice b0 p.n d0) (.slice b1 p.hn d1) (markP p 1)) := Hg3.out.below hb6
  have Hh0 : Hid (PoolOwn w6 w5.heap.size w6.heap.size (.slice e0 p.n g0) (.slice e1 p.hn g1) p) := hh0
  have hB5 : Below w.heap.size w w6 := below_next hB4 hb6
  have hsz6 : w2.heap.size + 1 ≤ w6.heap.size := by have := hb6.size; omega
  have hl6 : w1.heap.size < w6.heap.size := by omega
  clear hb6 hh0 Hx5 Hx6 Hw4 Hg3 hB4 hsz5
  obtain ⟨⟨x0, x1⟩, ⟨x2, x3⟩, ⟨x4, x5⟩, ⟨x6, x7⟩, ⟨x8, x9⟩, ⟨x10, x11⟩⟩ := Hx7.out
  go_wp2_with fail
  have hal := below_alloc w6 (.cells #[.slice e0 p.n g0, .slice e1 p.hn g1, .int .i64 (stamp x), .int .i64 (stamp x), .slice none 0 0, .slice none 0 0] 29)
  refine (eqWorld_nil _ _ _ _ _ _ _ _ p (stamp x) (stamp x) _ (Hh0.out.at.below hal) (Hw5.out.at.below hal)).mono ?_
  rintro e w7 ⟨rfl, hb7⟩
  clear x0 x1 x2 x3 x4 x5 x6 x7 x8 x9 x10 x11
  have Hx9 : Hid (Box6 w7 w2.heap.size (.slice b0 p.n d0) (.slice b1 p.hn d1) (.int .i64 (stamp x)) (.int .i64 (stamp x)) (.slice none 0 0) (.slice none 0 0)) := (Hx8.out.below hal).below hb7
  have Hg5 : Hid (PoolOwn w7 (w1.heap.size + 1) w2.heap.size (.slice b0 p.n d0) (.slice b1 p.hn d1) (markP p 1)) := (Hg4.out.below hal).below hb7
  have hB6 : Below w.heap.size w w7 := below_next (below_next hB5 hal) hb7
  clear hb7 hal Hx7 Hx8 Hw5 Hg4 Hh0 hB5
  -- the marks are there still
  obtain ⟨⟨x0, x1⟩, ⟨x2, x3⟩, ⟨x4, x5⟩, ⟨x6, x7⟩, ⟨x8, x9⟩, ⟨x10, x11⟩⟩ := Hx9.out
  go_wp2_with fail
  refine (heldWorld_nil _ _ _ _ p (stamp x) (stamp x) 1 _ Hg5.out.at (by omega) (by rw [Hq.out]; omega) (by rw [Hq.out]; omega)).mono ?_
  rintro e w8 ⟨rfl, hb8⟩
  rw [Hq.out]
  clear x0 x1 x2 x3 x4 x5 x6 x7 x8 x9 x10 x11
  have hB7 : Below w.heap.size w w8 := below_next hB6 hb8
  clear hb8
  go_wp2
  go_ret
  exact ⟨rfl, hB7⟩

theorem own : ownKnob Try.prog.godebug = none := by kernel_rfl

set_option maxRecDepth 100000 in
theorem worldNew_lifted (os : Os) (started : os.Started) (H : Type) (enc : TypeId × Value → H) :
    ReturnsInHanded {} Try.checked os 3 .any (Rows.fnExactWorldNewSpec.pre6 enc Try.prog Try.f3 Rows.fnExactWorldNewRow.domain false) (Rows.fnExactWorldNewSpec.post enc Try.prog Try.f3 false true false false) := by
  refine returnsInHanded_of_change (C := Try.checked) own started (by kernel_rfl) Try.func3
    (ChangeSpec.witness6 (enc := enc) (C := Try.checked) false ⟨#[], #[.int .i64 0], []⟩ 8 (by kernel_rfl) (by kernel_rfl) (by kernel_rfl) (by kernel_rfl)) ?_
  intro W base args ds gs before hval0 hW hcnd _
  have hval : ∀ (j : Nat) t v, Try.f3.params[j]? = some t → args[j]? = some v → Value.okWide Try.prog W .any base t v := hval0
  have hW' := hW
  obtain ⟨p, q, hA0, hV, rfl, hfz, hnd⟩ := hW
  have hA : DataW.TrodAll enc Try.prog W 0 (fun _ => true) true Try.f3.params.toList args.toList ds p := hA0
  rw [Try.params3] at hA hval
  obtain ⟨v0, vs0, d0, ds0, p0, q0, hargs, rfl, rfl, h0, r0⟩ := trodAll_cons hA
  obtain ⟨rfl, rfl, rfl⟩ := trodAll_nil r0
  obtain rfl : args = #[v0] := by cases args; simp_all
  obtain ⟨rfl, rfl⟩ := trodVars_none hV
  obtain ⟨a0, rfl, rfl, rfl, w0⟩ := open_int Try.underlying2 (hval 0 2 v0 rfl rfl) h0
  clear hA0 hval0
  refine (worldNew_walk a0 W).mono fun e W' ⟨he, bel⟩ => ?_
  subst he
  exact ⟨_, rfl, _, _, _, [], _, [], hW', trodAll_mk1 (shut_bool Try.underlying4 _), (trodAll_cons_mk (shut_int Try.underlying2 w0) trodAll_mk0), rfl, bel.frame _, fun h => by cases h⟩

theorem fnExactWorldNew_holds : Rows.FnExactWorldNewSaid :=
  OpenClaim.holds_of_wide 3 Try.f3 rfl rfl rfl rfl rfl rfl rfl ⟨rfl, rfl, rfl, rfl, rfl⟩ rfl rfl rfl rfl rfl (by kernel_rfl) Try.func3 (by kernel_rfl)
    (of_decide_eq_true (by kernel_rfl)) (by unfold Func.isWrapper; first | (rw [if_pos (by decide +kernel)]; kernel_rfl) | (rw [if_neg (by decide +kernel)]; exact ⟨rfl, rfl⟩))
    (fun os started H enc _ => worldNew_lifted os started H enc)

end Go.Proofs.Ytiijnmpenljniaf
