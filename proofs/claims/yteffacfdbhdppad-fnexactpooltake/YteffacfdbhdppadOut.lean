/- What is handed back beside a code: a pool, a pointer and a number in one variable; the laws' comparisons and marks of it. -/
import Derived.Test.YteffacfdbhdppadLawKit
namespace Go.Proofs.Yteffacfdbhdppad
open Go.RowKit
set_option linter.unusedVariables false

/-- A variable of five cells. -/
def Box5 (w : World) (b : Nat) (v0 v1 v2 v3 v4 : Value) : Prop := Cell w b 0 v0 ∧ Cell w b 1 v1 ∧ Cell w b 2 v2 ∧ Cell w b 3 v3 ∧ Cell w b 4 v4
theorem Box5.below {w w' : World} {b : Nat} {v0 v1 v2 v3 v4 : Value} (h : Box5 w b v0 v1 v2 v3 v4) (t : Below w.heap.size w w') : Box5 w' b v0 v1 v2 v3 v4 := ⟨h.1.below t, h.2.1.below t, h.2.2.1.below t, h.2.2.2.1.below t, h.2.2.2.2.below t⟩
theorem Box5.turned {S : Nat → Prop} {w w' : World} {b : Nat} {v0 v1 v2 v3 v4 : Value} (h : Box5 w b v0 v1 v2 v3 v4) (t : Turned S w w') (hs : ¬ S b) : Box5 w' b v0 v1 v2 v3 v4 := ⟨h.1.turned t hs, h.2.1.turned t hs, h.2.2.1.turned t hs, h.2.2.2.1.turned t hs, h.2.2.2.2.turned t hs⟩
theorem Box5.new (w : World) (v0 v1 v2 v3 v4 : Value) (t : TypeId) : Box5 (w.alloc (.cells #[v0, v1, v2, v3, v4] t)) w.heap.size v0 v1 v2 v3 v4 := by
  have hb : (w.alloc (.cells #[v0, v1, v2, v3, v4] t)).heap[w.heap.size]? = some (.cells #[v0, v1, v2, v3, v4] t) := heap_alloc_new _ _
  exact ⟨cell_of_block hb rfl, cell_of_block hb rfl, cell_of_block hb rfl, cell_of_block hb rfl, cell_of_block hb rfl⟩
/-- The five cells written. -/
abbrev put5 (w : World) (b : Nat) (u0 u1 u2 u3 u4 : Value) : World := ((((w.setCell ⟨b, 0, none⟩ u0).setCell ⟨b, 1, none⟩ u1).setCell ⟨b, 2, none⟩ u2).setCell ⟨b, 3, none⟩ u3).setCell ⟨b, 4, none⟩ u4
theorem Box5.put {w : World} {b : Nat} {v0 v1 v2 v3 v4 : Value} (h : Box5 w b v0 v1 v2 v3 v4) (u0 u1 u2 u3 u4 : Value) : Box5 (put5 w b u0 u1 u2 u3 u4) b u0 u1 u2 u3 u4 := by
  obtain ⟨h0, h1, h2, h3, h4⟩ := h
  refine ⟨?_, ?_, ?_, ?_, ?_⟩
  · exact ((((h0.set _).other _ (Or.inr (by omega))).other _ (Or.inr (by omega))).other _ (Or.inr (by omega))).other _ (Or.inr (by omega))
  · exact ((((h1.other _ (Or.inr (by omega))).set _).other _ (Or.inr (by omega))).other _ (Or.inr (by omega))).other _ (Or.inr (by omega))
  · exact ((((h2.other _ (Or.inr (by omega))).other _ (Or.inr (by omega))).set _).other _ (Or.inr (by omega))).other _ (Or.inr (by omega))
  · exact ((((h3.other _ (Or.inr (by omega))).other _ (Or.inr (by omega))).other _ (Or.inr (by omega))).set _).other _ (Or.inr (by omega))
  · exact ((((h4.other _ (Or.inr (by omega))).other _ (Or.inr (by omega))).other _ (Or.inr (by omega))).other _ (Or.inr (by omega))).set _
theorem Turned.put5 (w : World) (b : Nat) (u0 u1 u2 u3 u4 : Value) : Turned (fun k => k = b) w (put5 w b u0 u1 u2 u3 u4) :=
  ((((Turned.put w b 0 u0).trans (Turned.put _ b 1 u1)).trans (Turned.put _ b 2 u2)).trans (Turned.put _ b 3 u3)).trans (Turned.put _ b 4 u4)

/-- A pool, a pointer and a code. -/
structure OutD where
  pool : PoolD
  ps : Int
  pb : Int
  code : Int

/-- The answer is a new one that holds what o tells. -/
def NewOut (o : OutD) (w : World) (e : Ending) (w' : World) : Prop := ∃ v0 v1, e = .returned (.agg #[v0, v1, .int .i64 o.ps, .int .i64 o.pb, .int .i64 o.code]) ∧ PoolOwn w' w.heap.size w'.heap.size v0 v1 o.pool ∧ Below w.heap.size w w'

theorem none_own {w : World} {lo hi : Nat} : PoolOwn w lo hi (.slice none 0 0) (.slice none 0 0) (newP 0) :=
  newP_own (g := 0) (Nat.zero_le _) ⟨none, 0, rfl, Nat.le_refl _, fun h => absurd h (Nat.lt_irrefl _)⟩ (fun i h => absurd h (Nat.not_lt_zero _))

/-- A variable that holds one. -/
structure OutVar (w : World) (b lo hi : Nat) (v0 v1 : Value) (o : OutD) : Prop where
  box : Box5 w b v0 v1 (.int .i64 o.ps) (.int .i64 o.pb) (.int .i64 o.code)
  own : PoolOwn w lo hi v0 v1 o.pool
theorem OutVar.below {w w' : World} {b lo hi : Nat} {v0 v1 : Value} {o : OutD} (h : OutVar w b lo hi v0 v1 o) (t : Below w.heap.size w w') : OutVar w' b lo hi v0 v1 o := ⟨h.box.below t, h.own.below t⟩
theorem OutVar.turned {S : Nat → Prop} {w w' : World} {b lo hi : Nat} {v0 v1 : Value} {o : OutD} (h : OutVar w b lo hi v0 v1 o) (t : Turned S w w') (hb : ¬ S b) (hs : ∀ k, S k → k < lo ∨ hi ≤ k) : OutVar w' b lo hi v0 v1 o := ⟨h.box.turned t hb, h.own.turned t hs⟩

set_option maxHeartbeats 1000000 in
theorem eqPoolOut_same (v0 v1 u0 u1 : Value) (lo hi lo' hi' : Nat) (o : OutD) (w : World) (h1 : PoolAt w lo hi v0 v1 o.pool) (h2 : PoolAt w lo' hi' u0 u1 o.pool) :
    Calls Try.prog 13 #[.agg #[v0, v1, .int .i64 o.ps, .int .i64 o.pb, .int .i64 o.code], .agg #[u0, u1, .int .i64 o.ps, .int .i64 o.pb, .int .i64 o.code]] w fun e w' => e = .returned (.bool true) ∧ Below w.heap.size w w' := by
  have H1 := hide h1
  have H2 := hide h2
  obtain ⟨a, c, a', c', rfl, rfl⟩ := h1.form
  obtain ⟨b, d, b', d', rfl, rfl⟩ := h2.form
  clear h1 h2
  have hcc : (o.code != o.code) = false := by simp
  go_enter Try.func13, Try.ntmps13
  go_wp2_with fail
  have ha := below_next (below_alloc w (.cells #[.slice a o.pool.n c, .slice a' o.pool.hn c', .int .i64 o.ps, .int .i64 o.pb, .int .i64 o.code] 37)) (below_alloc _ (.cells #[.slice b o.pool.n d, .slice b' o.pool.hn d', .int .i64 o.ps, .int .i64 o.pb, .int .i64 o.code] 37))
  have HA := hide ((Box5.new w (.slice a o.pool.n c) (.slice a' o.pool.hn c') (.int .i64 o.ps) (.int .i64 o.pb) (.int .i64 o.code) 37).below (below_alloc _ (.cells #[.slice b o.pool.n d, .slice b' o.pool.hn d', .int .i64 o.ps, .int .i64 o.pb, .int .i64 o.code] 37)))
  have hb := Box5.new (w.alloc (.cells #[.slice a o.pool.n c, .slice a' o.pool.hn c', .int .i64 o.ps, .int .i64 o.pb, .int .i64 o.code] 37)) (.slice b o.pool.n d) (.slice b' o.pool.hn d') (.int .i64 o.ps) (.int .i64 o.pb) (.int .i64 o.code) 37
  rw [World.size_alloc] at hb
  have HB := hide hb
  clear hb
  refine (eqPool_any _ _ _ _ _ _ _ _ o.pool o.pool _ (H1.out.below ha) (H2.out.below ha)).mono ?_
  rintro e w1 ⟨⟨t, rfl, ht⟩, hb1⟩
  obtain rfl : t = true := ht.2 (PoolEq.refl _)
  have HA1 := hide (HA.out.below hb1)
  have HB1 := hide (HB.out.below hb1)
  have hB1 := below_next ha hb1
  clear ht hb1 ha HA HB
  obtain ⟨_, _, ⟨x0, _⟩, ⟨x1, _⟩, ⟨x2, _⟩⟩ := HA1.out
  obtain ⟨_, _, ⟨y0, _⟩, ⟨y1, _⟩, ⟨y2, _⟩⟩ := HB1.out
  go_wp2_with fail
  refine (eqPtr_any _ _ _ _ _).mono ?_
  rintro e w2 ⟨⟨t, rfl, ht⟩, hb2⟩
  obtain rfl : t = true := ht.2 ⟨rfl, rfl⟩
  have HA2 := hide (HA1.out.below hb2)
  have HB2 := hide (HB1.out.below hb2)
  have hB2 := below_next hB1 hb2
  clear ht hb2 hB1 HA1 HB1 x0 x1 x2 y0 y1 y2
  obtain ⟨_, _, _, _, ⟨x2, _⟩⟩ := HA2.out
  obtain ⟨_, _, _, _, ⟨y2, _⟩⟩ := HB2.out
  go_wp2
  go_ret
  exact ⟨rfl, hB2⟩

set_option maxHeartbeats 400000 in
theorem markPoolOut_own (lo hi : Nat) (v0 v1 x y z : Value) (p : PoolD) (k0 : Int) (w : World) (h : PoolOwn w lo hi v0 v1 p) (hh : hi ≤ w.heap.size) (hx : x.oneCell' = true) (hk0 : 0 ≤ k0) (hk1 : endP p k0 ≤ 1000000000000) :
    Calls Try.prog 18 #[.agg #[v0, v1, x, y, z], .int .i64 k0] w fun e w' => e = .returned (.int .i64 (endP p k0)) ∧ PoolOwn w' lo hi v0 v1 (markP p k0) ∧ Turned (fun k => lo ≤ k ∧ k < hi) w w' := by
  have H := hide h
  obtain ⟨a, c, a', c', rfl, rfl⟩ := h.form
  clear h
  go_enter Try.func18, Try.ntmps18
  go_wp2_with fail
  have ha := below_alloc w (.cells #[.slice a p.n c, .slice a' p.hn c', x, y, z] 37)
  refine (markPool_own _ _ _ _ p k0 _ (H.out.below ha) hk0 hk1).mono ?_
  rintro e w1 ⟨rfl, ho, ht⟩
  have Ho := hide ho
  have htt : Turned (fun k => lo ≤ k ∧ k < hi) w w1 := (Turned.of_below ha).trans ht
  clear ho ht ha
  go_wp2
  go_ret
  exact ⟨rfl, Ho.out, htt⟩

set_option maxHeartbeats 400000 in
theorem heldPoolOut_own (lo hi : Nat) (v0 v1 x y z : Value) (p : PoolD) (k0 : Int) (w : World) (h : PoolAt w lo hi v0 v1 (markP p k0)) (hk0 : 0 ≤ k0) (hk1 : endP p k0 ≤ 1000000000000) (hk2 : 0 ≤ endP p k0) :
    Calls Try.prog 19 #[.agg #[v0, v1, x, y, z], .int .i64 k0] w fun e w' => e = .returned (.int .i64 (endP p k0)) ∧ Below w.heap.size w w' := by
  have H := hide h
  obtain ⟨a, c, a', c', rfl, rfl⟩ := h.form
  clear h
  generalize hq : endP p k0 = q at hk1 hk2
  have Hq := hide hq
  clear hq
  have hge : ¬ q < 0 := by omega
  go_enter Try.func19, Try.ntmps19
  go_wp2_with fail
  have ha := below_alloc w (.cells #[.slice a (markP p k0).n c, .slice a' (markP p k0).hn c', x, y, z] 37)
  refine (heldPool_own _ _ _ _ p k0 _ (H.out.below ha) hk0 (by rw [Hq.out]; exact hk1)).mono ?_
  rintro e w1 ⟨rfl, hb1⟩
  rw [Hq.out]
  have hbn := below_next ha hb1
  clear ha hb1
  go_wp2
  go_ret
  exact ⟨rfl, hbn⟩

end Go.Proofs.Yteffacfdbhdppad
