/- What the laws' measuring, copying and comparing of stores answers (no law is proved here). -/
import Derived.Test.YtjpbmpjddbekgaaGreatG37
import Derived.Test.YtjpbmpjddbekgaaGreatG59
import Derived.Test.YtjpbmpjddbekgaaGreatG27
import Derived.Test.YtjpbmpjddbekgaaGreatG28
namespace Go.Proofs.YtjpbmpjddbekgaaGreat
open Go.RowKit Go.Maps
set_option linter.unusedVariables false

def storeN (S : StoreD) : Nat := worldN S.live + worldN S.safe

set_option maxRecDepth 20000 in
set_option maxHeartbeats 400000 in
theorem szStore_any (v0 v1 v2 v3 u0 u1 u2 u3 : Value) (lo hi : Nat) (S : StoreD) (left : Int) (w : World) (h : StoreAt w lo hi v0 v1 v2 v3 u0 u1 u2 u3 S) (hl0 : 0 ≤ left) (hl1 : left ≤ 1048576) :
    Calls Tryz.prog 44 #[storeV v0 v1 v2 v3 u0 u1 u2 u3 S, .int .i64 left] w fun e w' => LeftIs (storeN S) left e ∧ Below w.heap.size w w' := by
  have H := hideW h
  clear h
  have ha := below_alloc w (.cells #[v0, v1, .int .i64 S.live.time, .int .i64 S.live.next, v2, v3, u0, u1, .int .i64 S.safe.time, .int .i64 S.safe.next, u2, u3] 66)
  have HX := hideW (Box12.new w v0 v1 (.int .i64 S.live.time) (.int .i64 S.live.next) v2 v3 u0 u1 (.int .i64 S.safe.time) (.int .i64 S.safe.next) u2 u3 66)
  obtain ⟨⟨x0, x0'⟩, ⟨x1, x1'⟩, ⟨x2, x2'⟩, ⟨x3, x3'⟩, ⟨x4, x4'⟩, ⟨x5, x5'⟩, ⟨x6, x6'⟩, ⟨x7, x7'⟩, ⟨x8, x8'⟩, ⟨x9, x9'⟩, ⟨x10, x10'⟩, ⟨x11, x11'⟩⟩ := HX.out
  go_enter Tryz.func44, Tryz.ntmps44
  go_wp2_with fail
  refine (szWorld_any _ _ _ _ lo hi S.live _ _ (H.out.live.below ha) hl0 hl1).mono ?_
  rintro e w1 ⟨⟨r, rfl, hr1, hr2, hr3⟩, hb1⟩
  have hB1 := below_next ha hb1
  have HX1 := hideW (HX.out.below hb1)
  have Hr := hideW hr1
  clear hr1 hb1 ha HX x0 x0' x1 x1' x2 x2' x3 x3' x4 x4' x5 x5' x6 x6' x7 x7' x8 x8' x9 x9' x10 x10' x11 x11'
  obtain ⟨⟨x0, x0'⟩, ⟨x1, x1'⟩, ⟨x2, x2'⟩, ⟨x3, x3'⟩, ⟨x4, x4'⟩, ⟨x5, x5'⟩, ⟨x6, x6'⟩, ⟨x7, x7'⟩, ⟨x8, x8'⟩, ⟨x9, x9'⟩, ⟨x10, x10'⟩, ⟨x11, x11'⟩⟩ := HX1.out
  by_cases h : r < 0
  · go_wp2
    go_ret
    exact ⟨⟨-1, rfl, by omega, by omega, by omega⟩, hB1⟩
  · go_wp2_with fail
    refine (szWorld_any _ _ _ _ lo hi S.safe _ _ (H.out.safe.below hB1) (by omega) (by omega)).mono ?_
    rintro e w2 ⟨⟨r', rfl, hq1, hq2, hq3⟩, hb2⟩
    have hB2 := below_next hB1 hb2
    have Hq := hideW hq1
    clear hq1 hb2 x0 x0' x1 x1' x2 x2' x3 x3' x4 x4' x5 x5' x6 x6' x7 x7' x8 x8' x9 x9' x10 x10' x11 x11'
    by_cases h3 : r' < 0
    · go_wp2
      go_ret
      exact ⟨⟨-1, rfl, by omega, by omega, by omega⟩, hB2⟩
    · go_wp2
      go_ret
      exact ⟨⟨r', rfl, fun _ => by have h1 := Hr.out (by omega); have h2 := Hq.out (by omega); unfold storeN; omega, by omega, by omega⟩, hB2⟩

set_option maxRecDepth 20000 in
set_option maxHeartbeats 400000 in
theorem eqStore_same (v0 v1 v2 v3 u0 u1 u2 u3 x0 x1 x2 x3 y0 y1 y2 y3 : Value) (lo hi lo' hi' : Nat) (S : StoreD) (w : World) (h1 : StoreAt w lo hi v0 v1 v2 v3 u0 u1 u2 u3 S) (h2 : StoreAt w lo' hi' x0 x1 x2 x3 y0 y1 y2 y3 S) :
    Calls Tryz.prog 48 #[storeV v0 v1 v2 v3 u0 u1 u2 u3 S, storeV x0 x1 x2 x3 y0 y1 y2 y3 S] w fun e w' => e = .returned (.bool true) ∧ Below w.heap.size w w' := by
  have H1 := hideW h1
  have H2 := hideW h2
  clear h1 h2
  have ha := below_alloc w (.cells #[v0, v1, .int .i64 S.live.time, .int .i64 S.live.next, v2, v3, u0, u1, .int .i64 S.safe.time, .int .i64 S.safe.next, u2, u3] 70)
  have ha2 := below_alloc (w.alloc (.cells #[v0, v1, .int .i64 S.live.time, .int .i64 S.live.next, v2, v3, u0, u1, .int .i64 S.safe.time, .int .i64 S.safe.next, u2, u3] 70)) (.cells #[x0, x1, .int .i64 S.live.time, .int .i64 S.live.next, x2, x3, y0, y1, .int .i64 S.safe.time, .int .i64 S.safe.next, y2, y3] 70)
  have hA := below_next ha ha2
  have HX := hideW ((Box12.new w v0 v1 (.int .i64 S.live.time) (.int .i64 S.live.next) v2 v3 u0 u1 (.int .i64 S.safe.time) (.int .i64 S.safe.next) u2 u3 70).below ha2)
  have hy := Box12.new (w.alloc (.cells #[v0, v1, .int .i64 S.live.time, .int .i64 S.live.next, v2, v3, u0, u1, .int .i64 S.safe.time, .int .i64 S.safe.next, u2, u3] 70)) x0 x1 (.int .i64 S.live.time) (.int .i64 S.live.next) x2 x3 y0 y1 (.int .i64 S.safe.time) (.int .i64 S.safe.next) y2 y3 70
  rw [World.size_alloc] at hy
  have HY := hideW hy
  clear hy ha ha2
  obtain ⟨⟨p0, p0'⟩, ⟨p1, p1'⟩, ⟨p2, p2'⟩, ⟨p3, p3'⟩, ⟨p4, p4'⟩, ⟨p5, p5'⟩, ⟨p6, p6'⟩, ⟨p7, p7'⟩, ⟨p8, p8'⟩, ⟨p9, p9'⟩, ⟨p10, p10'⟩, ⟨p11, p11'⟩⟩ := HX.out
  obtain ⟨⟨q0, q0'⟩, ⟨q1, q1'⟩, ⟨q2, q2'⟩, ⟨q3, q3'⟩, ⟨q4, q4'⟩, ⟨q5, q5'⟩, ⟨q6, q6'⟩, ⟨q7, q7'⟩, ⟨q8, q8'⟩, ⟨q9, q9'⟩, ⟨q10, q10'⟩, ⟨q11, q11'⟩⟩ := HY.out
  go_enter Tryz.func48, Tryz.ntmps48
  go_wp2_with fail
  clear p0 p0' p1 p1' p2 p2' p3 p3' p4 p4' p5 p5' p6 p6' p7 p7' p8 p8' p9 p9' p10 p10' p11 p11' q0 q0' q1 q1' q2 q2' q3 q3' q4 q4' q5 q5' q6 q6' q7 q7' q8 q8' q9 q9' q10 q10' q11 q11'
  generalize (w.alloc (.cells #[v0, v1, .int .i64 S.live.time, .int .i64 S.live.next, v2, v3, u0, u1, .int .i64 S.safe.time, .int .i64 S.safe.next, u2, u3] 70)).alloc (.cells #[x0, x1, .int .i64 S.live.time, .int .i64 S.live.next, x2, x3, y0, y1, .int .i64 S.safe.time, .int .i64 S.safe.next, y2, y3] 70) = W0 at hA HX HY ⊢
  refine (eqWorld_same _ _ _ _ _ _ _ _ _ _ _ _ S.live W0 (H1.out.live.below hA) (H2.out.live.below hA)).mono ?_
  rintro e w1 ⟨rfl, hb1⟩
  have hB1 := below_next hA hb1
  obtain ⟨⟨p0, p0'⟩, ⟨p1, p1'⟩, ⟨p2, p2'⟩, ⟨p3, p3'⟩, ⟨p4, p4'⟩, ⟨p5, p5'⟩, ⟨p6, p6'⟩, ⟨p7, p7'⟩, ⟨p8, p8'⟩, ⟨p9, p9'⟩, ⟨p10, p10'⟩, ⟨p11, p11'⟩⟩ := HX.out.below hb1
  obtain ⟨⟨q0, q0'⟩, ⟨q1, q1'⟩, ⟨q2, q2'⟩, ⟨q3, q3'⟩, ⟨q4, q4'⟩, ⟨q5, q5'⟩, ⟨q6, q6'⟩, ⟨q7, q7'⟩, ⟨q8, q8'⟩, ⟨q9, q9'⟩, ⟨q10, q10'⟩, ⟨q11, q11'⟩⟩ := HY.out.below hb1
  clear hb1 HX HY hA
  go_wp2_with fail
  clear p0 p0' p1 p1' p2 p2' p3 p3' p4 p4' p5 p5' p6 p6' p7 p7' p8 p8' p9 p9' p10 p10' p11 p11' q0 q0' q1 q1' q2 q2' q3 q3' q4 q4' q5 q5' q6 q6' q7 q7' q8 q8' q9 q9' q10 q10' q11 q11'
  refine (eqWorld_same _ _ _ _ _ _ _ _ _ _ _ _ S.safe w1 (H1.out.safe.below hB1) (H2.out.safe.below hB1)).mono ?_
  rintro e w2 ⟨rfl, hb2⟩
  have hB2 := below_next hB1 hb2
  clear hb2 hB1
  go_wp2
  go_ret
  exact ⟨rfl, hB2⟩

set_option maxRecDepth 20000 in
set_option maxHeartbeats 1000000 in
theorem toStore_any (v0 v1 v2 v3 u0 u1 u2 u3 : Value) (lo hi : Nat) (S : StoreD) (w : World) (h : StoreAt w lo hi v0 v1 v2 v3 u0 u1 u2 u3 S) (hn : storeN S ≤ 1048576) : Calls Tryz.prog 46 #[storeV v0 v1 v2 v3 u0 u1 u2 u3 S] w (NewStore S w) := by
  obtain ⟨s0a, t0a, s0b, t0b, s0c, t0c, s0d, t0d, rfl, rfl, rfl, rfl⟩ := h.live.form
  obtain ⟨s1a, t1a, s1b, t1b, s1c, t1c, s1d, t1d, rfl, rfl, rfl, rfl⟩ := h.safe.form
  have H := hideW h
  clear h
  unfold storeN at hn
  have hst : ∀ Wa Wb Wc : World, Wa = w.alloc (.cells #[.slice s0a S.live.pool.n t0a, .slice s0b S.live.pool.hn t0b, .int .i64 S.live.time, .int .i64 S.live.next, .slice s0c S.live.sn t0c, .slice s0d S.live.pn t0d, .slice s1a S.safe.pool.n t1a, .slice s1b S.safe.pool.hn t1b, .int .i64 S.safe.time, .int .i64 S.safe.next, .slice s1c S.safe.sn t1c, .slice s1d S.safe.pn t1d] 66) → Wb = Wa.alloc (.cells #[.slice none 0 0, .slice none 0 0, .int .i64 0, .int .i64 0, .slice none 0 0, .slice none 0 0, .slice none 0 0, .slice none 0 0, .int .i64 0, .int .i64 0, .slice none 0 0, .slice none 0 0] 70) → Wc = Wb.alloc (.cells #[.slice none 0 0, .slice none 0 0, .int .i64 0, .int .i64 0, .slice none 0 0, .slice none 0 0, .slice none 0 0, .slice none 0 0, .int .i64 0, .int .i64 0, .slice none 0 0, .slice none 0 0] 70) → Box12 Wc w.heap.size (.slice s0a S.live.pool.n t0a) (.slice s0b S.live.pool.hn t0b) (.int .i64 S.live.time) (.int .i64 S.live.next) (.slice s0c S.live.sn t0c) (.slice s0d S.live.pn t0d) (.slice s1a S.safe.pool.n t1a) (.slice s1b S.safe.pool.hn t1b) (.int .i64 S.safe.time) (.int .i64 S.safe.next) (.slice s1c S.safe.sn t1c) (.slice s1d S.safe.pn t1d) ∧ Box12 Wc (w.heap.size + 1) (.slice none 0 0) (.slice none 0 0) (.int .i64 0) (.int .i64 0) (.slice none 0 0) (.slice none 0 0) (.slice none 0 0) (.slice none 0 0) (.int .i64 0) (.int .i64 0) (.slice none 0 0) (.slice none 0 0) ∧ Box12 Wc (w.heap.size + 1 + 1) (.slice none 0 0) (.slice none 0 0) (.int .i64 0) (.int .i64 0) (.slice none 0 0) (.slice none 0 0) (.slice none 0 0) (.slice none 0 0) (.int .i64 0) (.int .i64 0) (.slice none 0 0) (.slice none 0 0) ∧ Below w.heap.size w Wc ∧ Wc.heap.size = w.heap.size + 3 := by
    rintro Wa Wb Wc ea eb ec
    have ha := below_alloc w (.cells #[.slice s0a S.live.pool.n t0a, .slice s0b S.live.pool.hn t0b, .int .i64 S.live.time, .int .i64 S.live.next, .slice s0c S.live.sn t0c, .slice s0d S.live.pn t0d, .slice s1a S.safe.pool.n t1a, .slice s1b S.safe.pool.hn t1b, .int .i64 S.safe.time, .int .i64 S.safe.next, .slice s1c S.safe.sn t1c, .slice s1d S.safe.pn t1d] 66)
    have h1 := Box12.new w (.slice s0a S.live.pool.n t0a) (.slice s0b S.live.pool.hn t0b) (.int .i64 S.live.time) (.int .i64 S.live.next) (.slice s0c S.live.sn t0c) (.slice s0d S.live.pn t0d) (.slice s1a S.safe.pool.n t1a) (.slice s1b S.safe.pool.hn t1b) (.int .i64 S.safe.time) (.int .i64 S.safe.next) (.slice s1c S.safe.sn t1c) (.slice s1d S.safe.pn t1d) 66
    have z1 : Wa.heap.size = w.heap.size + 1 := by rw [ea]; exact World.size_alloc _ _
    rw [← ea] at ha h1
    have hb := below_alloc Wa (.cells #[.slice none 0 0, .slice none 0 0, .int .i64 0, .int .i64 0, .slice none 0 0, .slice none 0 0, .slice none 0 0, .slice none 0 0, .int .i64 0, .int .i64 0, .slice none 0 0, .slice none 0 0] 70)
    have h2 := Box12.new Wa (.slice none 0 0) (.slice none 0 0) (.int .i64 0) (.int .i64 0) (.slice none 0 0) (.slice none 0 0) (.slice none 0 0) (.slice none 0 0) (.int .i64 0) (.int .i64 0) (.slice none 0 0) (.slice none 0 0) 70
    have z2 : Wb.heap.size = w.heap.size + 1 + 1 := by rw [eb, World.size_alloc, z1]
    rw [← eb, z1] at h2
    rw [← eb] at hb
    have hc := below_alloc Wb (.cells #[.slice none 0 0, .slice none 0 0, .int .i64 0, .int .i64 0, .slice none 0 0, .slice none 0 0, .slice none 0 0, .slice none 0 0, .int .i64 0, .int .i64 0, .slice none 0 0, .slice none 0 0] 70)
    have h3 := Box12.new Wb (.slice none 0 0) (.slice none 0 0) (.int .i64 0) (.int .i64 0) (.slice none 0 0) (.slice none 0 0) (.slice none 0 0) (.slice none 0 0) (.int .i64 0) (.int .i64 0) (.slice none 0 0) (.slice none 0 0) 70
    have z3 : Wc.heap.size = w.heap.size + 3 := by rw [ec, World.size_alloc, z2]
    rw [← ec, z2] at h3
    rw [← ec] at hc
    exact ⟨(h1.below hb).below hc, h2.below hc, h3, below_next (below_next ha hb) hc, z3⟩
  obtain ⟨hx, hy, hz, hbw, hsz⟩ := hst _ _ _ rfl rfl rfl
  have HX := hideW hx
  have HY := hideW hy
  have HZ := hideW hz
  have HS := hideW hsz
  clear hx hy hz hst hsz
  go_enter Tryz.func46, Tryz.ntmps46
  obtain ⟨⟨x0, x0'⟩, ⟨x1, x1'⟩, ⟨x2, x2'⟩, ⟨x3, x3'⟩, ⟨x4, x4'⟩, ⟨x5, x5'⟩, ⟨x6, x6'⟩, ⟨x7, x7'⟩, ⟨x8, x8'⟩, ⟨x9, x9'⟩, ⟨x10, x10'⟩, ⟨x11, x11'⟩⟩ := HX.out
  go_wp2_with fail
  clear x0 x0' x1 x1' x2 x2' x3 x3' x4 x4' x5 x5' x6 x6' x7 x7' x8 x8' x9 x9' x10 x10' x11 x11'
  generalize ((w.alloc (.cells #[.slice s0a S.live.pool.n t0a, .slice s0b S.live.pool.hn t0b, .int .i64 S.live.time, .int .i64 S.live.next, .slice s0c S.live.sn t0c, .slice s0d S.live.pn t0d, .slice s1a S.safe.pool.n t1a, .slice s1b S.safe.pool.hn t1b, .int .i64 S.safe.time, .int .i64 S.safe.next, .slice s1c S.safe.sn t1c, .slice s1d S.safe.pn t1d] 66)).alloc (.cells #[.slice none 0 0, .slice none 0 0, .int .i64 0, .int .i64 0, .slice none 0 0, .slice none 0 0, .slice none 0 0, .slice none 0 0, .int .i64 0, .int .i64 0, .slice none 0 0, .slice none 0 0] 70)).alloc (.cells #[.slice none 0 0, .slice none 0 0, .int .i64 0, .int .i64 0, .slice none 0 0, .slice none 0 0, .slice none 0 0, .slice none 0 0, .int .i64 0, .int .i64 0, .slice none 0 0, .slice none 0 0] 70) = W0 at HX HY HZ HS hbw ⊢
  refine (toWorld_any _ _ _ _ lo hi S.live W0 (H.out.live.below hbw) (by omega)).mono ?_
  rintro e w1 ⟨x0, x1, x2, x3, rfl, hP, hb1⟩
  obtain ⟨s2a, t2a, s2b, t2b, s2c, t2c, s2d, t2d, rfl, rfl, rfl, rfl⟩ := hP.form
  have hz1 := hb1.size
  have hz0 := HS.out
  have T1 := Turned.put12a w1 (w.heap.size + 1 + 1) (.slice s2a S.live.pool.n t2a) (.slice s2b S.live.pool.hn t2b) (.int .i64 S.live.time) (.int .i64 S.live.next) (.slice s2c S.live.sn t2c) (.slice s2d S.live.pn t2d)
  have HP1 := hideW (hP.turned T1 (fun k e => Or.inl (by show k < W0.heap.size; omega)))
  have HX1 := hideW ((HX.out.below hb1).turned T1 (fun e => absurd e (by omega)))
  have HY1 := hideW ((HY.out.below hb1).turned T1 (fun e => absurd e (by omega)))
  have HZ1 := hideW ((HZ.out.below hb1).put12a (.slice s2a S.live.pool.n t2a) (.slice s2b S.live.pool.hn t2b) (.int .i64 S.live.time) (.int .i64 S.live.next) (.slice s2c S.live.sn t2c) (.slice s2d S.live.pn t2d))
  have hB1 := (below_next hbw hb1).trans (T1.below (B := w.heap.size) (by omega) (fun k e => by omega))
  have HS1 := hideW (show w1.heap.size ≤ ((((((w1.setCell ⟨w.heap.size + 1 + 1, 0, none⟩ (.slice s2a S.live.pool.n t2a)).setCell ⟨w.heap.size + 1 + 1, 1, none⟩ (.slice s2b S.live.pool.hn t2b)).setCell ⟨w.heap.size + 1 + 1, 2, none⟩ (.int .i64 S.live.time)).setCell ⟨w.heap.size + 1 + 1, 3, none⟩ (.int .i64 S.live.next)).setCell ⟨w.heap.size + 1 + 1, 4, none⟩ (.slice s2c S.live.sn t2c)).setCell ⟨w.heap.size + 1 + 1, 5, none⟩ (.slice s2d S.live.pn t2d)).heap.size ∧ ((((((w1.setCell ⟨w.heap.size + 1 + 1, 0, none⟩ (.slice s2a S.live.pool.n t2a)).setCell ⟨w.heap.size + 1 + 1, 1, none⟩ (.slice s2b S.live.pool.hn t2b)).setCell ⟨w.heap.size + 1 + 1, 2, none⟩ (.int .i64 S.live.time)).setCell ⟨w.heap.size + 1 + 1, 3, none⟩ (.int .i64 S.live.next)).setCell ⟨w.heap.size + 1 + 1, 4, none⟩ (.slice s2c S.live.sn t2c)).setCell ⟨w.heap.size + 1 + 1, 5, none⟩ (.slice s2d S.live.pn t2d)).heap.size ≤ w1.heap.size by simp only [World.size_setCell]; omega)
  have HZ0 := hideW (show w.heap.size + 3 ≤ W0.heap.size ∧ W0.heap.size ≤ w1.heap.size by omega)
  obtain ⟨⟨x0, x0'⟩, ⟨x1, x1'⟩, ⟨x2, x2'⟩, ⟨x3, x3'⟩, ⟨x4, x4'⟩, ⟨x5, x5'⟩, ⟨x6, x6'⟩, ⟨x7, x7'⟩, ⟨x8, x8'⟩, ⟨x9, x9'⟩, ⟨x10, x10'⟩, ⟨x11, x11'⟩⟩ := HX.out.below hb1
  obtain ⟨⟨z0, z0'⟩, ⟨z1, z1'⟩, ⟨z2, z2'⟩, ⟨z3, z3'⟩, ⟨z4, z4'⟩, ⟨z5, z5'⟩, ⟨z6, z6'⟩, ⟨z7, z7'⟩, ⟨z8, z8'⟩, ⟨z9, z9'⟩, ⟨z10, z10'⟩, ⟨z11, z11'⟩⟩ := HZ.out.below hb1
  clear hb1 hbw HX HY HZ HS hz0 hz1 hP T1
  go_wp2_with fail
  clear x0 x0' x1 x1' x2 x2' x3 x3' x4 x4' x5 x5' x6 x6' x7 x7' x8 x8' x9 x9' x10 x10' x11 x11' z0 z0' z1 z1' z2 z2' z3 z3' z4 z4' z5 z5' z6 z6' z7 z7' z8 z8' z9 z9' z10 z10' z11 z11'
  generalize ((((((w1.setCell ⟨w.heap.size + 1 + 1, 0, none⟩ (.slice s2a S.live.pool.n t2a)).setCell ⟨w.heap.size + 1 + 1, 1, none⟩ (.slice s2b S.live.pool.hn t2b)).setCell ⟨w.heap.size + 1 + 1, 2, none⟩ (.int .i64 S.live.time)).setCell ⟨w.heap.size + 1 + 1, 3, none⟩ (.int .i64 S.live.next)).setCell ⟨w.heap.size + 1 + 1, 4, none⟩ (.slice s2c S.live.sn t2c)).setCell ⟨w.heap.size + 1 + 1, 5, none⟩ (.slice s2d S.live.pn t2d)) = W1 at HP1 HX1 HY1 HZ1 HS1 hB1 ⊢
  refine (toWorld_any _ _ _ _ lo hi S.safe W1 (H.out.safe.below hB1) (by omega)).mono ?_
  rintro e w2 ⟨x0, x1, x2, x3, rfl, hQ, hb2⟩
  obtain ⟨s3a, t3a, s3b, t3b, s3c, t3c, s3d, t3d, rfl, rfl, rfl, rfl⟩ := hQ.form
  have HP2 := hideW (HP1.out.below hb2)
  have HX2 := hideW (HX1.out.below hb2)
  have HY2 := hideW (HY1.out.below hb2)
  have HZ2 := hideW (HZ1.out.below hb2)
  have HQ2 := hideW hQ
  have hB2 := below_next hB1 hb2
  have HZ02 := hideW (show W1.heap.size ≤ w2.heap.size from hb2.size)
  clear hb2 hB1 HX1 HY1 HZ1 HP1 hQ
  obtain ⟨⟨y0, y0'⟩, ⟨y1, y1'⟩, ⟨y2, y2'⟩, ⟨y3, y3'⟩, ⟨y4, y4'⟩, ⟨y5, y5'⟩, ⟨y6, y6'⟩, ⟨y7, y7'⟩, ⟨y8, y8'⟩, ⟨y9, y9'⟩, ⟨y10, y10'⟩, ⟨y11, y11'⟩⟩ := HY2.out
  obtain ⟨⟨z0, z0'⟩, ⟨z1, z1'⟩, ⟨z2, z2'⟩, ⟨z3, z3'⟩, ⟨z4, z4'⟩, ⟨z5, z5'⟩, ⟨z6, z6'⟩, ⟨z7, z7'⟩, ⟨z8, z8'⟩, ⟨z9, z9'⟩, ⟨z10, z10'⟩, ⟨z11, z11'⟩⟩ := HZ2.out
  go_wp2
  have hs1 := HS1.out
  have hz0 := HZ0.out
  have hz2 := HZ02.out
  have T3 := Turned.put12b w2 (w.heap.size + 1 + 1) (.slice s3a S.safe.pool.n t3a) (.slice s3b S.safe.pool.hn t3b) (.int .i64 S.safe.time) (.int .i64 S.safe.next) (.slice s3c S.safe.sn t3c) (.slice s3d S.safe.pn t3d)
  have HR := (HY2.out.turned T3 (fun e => absurd e (by omega))).put (.slice s2a S.live.pool.n t2a) (.slice s2b S.live.pool.hn t2b) (.int .i64 S.live.time) (.int .i64 S.live.next) (.slice s2c S.live.sn t2c) (.slice s2d S.live.pn t2d) (.slice s3a S.safe.pool.n t3a) (.slice s3b S.safe.pool.hn t3b) (.int .i64 S.safe.time) (.int .i64 S.safe.next) (.slice s3c S.safe.sn t3c) (.slice s3d S.safe.pn t3d)
  have T4 := Turned.put12 (((((((w2.setCell ⟨w.heap.size + 1 + 1, 6, none⟩ (.slice s3a S.safe.pool.n t3a)).setCell ⟨w.heap.size + 1 + 1, 7, none⟩ (.slice s3b S.safe.pool.hn t3b)).setCell ⟨w.heap.size + 1 + 1, 8, none⟩ (.int .i64 S.safe.time)).setCell ⟨w.heap.size + 1 + 1, 9, none⟩ (.int .i64 S.safe.next)).setCell ⟨w.heap.size + 1 + 1, 10, none⟩ (.slice s3c S.safe.sn t3c)).setCell ⟨w.heap.size + 1 + 1, 11, none⟩ (.slice s3d S.safe.pn t3d))) (w.heap.size + 1) (.slice s2a S.live.pool.n t2a) (.slice s2b S.live.pool.hn t2b) (.int .i64 S.live.time) (.int .i64 S.live.next) (.slice s2c S.live.sn t2c) (.slice s2d S.live.pn t2d) (.slice s3a S.safe.pool.n t3a) (.slice s3b S.safe.pool.hn t3b) (.int .i64 S.safe.time) (.int .i64 S.safe.next) (.slice s3c S.safe.sn t3c) (.slice s3d S.safe.pn t3d)
  have TT := (T3.mono (T := fun k => k = w.heap.size + 1 ∨ k = w.heap.size + 1 + 1) (fun k e => Or.inr e)).trans (T4.mono (fun k e => Or.inl e))
  refine bodyPost_ret (v := .agg #[.slice s2a S.live.pool.n t2a, .slice s2b S.live.pool.hn t2b, .int .i64 S.live.time, .int .i64 S.live.next, .slice s2c S.live.sn t2c, .slice s2d S.live.pn t2d, .slice s3a S.safe.pool.n t3a, .slice s3b S.safe.pool.hn t3b, .int .i64 S.safe.time, .int .i64 S.safe.next, .slice s3c S.safe.sn t3c, .slice s3d S.safe.pn t3d]) (by simp [results, Tryz.results46, go_sem, HR.1.1, HR.2.1.1, HR.2.2.1.1, HR.2.2.2.1.1, HR.2.2.2.2.1.1, HR.2.2.2.2.2.1.1, HR.2.2.2.2.2.2.1.1, HR.2.2.2.2.2.2.2.1.1, HR.2.2.2.2.2.2.2.2.1.1, HR.2.2.2.2.2.2.2.2.2.1.1, HR.2.2.2.2.2.2.2.2.2.2.1.1, HR.2.2.2.2.2.2.2.2.2.2.2.1]) rfl ⟨_, _, _, _, _, _, _, _, rfl, ?_, ?_⟩
  · refine ⟨W0.heap.size, w1.heap.size, W1.heap.size, w2.heap.size, HP2.out.turned TT (fun k e => by omega), HQ2.out.turned TT (fun k e => by omega), by omega, ?_, by omega, ?_, Or.inl (by omega)⟩
    · simp only [World.size_setCell]; omega
    · simp only [World.size_setCell]; omega
  · exact hB2.trans (TT.below (B := w.heap.size) (by omega) (fun k e => by omega))

section
variable {H : Type} {enc : TypeId × Value → H} {W : World} {spare : Nat → Bool} {held : Bool}
open Go.Deep Go.Joins Go.ChangeShapes Go.WideShapes Go.ChangeAt
set_option maxRecDepth 100000
theorem array12w {α : Type} {cs : Array α} (h : cs.size = 12) : ∃ c0 c1 c2 c3 c4 c5 c6 c7 c8 c9 c10 c11, cs = #[c0, c1, c2, c3, c4, c5, c6, c7, c8, c9, c10, c11] := by
  obtain ⟨l⟩ := cs
  match l, h with
  | [c0, c1, c2, c3, c4, c5, c6, c7, c8, c9, c10, c11], _ => exact ⟨c0, c1, c2, c3, c4, c5, c6, c7, c8, c9, c10, c11, rfl⟩
theorem open_world_cells {fuel : Nat} {c0 c1 c2 c3 c4 c5 : Value} {x : DataW H × List MemPlace} (hf' : DataW.trod enc Tryz.prog W 0 spare held fuel 29 [c0, c1, c2, c3, c4, c5] = some x) : ∃ D, c2 = .int .i64 D.time ∧ c3 = .int .i64 D.next ∧ WorldAt W 0 W.heap.size c0 c1 c4 c5 D ∧ WorldWf D := by
  obtain ⟨n0, y0, h0⟩ := field_of (t := 29) (T := 25) (o := 0) (c := 2) (i := 0) (by kernel_rfl) (by kernel_rfl) (by kernel_rfl) hf'
  obtain ⟨n1, y1, h1⟩ := field_of (t := 29) (T := 2) (o := 2) (c := 1) (i := 1) (by kernel_rfl) (by kernel_rfl) (by kernel_rfl) hf'
  obtain ⟨n2, y2, h2⟩ := field_of (t := 29) (T := 2) (o := 3) (c := 1) (i := 2) (by kernel_rfl) (by kernel_rfl) (by kernel_rfl) hf'
  obtain ⟨n3, y3, h3⟩ := field_of (t := 29) (T := 26) (o := 4) (c := 1) (i := 3) (by kernel_rfl) (by kernel_rfl) (by kernel_rfl) hf'
  obtain ⟨n4, y4, h4⟩ := field_of (t := 29) (T := 27) (o := 5) (c := 1) (i := 4) (by kernel_rfl) (by kernel_rfl) (by kernel_rfl) hf'
  obtain ⟨p, hp⟩ := open_pool_cells (c0 := c0) (c1 := c1) (by simpa using h0)
  obtain ⟨z1, e1, -, w1⟩ := DataW.trod_int (show Tryz.prog.underlying 2 = some (.int .i64) by kernel_rfl) h1
  obtain ⟨z2, e2, -, w2⟩ := DataW.trod_int (show Tryz.prog.underlying 2 = some (.int .i64) by kernel_rfl) h2
  obtain ⟨sn, f, hS, hSw⟩ := open_sets_at (v := c4) (by simpa using h3)
  obtain ⟨pn, g, hP, hPw⟩ := open_snaps_at (v := c5) (by simpa using h4)
  exact ⟨⟨p, z1, z2, sn, f, pn, g⟩, by simpa using e1, by simpa using e2, ⟨hp, hS, hP⟩, ⟨w1, w2, hSw, hPw⟩⟩
theorem open_store {r : Reach} {b0 : Nat} {v : Value} {d : DataW H} {ps : List MemPlace} (hv : Value.okWide Tryz.prog W r b0 66 v) (h : DataW.Trod enc Tryz.prog W 0 spare held 66 v d ps) :
    ∃ v0 v1 v2 v3 u0 u1 u2 u3 D, v = storeV v0 v1 v2 v3 u0 u1 u2 u3 D ∧ StoreAt W 0 W.heap.size v0 v1 v2 v3 u0 u1 u2 u3 D ∧ WorldWf D.live ∧ WorldWf D.safe := by
  have hs : Tryz.prog.underlying 66 = some (.struct (Tryz.prog.fieldsOf 66)) := by kernel_rfl
  obtain ⟨cs, rfl, hsz⟩ := okWide_struct hs hv
  obtain ⟨c0, c1, c2, c3, c4, c5, c6, c7, c8, c9, c10, c11, rfl⟩ := array12w (hsz.trans (by kernel_rfl))
  obtain ⟨fuel, hf⟩ := h
  have hf' : DataW.trod enc Tryz.prog W 0 spare held fuel 66 [c0, c1, c2, c3, c4, c5, c6, c7, c8, c9, c10, c11] = some (d, ps) := by simpa [Value.cells] using hf
  obtain ⟨n0, y0, h0⟩ := field_of (t := 66) (T := 29) (o := 0) (c := 6) (i := 0) (by kernel_rfl) (by kernel_rfl) (by kernel_rfl) hf'
  obtain ⟨n1, y1, h1⟩ := field_of (t := 66) (T := 29) (o := 6) (c := 6) (i := 1) (by kernel_rfl) (by kernel_rfl) (by kernel_rfl) hf'
  obtain ⟨D, e1, e2, hD, hw⟩ := open_world_cells (c0 := c0) (c1 := c1) (c2 := c2) (c3 := c3) (c4 := c4) (c5 := c5) (by simpa using h0)
  obtain ⟨E, e3, e4, hE, hw'⟩ := open_world_cells (c0 := c6) (c1 := c7) (c2 := c8) (c3 := c9) (c4 := c10) (c5 := c11) (by simpa using h1)
  subst e1 e2 e3 e4
  exact ⟨c0, c1, c4, c5, c6, c7, c10, c11, ⟨D, E⟩, rfl, ⟨hD, hE⟩, hw, hw'⟩
end

end Go.Proofs.YtjpbmpjddbekgaaGreat
