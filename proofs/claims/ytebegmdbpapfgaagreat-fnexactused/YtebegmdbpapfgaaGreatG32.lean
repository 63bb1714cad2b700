/- What impl.Used and spec.Used answer. -/
import Derived.Test.YtebegmdbpapfgaaGreatG31
import Derived.Test.YtebegmdbpapfgaaGreatG30
import Derived.Test.YtebegmdbpapfgaaGreatG17
import Derived.Test.YtebegmdbpapfgaaGreatG24
namespace Go.Proofs.YtebegmdbpapfgaaGreat
open Go.RowKit Go.Maps
set_option linter.unusedVariables false

theorem cntNot_all (l : List (Int × Int)) : cntNot (fun _ => False) l = l.length := by
  unfold cntNot
  simp
open Classical in
/-- How many slots the set of a name has. -/
noncomputable def usedAns (W : WorldD) (x : ByteArray) : Nat := if SpecW W then (treeL W.pool (setAt W x).rs (setAt W x).rb).length else 0
theorem treeL_zero (p : PoolD) : treeL p 0 0 = [] := by
  unfold treeL
  exact if_pos ⟨rfl, rfl⟩
theorem usedAns_no {W : WorldD} {x : ByteArray} (h : ¬ SpecW W) : usedAns W x = 0 := if_neg h
theorem usedAns_yes {W : WorldD} {x : ByteArray} (h : SpecW W) : usedAns W x = (treeL W.pool (setAt W x).rs (setAt W x).rb).length := if_pos h
theorem usedAns_zero {W : WorldD} {x : ByteArray} (h : SpecW W → setAt W x = zeroSetD) : usedAns W x = 0 := by
  by_cases hS : SpecW W
  · rw [usedAns_yes hS, h hS]
    show (treeL W.pool 0 0).length = 0
    rw [treeL_zero]; rfl
  · exact usedAns_no hS
theorem setAt_ok {W : WorldD} (h : SpecW W) (x : ByteArray) : TreeOk W.pool (setAt W x).rs (setAt W x).rb := by
  by_cases hx : ∃ k, SetNo W x k
  · obtain ⟨k, hk⟩ := hx
    rw [setAt_at hk]
    exact (h.sets k hk.1).1
  · have e : setAt W x = zeroSetD := by unfold setAt; rw [dif_neg hx]
    rw [e]
    exact Or.inl ⟨rfl, rfl⟩
theorem setAt_long {W : WorldD} {x : ByteArray} (h : 8000 < x.size) (hS : SpecW W) : setAt W x = zeroSetD := by
  refine setAt_no (fun k hk e => ?_)
  have := (hS.names.2.2.2.2.1 k hk).1.2.1
  rw [e] at this
  omega

set_option maxRecDepth 20000 in
set_option maxHeartbeats 400000 in
theorem whoHas_none (v0 v1 v2 v3 : Value) (W : WorldD) (w : World) : Calls Tryz.prog 79 #[worldV v0 v1 v2 v3 W, .slice none 0 0] w (HasPost (fun _ => False) w) := by
  have ha1 := below_alloc w (.cells #[v0, v1, .int .i64 W.time, .int .i64 W.next, v2, v3] 38)
  have hz1 : (w.alloc (.cells #[v0, v1, .int .i64 W.time, .int .i64 W.next, v2, v3] 38)).heap.size = w.heap.size + 1 := World.size_alloc _ _
  have hm := World.ownsMap_made (w.alloc (.cells #[v0, v1, .int .i64 W.time, .int .i64 W.next, v2, v3] 38)) Tryz.prog 58 rawE
  rw [hz1] at hm
  have ha2 := below_next ha1 (below_alloc _ (.map #[] 0))
  have hz2 : ((w.alloc (.cells #[v0, v1, .int .i64 W.time, .int .i64 W.next, v2, v3] 38)).alloc (.map #[] 0)).heap.size = w.heap.size + 2 := by rw [World.size_alloc, hz1]
  have ha3 := below_alloc ((w.alloc (.cells #[v0, v1, .int .i64 W.time, .int .i64 W.next, v2, v3] 38)).alloc (.map #[] 0)) (.cells #[.map (some (w.heap.size + 1))] 114)
  have hc : Cell (((w.alloc (.cells #[v0, v1, .int .i64 W.time, .int .i64 W.next, v2, v3] 38)).alloc (.map #[] 0)).alloc (.cells #[.map (some (w.heap.size + 1))] 114)) (w.heap.size + 2) 0 (.map (some (w.heap.size + 1))) := by
    have := cell_of_block (i := 0) (heap_alloc_new ((w.alloc (.cells #[v0, v1, .int .i64 W.time, .int .i64 W.next, v2, v3] 38)).alloc (.map #[] 0)) (.cells #[.map (some (w.heap.size + 1))] 114)) rfl
    rw [hz2] at this
    exact this
  have HC := hideW hc
  have HM := hideW (hm.kept (grown_of_below ha3 none) (by simp))
  have HB := hideW (below_next ha2 ha3)
  have HZ := hideW (show (((w.alloc (.cells #[v0, v1, .int .i64 W.time, .int .i64 W.next, v2, v3] 38)).alloc (.map #[] 0)).alloc (.cells #[.map (some (w.heap.size + 1))] 114)).heap.size = w.heap.size + 3 by rw [World.size_alloc, hz2])
  clear hm ha1 ha2 ha3 hc hz2
  have hmm := @run_makeMap Tryz.prog
  go_enter Tryz.func79, Tryz.ntmps79
  go_wp2
  generalize ((w.alloc (.cells #[v0, v1, .int .i64 W.time, .int .i64 W.next, v2, v3] 38)).alloc (.map #[] 0)).alloc (.cells #[.map (some (w.heap.size + 1))] 114) = W3 at HC HM HB HZ ⊢
  go_loopw [13] (fun i wr => i = .int .i64 0 ∧ wr = W3) (fun _ _ => 0)
  case atStart => exact ⟨rfl, rfl⟩
  case round =>
    obtain ⟨rfl, rfl⟩ := hrel
    obtain ⟨c0, -⟩ := HC.out
    go_wp2
    go_ret
    exact ⟨_, _, _, rfl, HM.out, by omega, by have := HZ.out; omega, fun s b kl _ => ⟨0, rfl, by simp⟩, HB.out⟩

end Go.Proofs.YtebegmdbpapfgaaGreat

namespace Go.Proofs.YtebegmdbpapfgaaGreat
open Go.RowKit Go.Maps
set_option linter.unusedVariables false

set_option maxRecDepth 20000 in
set_option maxHeartbeats 1000000 in
theorem specUsed_any (v0 v1 v2 v3 : Value) (lo hi : Nat) (W : WorldD) (x : ByteArray) (w : World) (h : WorldAt w lo hi v0 v1 v2 v3 W) (hsx : x.size ≤ maxLen) : Calls Tryz.prog 9 #[worldV v0 v1 v2 v3 W, .string x] w fun e w' => e = .returned (.int .i64 (usedAns W x)) ∧ Below w.heap.size w w' := by
  have Hp := hideW h
  obtain ⟨m1, al, cl, rfl, ml, -⟩ := id h.sets
  clear h
  unfold maxLen at m1
  have hbw := below_alloc w (.cells #[v0, v1, .int .i64 W.time, .int .i64 W.next, .slice al W.sn cl, v3] 38)
  have HX := hideW (Box6.new w v0 v1 (.int .i64 W.time) (.int .i64 W.next) (.slice al W.sn cl) v3 38)
  obtain ⟨⟨x0, -⟩, ⟨x1, -⟩, ⟨x2, -⟩, ⟨x3, -⟩, ⟨x4, -⟩, ⟨x5, -⟩⟩ := HX.out
  go_enter Tryz.func9, Tryz.ntmps9
  go_wp2_with fail
  generalize w.alloc (.cells #[v0, v1, .int .i64 W.time, .int .i64 W.next, .slice al W.sn cl, v3] 38) = W0 at HX hbw x0 x1 x2 x3 x4 x5 ⊢
  refine (l04Set_any _ _ _ _ lo hi W x W0 (Hp.out.below hbw)).mono ?_
  rintro e w1 ⟨r, rfl, hr, hb1⟩
  have hB1 := below_next hbw hb1
  have HX1 := hideW (HX.out.below hb1)
  clear x0 x1 x2 x3 x4 x5 hb1 hbw HX
  by_cases hbig : 8000 < x.size
  · have hbig' : (8000 : Int) < (x.size : Int) := by omega
    have HA := hideW (show usedAns W x = 0 from usedAns_zero (setAt_long hbig))
    clear hr
    go_wp2
    go_ret
    exact ⟨by rw [HA.out]; rfl, hB1⟩
  have hbig' : ¬ (8000 : Int) < (x.size : Int) := by omega
  unfold maxLen at hsx
  rcases hr with ⟨k, hk, hke, hkl, rfl⟩ | ⟨hno, rfl⟩
  rotate_left
  · have HA := hideW (show usedAns W x = 0 from usedAns_zero (fun _ => setAt_no hno))
    clear hno
    go_wp2
    go_ret
    exact ⟨by rw [HA.out]; rfl, hB1⟩
  · have Hno := hideW (show SetNo W x k from ⟨hk, hke, hkl⟩)
    have hk' : (k : Int) < (W.sn : Int) := by omega
    clear hke hkl
    obtain ⟨⟨x0, -⟩, ⟨x1, -⟩, ⟨x2, -⟩, ⟨x3, -⟩, ⟨x4, -⟩, ⟨x5, -⟩⟩ := HX1.out
    go_wp2_with fail
    refine (specWorldRight_any _ _ _ _ lo hi W w1 (Hp.out.below hB1)).mono ?_
    rintro e w2 ⟨⟨t, rfl, ht⟩, hb2⟩
    have Ht := hideW ht
    have hB2 := below_next hB1 hb2
    have HX2 := hideW (HX1.out.below hb2)
    clear ht x0 x1 x2 x3 x4 x5 hb2 hB1 HX1
    cases t
    · have HA := hideW (show usedAns W x = 0 from usedAns_no (fun h => absurd (Ht.out.2 h) (by simp)))
      go_wp2
      go_ret
      exact ⟨by rw [HA.out]; rfl, hB2⟩
    · have HS := hideW (Ht.out.1 rfl)
      have HA := hideW (show usedAns W x = (treeL W.pool (W.sets k).rs (W.sets k).rb).length by rw [usedAns_yes HS.out, setAt_at Hno.out])
      obtain ⟨b, off, vd, rfl, hs⟩ := (Hp.out.sets.below hB2).cells hk
      have q3 := hs.c3
      have q4 := hs.c4
      have Hs := hideW hs
      clear hs
      obtain ⟨⟨x0, -⟩, ⟨x1, -⟩, ⟨x2, -⟩, ⟨x3, -⟩, ⟨x4, -⟩, ⟨x5, -⟩⟩ := HX2.out
      have hlen : (treeL W.pool (W.sets k).rs (W.sets k).rb).length ≤ 73 := by
        have := treeQ_len W.pool (W.sets k).rs (W.sets k).rb
        rw [← treeQ_snd, List.length_map]
        exact this
      go_wp2_with fail
      go_region_held3 (fun w' => w'.cell? ⟨w.heap.size, 0, none⟩ = some v0 ∧ w'.cell? ⟨w.heap.size, 1, none⟩ = some v1 ∧ w'.cell? ⟨w.heap.size, 4, none⟩ = some (.slice (some ⟨b, off, none⟩) W.sn cl) ∧ w'.cell? ⟨b, off + k * 6 + 3, none⟩ = some (.int .i64 (W.sets k).rs) ∧ w'.cell? ⟨b, off + k * 6 + 3 + 1, none⟩ = some (.int .i64 (W.sets k).rb)) (go_keep)
        (first
          | (go_at_call 30; refine (l02Ptrs_any _ _ lo hi W.pool _ _ _ (((Hp.out.below hB2).pool).below (Below.refl _ _).drew) HS.out.right (HS.out.sets k hk).1).mono ?_; rintro e w3 ⟨v, rfl, hrow, hb3⟩; have hb3' := below_undrew hb3; obtain ⟨a3, c3, rfl, -⟩ := owns_form hrow; obtain ⟨⟨z0, -⟩, ⟨z1, -⟩, ⟨z2, -⟩, ⟨z3, -⟩, ⟨z4, -⟩, ⟨z5, -⟩⟩ := HX2.out.below hb3'; have p3 := (Hs.out.below hb3').c3; have p4 := (Hs.out.below hb3').c4))
      go_wp2
      go_ret
      exact ⟨by rw [HA.out]; rfl, below_next hB2 hb3'⟩

end Go.Proofs.YtebegmdbpapfgaaGreat

namespace Go.Proofs.YtebegmdbpapfgaaGreat
open Go.RowKit Go.Maps
set_option linter.unusedVariables false

theorem fieldRoot (v : Value) (s : SetD) (w : World) : (Instr.field 60 (setV v s) 3).run Tryz.prog w = .ok (.agg #[.int .i64 s.rs, .int .i64 s.rb]) w := by kernel_rfl
theorem sets_run {w : World} {W : WorldD} {M : Nat} {vd : Nat → Value} (h : SetsMap w W M W.sn vd) {x : ByteArray} (hx : x.size ≤ maxLen) {v : Value} (hat : (putD (fun i => keyS (W.sets i).name) (fun i => setV (vd i) (W.sets i)) W.sn).atKey (keyS x) (.held (.agg #[.string ⟨#[]⟩, .int .i64 0, .int .i64 0, .int .i64 0, .int .i64 0, .slice none 0 0])) = .held v) :
    (Instr.lookup 65 (.map (some M)) (.string x) false).run Tryz.prog w = .ok v w := by
  obtain ⟨v', ps, hrun, hv⟩ := World.ownsMap.lookup h lawS setsT (zeroSetV w) (rawE_mk _) (keyS_of hx)
  have e1 := rawE_inv hv
  rw [hat] at e1
  have e2 := DataW.held.inj e1
  rw [e2]
  exact hrun

set_option maxRecDepth 20000 in
set_option maxHeartbeats 1000000 in
theorem implUsed_any (v0 v1 v2 v3 : Value) (lo hi : Nat) (W : WorldD) (x : ByteArray) (w : World) (h : WorldAt w lo hi v0 v1 v2 v3 W) (hh : hi ≤ w.heap.size) (hwf : PrevsWf W) (hx : x.size ≤ maxLen) : Calls Tryz.prog 11 #[worldV v0 v1 v2 v3 W, .string x] w fun e w' => e = .returned (.int .i64 (usedAns W x)) ∧ Below w.heap.size w w' := by
  have Hp := hideW h
  have Hwf := hideW hwf
  have Hx := hideW hx
  clear h hwf hx
  have hbw := below_alloc w (.cells #[v0, v1, .int .i64 W.time, .int .i64 W.next, v2, v3] 38)
  have HX := hideW (Box6.new w v0 v1 (.int .i64 W.time) (.int .i64 W.next) v2 v3 38)
  obtain ⟨⟨x0, -⟩, ⟨x1, -⟩, ⟨x2, -⟩, ⟨x3, -⟩, ⟨x4, -⟩, ⟨x5, -⟩⟩ := HX.out
  go_enter Tryz.func11, Tryz.ntmps11
  go_wp2_with fail
  generalize w.alloc (.cells #[v0, v1, .int .i64 W.time, .int .i64 W.next, v2, v3] 38) = W0 at HX hbw x0 x1 x2 x3 x4 x5 ⊢
  refine (implWorldRight_any v0 v1 v2 v3 lo hi W W0 (Hp.out.below hbw) Hwf.out).mono ?_
  rintro e w1 ⟨⟨t, rfl, ht⟩, hb1⟩
  have Ht := hideW (ht.trans (world_iff W))
  have hB1 := below_next hbw hb1
  have HX1 := hideW (HX.out.below hb1)
  clear x0 x1 x2 x3 x4 x5 hb1 hbw HX ht
  cases t
  · have HA := hideW (show usedAns W x = 0 from usedAns_no (fun h => absurd (Ht.out.2 h) (by simp)))
    go_wp2
    go_ret
    exact ⟨by rw [HA.out]; rfl, hB1⟩
  · have HW := hideW (Ht.out.1 rfl)
    have HA := hideW (show usedAns W x = cntNot (fun _ => False) (treeL W.pool (setAt W x).rs (setAt W x).rb) by rw [usedAns_yes HW.out, cntNot_all])
    have HT := hideW (setAt_ok HW.out x)
    have hf := fieldRoot
    obtain ⟨⟨x0, -⟩, ⟨x1, -⟩, ⟨x2, -⟩, ⟨x3, -⟩, ⟨x4, -⟩, ⟨x5, -⟩⟩ := HX1.out
    go_wp2_with fail
    go_region_held3 (fun w' => w'.cell? ⟨w.heap.size, 0, none⟩ = some v0 ∧ w'.cell? ⟨w.heap.size, 1, none⟩ = some v1 ∧ w'.cell? ⟨w.heap.size, 2, none⟩ = some (.int .i64 W.time) ∧ w'.cell? ⟨w.heap.size, 3, none⟩ = some (.int .i64 W.next) ∧ w'.cell? ⟨w.heap.size, 4, none⟩ = some v2 ∧ w'.cell? ⟨w.heap.size, 5, none⟩ = some v3) (go_keep)
      (first
        | (go_at_call 36; refine (setsByName_any v0 v1 v2 v3 lo hi W _ ((Hp.out.below hB1).below (Below.refl _ _).drew) HW.out.names.2.2.1).mono ?_; rintro e w2 ⟨vd, rfl, hm, hd, hb2⟩; have hb2' := below_undrew hb2; obtain ⟨a, c, hat, hp⟩ := setNames_look (HW.out.names.dist) hd x; have hlk := sets_run (M := w1.heap.size + 1) hm Hx.out hat; obtain ⟨⟨z0, -⟩, ⟨z1, -⟩, ⟨z2, -⟩, ⟨z3, -⟩, ⟨z4, -⟩, ⟨z5, -⟩⟩ := HX1.out.below hb2')
        | (go_at_call 35; refine (countOwn_any v0 v1 v2 v3 lo hi W _ _ _ (fun _ => False) _ ((Hp.out.below hB1).below hb2') (by have := hb2'.size; have := hB1.size; omega) HW.out.right HT.out (fun w' _ => whoHas_none v0 v1 v2 v3 W w')).mono ?_; rintro e w3 ⟨rfl, hb3⟩; have hb3' := below_next hb2' hb3; obtain ⟨⟨k0, -⟩, ⟨k1, -⟩, ⟨k2, -⟩, ⟨k3, -⟩, ⟨k4, -⟩, ⟨k5, -⟩⟩ := HX1.out.below hb3'))
    go_wp2
    go_ret
    exact ⟨by rw [HA.out]; rfl, below_next hB1 hb3'⟩

end Go.Proofs.YtebegmdbpapfgaaGreat
