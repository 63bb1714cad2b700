/- What impl.pairOf answers. -/
import Derived.Test.YtjpbmpjddbekgaaGreatG59
import Derived.Test.YtjpbmpjddbekgaaGreatG1
import Derived.Test.YtjpbmpjddbekgaaGreatG37
import Derived.Test.YtjpbmpjddbekgaaGreatG16
import Derived.Test.YtjpbmpjddbekgaaGreatG22
import Derived.Test.YtjpbmpjddbekgaaGreatG23
namespace Go.Proofs.YtjpbmpjddbekgaaGreat
open Go.RowKit Go.Maps
set_option linter.unusedVariables false
set_option maxRecDepth 20000 in
set_option maxHeartbeats 400000 in
theorem pairOf_any (v0 v1 v2 v3 u0 u1 u2 u3 : Value) (lo hi : Nat) (S : StoreD) (w : World) (h : StoreAt w lo hi v0 v1 v2 v3 u0 u1 u2 u3 S) :
    Calls Tryz.prog 103 #[storeV v0 v1 v2 v3 u0 u1 u2 u3 S] w fun e w' => e = .returned (storeV v0 v1 v2 v3 u0 u1 u2 u3 S) ∧ Below w.heap.size w w' := by
  obtain ⟨s0a, t0a, s0b, t0b, s0c, t0c, s0d, t0d, rfl, rfl, rfl, rfl⟩ := h.live.form
  obtain ⟨s1a, t1a, s1b, t1b, s1c, t1c, s1d, t1d, rfl, rfl, rfl, rfl⟩ := h.safe.form
  clear h
  have ha := below_alloc w (.cells #[.slice s0a S.live.pool.n t0a, .slice s0b S.live.pool.hn t0b, .int .i64 S.live.time, .int .i64 S.live.next, .slice s0c S.live.sn t0c, .slice s0d S.live.pn t0d, .slice s1a S.safe.pool.n t1a, .slice s1b S.safe.pool.hn t1b, .int .i64 S.safe.time, .int .i64 S.safe.next, .slice s1c S.safe.sn t1c, .slice s1d S.safe.pn t1d] 70)
  have hb := below_alloc (w.alloc (.cells #[.slice s0a S.live.pool.n t0a, .slice s0b S.live.pool.hn t0b, .int .i64 S.live.time, .int .i64 S.live.next, .slice s0c S.live.sn t0c, .slice s0d S.live.pn t0d, .slice s1a S.safe.pool.n t1a, .slice s1b S.safe.pool.hn t1b, .int .i64 S.safe.time, .int .i64 S.safe.next, .slice s1c S.safe.sn t1c, .slice s1d S.safe.pn t1d] 70)) (.cells #[.slice s0a S.live.pool.n t0a, .slice s0b S.live.pool.hn t0b, .int .i64 S.live.time, .int .i64 S.live.next, .slice s0c S.live.sn t0c, .slice s0d S.live.pn t0d, .slice s1a S.safe.pool.n t1a, .slice s1b S.safe.pool.hn t1b, .int .i64 S.safe.time, .int .i64 S.safe.next, .slice s1c S.safe.sn t1c, .slice s1d S.safe.pn t1d] 133)
  obtain ⟨⟨x0, -⟩, ⟨x1, -⟩, ⟨x2, -⟩, ⟨x3, -⟩, ⟨x4, -⟩, ⟨x5, -⟩, ⟨x6, -⟩, ⟨x7, -⟩, ⟨x8, -⟩, ⟨x9, -⟩, ⟨x10, -⟩, ⟨x11, -⟩⟩ := Box12.new w (.slice s0a S.live.pool.n t0a) (.slice s0b S.live.pool.hn t0b) (.int .i64 S.live.time) (.int .i64 S.live.next) (.slice s0c S.live.sn t0c) (.slice s0d S.live.pn t0d) (.slice s1a S.safe.pool.n t1a) (.slice s1b S.safe.pool.hn t1b) (.int .i64 S.safe.time) (.int .i64 S.safe.next) (.slice s1c S.safe.sn t1c) (.slice s1d S.safe.pn t1d) 70
  have hy := Box12.new (w.alloc (.cells #[.slice s0a S.live.pool.n t0a, .slice s0b S.live.pool.hn t0b, .int .i64 S.live.time, .int .i64 S.live.next, .slice s0c S.live.sn t0c, .slice s0d S.live.pn t0d, .slice s1a S.safe.pool.n t1a, .slice s1b S.safe.pool.hn t1b, .int .i64 S.safe.time, .int .i64 S.safe.next, .slice s1c S.safe.sn t1c, .slice s1d S.safe.pn t1d] 70)) (.slice s0a S.live.pool.n t0a) (.slice s0b S.live.pool.hn t0b) (.int .i64 S.live.time) (.int .i64 S.live.next) (.slice s0c S.live.sn t0c) (.slice s0d S.live.pn t0d) (.slice s1a S.safe.pool.n t1a) (.slice s1b S.safe.pool.hn t1b) (.int .i64 S.safe.time) (.int .i64 S.safe.next) (.slice s1c S.safe.sn t1c) (.slice s1d S.safe.pn t1d) 133
  rw [World.size_alloc] at hy
  have HR := hy
  clear hy
  go_enter Tryz.func103, Tryz.ntmps103
  go_wp2
  refine bodyPost_ret (v := .agg #[.slice s0a S.live.pool.n t0a, .slice s0b S.live.pool.hn t0b, .int .i64 S.live.time, .int .i64 S.live.next, .slice s0c S.live.sn t0c, .slice s0d S.live.pn t0d, .slice s1a S.safe.pool.n t1a, .slice s1b S.safe.pool.hn t1b, .int .i64 S.safe.time, .int .i64 S.safe.next, .slice s1c S.safe.sn t1c, .slice s1d S.safe.pn t1d]) (by simp [results, Tryz.results103, go_sem, HR.1.1, HR.2.1.1, HR.2.2.1.1, HR.2.2.2.1.1, HR.2.2.2.2.1.1, HR.2.2.2.2.2.1.1, HR.2.2.2.2.2.2.1.1, HR.2.2.2.2.2.2.2.1.1, HR.2.2.2.2.2.2.2.2.1.1, HR.2.2.2.2.2.2.2.2.2.1.1, HR.2.2.2.2.2.2.2.2.2.2.1.1, HR.2.2.2.2.2.2.2.2.2.2.2.1]) rfl ⟨rfl, ?_⟩
  exact below_next ha hb

end Go.Proofs.YtjpbmpjddbekgaaGreat

namespace Go.Proofs.YtjpbmpjddbekgaaGreat
open Go.RowKit Go.Maps
set_option linter.unusedVariables false

/-- A right store. -/
structure StoreOk (S : StoreD) : Prop where
  live : SpecW S.live
  safe : SpecW S.safe
  many : S.live.pool.n = S.safe.pool.n
  held : S.safe.pool.hn = 0
  time : S.safe.time ≤ S.live.time
  next : S.safe.next ≤ S.live.next
  slots : ∀ i, i < S.safe.pool.n → ¬ Free (S.safe.pool.s i) → SlotEq (S.safe.pool.s i) (S.live.pool.s i)

set_option maxRecDepth 20000 in
set_option maxHeartbeats 4000000 in
theorem specStoreRight_any (v0 v1 v2 v3 sv0 sv1 sv2 sv3 : Value) (lo hi : Nat) (S : StoreD) (w : World) (h : StoreAt w lo hi v0 v1 v2 v3 sv0 sv1 sv2 sv3 S) :
    Calls Tryz.prog 45 #[storeV v0 v1 v2 v3 sv0 sv1 sv2 sv3 S] w fun e w' => BoolIs (StoreOk S) e ∧ Below w.heap.size w w' := by
  have Hp := hideW h
  obtain ⟨m1, la, lc, rfl, ml, -⟩ := id h.live.pool.1
  obtain ⟨m2, sa, sc, rfl, ms, -⟩ := id h.safe.pool.1
  obtain ⟨m3, ha, hc, rfl, mh, -⟩ := id h.safe.pool.2
  unfold maxLen at m1 m2 m3
  clear h
  have hal := below_alloc w (.cells #[.slice la S.live.pool.n lc, v1, .int .i64 S.live.time, .int .i64 S.live.next, v2, v3, .slice sa S.safe.pool.n sc, .slice ha S.safe.pool.hn hc, .int .i64 S.safe.time, .int .i64 S.safe.next, sv2, sv3] 70)
  have HB := hideW (Box12.new w (.slice la S.live.pool.n lc) v1 (.int .i64 S.live.time) (.int .i64 S.live.next) v2 v3 (.slice sa S.safe.pool.n sc) (.slice ha S.safe.pool.hn hc) (.int .i64 S.safe.time) (.int .i64 S.safe.next) sv2 sv3 70)
  obtain ⟨⟨x0, -⟩, ⟨x1, -⟩, ⟨x2, -⟩, ⟨x3, -⟩, ⟨x4, -⟩, ⟨x5, -⟩, ⟨x6, -⟩, ⟨x7, -⟩, ⟨x8, -⟩, ⟨x9, -⟩, ⟨x10, -⟩, ⟨x11, -⟩⟩ := HB.out
  go_enter Tryz.func45, Tryz.ntmps45
  go_wp2_with fail
  generalize w.alloc (.cells #[.slice la S.live.pool.n lc, v1, .int .i64 S.live.time, .int .i64 S.live.next, v2, v3, .slice sa S.safe.pool.n sc, .slice ha S.safe.pool.hn hc, .int .i64 S.safe.time, .int .i64 S.safe.next, sv2, sv3] 70) = W0 at hal HB x0 x1 x2 x3 x4 x5 x6 x7 x8 x9 x10 x11 ⊢
  refine (specWorldRight_any _ _ _ _ lo hi S.live W0 (Hp.out.live.below hal)).mono ?_
  rintro e w1 ⟨⟨t, rfl, ht⟩, hb1⟩
  have Ht := hideW ht
  have hB1 := below_next hal hb1
  have HB1 := hideW (HB.out.below hb1)
  clear ht x0 x1 x2 x3 x4 x5 x6 x7 x8 x9 x10 x11 hb1 hal HB
  obtain ⟨⟨x0, -⟩, ⟨x1, -⟩, ⟨x2, -⟩, ⟨x3, -⟩, ⟨x4, -⟩, ⟨x5, -⟩, ⟨x6, -⟩, ⟨x7, -⟩, ⟨x8, -⟩, ⟨x9, -⟩, ⟨x10, -⟩, ⟨x11, -⟩⟩ := HB1.out
  cases t
  · go_wp2
    go_ret
    exact ⟨BoolIs.no fun h => absurd (Ht.out.2 h.live) (by simp), hB1⟩
  have HL := hideW (Ht.out.1 rfl)
  clear Ht
  go_wp2_with fail
  refine (specWorldRight_any _ _ _ _ lo hi S.safe w1 (Hp.out.safe.below hB1)).mono ?_
  rintro e w2 ⟨⟨t, rfl, ht⟩, hb2⟩
  have Ht := hideW ht
  have hB2 := below_next hB1 hb2
  have HB2 := hideW (HB1.out.below hb2)
  clear ht x0 x1 x2 x3 x4 x5 x6 x7 x8 x9 x10 x11 hb2 hB1 HB1
  obtain ⟨⟨x0, -⟩, ⟨x1, -⟩, ⟨x2, -⟩, ⟨x3, -⟩, ⟨x4, -⟩, ⟨x5, -⟩, ⟨x6, -⟩, ⟨x7, -⟩, ⟨x8, -⟩, ⟨x9, -⟩, ⟨x10, -⟩, ⟨x11, -⟩⟩ := HB2.out
  cases t
  · go_wp2
    go_ret
    exact ⟨BoolIs.no fun h => absurd (Ht.out.2 h.safe) (by simp), hB2⟩
  have HF := hideW (Ht.out.1 rfl)
  clear Ht
  by_cases e1 : S.live.pool.n = S.safe.pool.n
  rotate_left
  · obtain ⟨i1, i2, i3⟩ := int_spelt (show ¬ (S.live.pool.n : Int) = (S.safe.pool.n : Int) by omega)
    have H := hideW e1
    clear e1
    go_wp2
    go_ret
    exact ⟨BoolIs.no fun h => H.out h.many, hB2⟩
  obtain ⟨i1, i2, i3⟩ := int_spell (show (S.live.pool.n : Int) = (S.safe.pool.n : Int) by omega)
  have E1 := hideW e1
  clear e1
  by_cases e2 : S.safe.pool.hn = 0
  rotate_left
  · have i4 : (0 : Int) < (S.safe.pool.hn : Int) := by omega
    have H := hideW e2
    clear e2
    go_wp2
    go_ret
    exact ⟨BoolIs.no fun h => H.out h.held, hB2⟩
  have i4 : ¬ (0 : Int) < (S.safe.pool.hn : Int) := by omega
  have E2 := hideW e2
  clear e2
  by_cases e3 : S.live.time < S.safe.time
  · have H := hideW e3
    go_wp2
    go_ret
    exact ⟨BoolIs.no fun h => by have := h.time; have := H.out; omega, hB2⟩
  have E3 := hideW (show S.safe.time ≤ S.live.time by omega)
  by_cases e4 : S.live.next < S.safe.next
  · have H := hideW e4
    go_wp2
    go_ret
    exact ⟨BoolIs.no fun h => by have := h.next; have := H.out; omega, hB2⟩
  have E4 := hideW (show S.safe.next ≤ S.live.next by omega)
  go_wp2
  clear x0 x1 x2 x3 x4 x5 x6 x7 x8 x9 x10 x11 i1 i2 i3 i4 e3 e4
  go_loopw [3] (fun i wr => ∃ k : Nat, k ≤ S.safe.pool.n ∧ i = .int .i64 k ∧ (∀ j, j < k → ¬ Free (S.safe.pool.s j) → SlotEq (S.safe.pool.s j) (S.live.pool.s j)) ∧ Box12 wr w.heap.size (.slice la S.live.pool.n lc) v1 (.int .i64 S.live.time) (.int .i64 S.live.next) v2 v3 (.slice sa S.safe.pool.n sc) (.slice ha S.safe.pool.hn hc) (.int .i64 S.safe.time) (.int .i64 S.safe.next) sv2 sv3 ∧ Below w.heap.size w wr) (fun i _ => S.safe.pool.n - (intOf i).toNat)
  case atStart => exact ⟨0, Nat.zero_le _, rfl, fun j h => absurd h (Nat.not_lt_zero _), HB2.out, hB2⟩
  case round =>
    obtain ⟨k, hk, rfl, hall, hX, hb⟩ := hrel
    have Hall := hideW hall
    have HX := hideW hX
    clear hall hX
    by_cases hlt : k < S.safe.pool.n
    · have hlt' : (k : Int) < (S.safe.pool.n : Int) := by omega
      have hlt2 : k < S.live.pool.n := by have := E1.out; omega
      have hlt3 : (k : Int) < (S.live.pool.n : Int) := by omega
      obtain ⟨b, off, ka, kc, rfl, hs⟩ := (Hp.out.safe.pool.1.below hb).cells hlt
      obtain ⟨b', off', pa, pc, rfl, hs'⟩ := (Hp.out.live.pool.1.below hb).cells hlt2
      obtain ⟨q0, q1, q2, hsl⟩ := hs
      obtain ⟨r0, r1, r2, hsl'⟩ := hs'
      have hal := below_alloc wr (.cells #[.int .i64 (S.safe.pool.s k).birth, .slice ka (S.safe.pool.s k).kn kc, .string (S.safe.pool.s k).data] 84)
      have HV := hideW (Box3.new wr (.int .i64 (S.safe.pool.s k).birth) (.slice ka (S.safe.pool.s k).kn kc) (.string (S.safe.pool.s k).data) 84)
      have HXs := hideW (HX.out.below hal)
      have HSl := hideW (hsl.below hal)
      have HSl' := hideW (hsl'.below hal)
      have hbs := below_next hb hal
      have R0 := (hal.cell (lt_of_cell r0)).trans r0
      have R1 := (hal.cell (lt_of_cell r1)).trans r1
      have R2 := (hal.cell (lt_of_cell r2)).trans r2
      clear hsl hsl' r0 r1 r2
      obtain ⟨⟨x0, -⟩, ⟨x1, -⟩, ⟨x2, -⟩, ⟨x3, -⟩, ⟨x4, -⟩, ⟨x5, -⟩, ⟨x6, -⟩, ⟨x7, -⟩, ⟨x8, -⟩, ⟨x9, -⟩, ⟨x10, -⟩, ⟨x11, -⟩⟩ := HX.out
      obtain ⟨⟨z0, -⟩, ⟨z1, -⟩, ⟨z2, -⟩⟩ := HV.out
      go_wp2_with fail
      clear x0 x1 x2 x3 x4 x5 x6 x7 x8 x9 x10 x11 q0 q1 q2 hal
      generalize wr.alloc (.cells #[.int .i64 (S.safe.pool.s k).birth, .slice ka (S.safe.pool.s k).kn kc, .string (S.safe.pool.s k).data] 84) = W5 at HV HXs HSl HSl' hbs R0 R1 R2 z0 z1 z2 ⊢
      generalize wr.heap.size = V at HV z0 z1 z2 ⊢
      obtain ⟨⟨x0, -⟩, ⟨x1, -⟩, ⟨x2, -⟩, ⟨x3, -⟩, ⟨x4, -⟩, ⟨x5, -⟩, ⟨x6, -⟩, ⟨x7, -⟩, ⟨x8, -⟩, ⟨x9, -⟩, ⟨x10, -⟩, ⟨x11, -⟩⟩ := HXs.out
      by_cases hfr : Free (S.safe.pool.s k)
      · have Hfr := hideW hfr
        clear hfr
        refine wp_region_held_drew (S := (fun w' => w'.cell? ⟨w.heap.size, 0, none⟩ = some (.slice (some ⟨b', off', none⟩) S.live.pool.n lc) ∧ w'.cell? ⟨w.heap.size, 1, none⟩ = some (v1) ∧ w'.cell? ⟨w.heap.size, 2, none⟩ = some (.int .i64 S.live.time) ∧ w'.cell? ⟨w.heap.size, 3, none⟩ = some (.int .i64 S.live.next) ∧ w'.cell? ⟨w.heap.size, 4, none⟩ = some (v2) ∧ w'.cell? ⟨w.heap.size, 5, none⟩ = some (v3) ∧ w'.cell? ⟨w.heap.size, 6, none⟩ = some (.slice (some ⟨b, off, none⟩) S.safe.pool.n sc) ∧ w'.cell? ⟨w.heap.size, 7, none⟩ = some (.slice ha S.safe.pool.hn hc) ∧ w'.cell? ⟨w.heap.size, 8, none⟩ = some (.int .i64 S.safe.time) ∧ w'.cell? ⟨w.heap.size, 9, none⟩ = some (.int .i64 S.safe.next) ∧ w'.cell? ⟨w.heap.size, 10, none⟩ = some (sv2) ∧ w'.cell? ⟨w.heap.size, 11, none⟩ = some (sv3) ∧ w'.cell? ⟨V, 0, none⟩ = some (.int .i64 (S.safe.pool.s k).birth) ∧ w'.cell? ⟨V, 1, none⟩ = some (.slice ka (S.safe.pool.s k).kn kc) ∧ w'.cell? ⟨V, 2, none⟩ = some (.string (S.safe.pool.s k).data) ∧ w'.cell? ⟨b', off' + k * 3, none⟩ = some (.int .i64 (S.live.pool.s k).birth) ∧ w'.cell? ⟨b', off' + k * 3 + 1, none⟩ = some (.slice pa (S.live.pool.s k).kn pc) ∧ w'.cell? ⟨b', off' + k * 3 + 2, none⟩ = some (.string (S.live.pool.s k).data))) (by kernel_rfl) ?_ (fun hHeld => ?_)
        · (try dsimp only)
          go_keep
        refine tk 0 (h := ?_)
        refine rd [1] (rc (fun K hK => ?_) .nil)
        go_simp
        go_at_call 58
        refine (l01Free_any _ _ _ lo hi (S.safe.pool.s k) _ ?_).mono ?_
        · exact HSl.out.below (below_drewN (Below.refl _ _) 1)
        rintro e w6 ⟨⟨t6, rfl, ht6⟩, hb6⟩
        obtain rfl : t6 = true := ht6.2 Hfr.out
        clear ht6
        have hC6 : Below W5.heap.size W5 w6 := (by first | exact hb6 | exact below_undrew hb6)
        obtain ⟨⟨m0, -⟩, ⟨m1, -⟩, ⟨m2, -⟩, ⟨m3, -⟩, ⟨m4, -⟩, ⟨m5, -⟩, ⟨m6, -⟩, ⟨m7, -⟩, ⟨m8, -⟩, ⟨m9, -⟩, ⟨m10, -⟩, ⟨m11, -⟩⟩ := HXs.out.below hC6
        obtain ⟨⟨Z0, -⟩, ⟨Z1, -⟩, ⟨Z2, -⟩⟩ := HV.out.below hC6
        have RR0 := (hC6.cell (lt_of_cell R0)).trans R0
        have RR1 := (hC6.cell (lt_of_cell R1)).trans R1
        have RR2 := (hC6.cell (lt_of_cell R2)).trans R2
        (try go_wp2_with fail)
        refine hK.out _ _ (by (try dsimp only); go_keep) ?_
        clear hK K hHeld
        intro hHeld
        try simp only [Act.put, s1, s2, s3]
        refine tk 2 (h := tk 3 (h := ts 4 (h := ts 5 (h := ts 6 (h := ts 7 (h := ts 8 (h := ts 9 (h := ts 10 (h := ts 11 (h := ?_))))))))))
        refine rd [12] (rc (fun K hK => ?_) .nil)
        split
        · rename_i hwt
          exact absurd (show false = true from hwt) Bool.false_ne_true
        refine hK.out _ _ (by assumption) (fun hHeld => ?_)
        clear hK K
        try simp only [Act.put, s1, s2, s3]
        refine ts 13 (h := tk 14 (h := ?_))
        refine wpAnyH_done (by kernel_rfl) ?_ _
        go_wp2
        go_roundw
        case rel =>
          refine ⟨k + 1, by omega, by go_num, ?_, HXs.out.below hC6, below_next hbs hC6⟩
          intro j hj hn
          by_cases e : j = k
          · subst e; exact absurd Hfr.out hn
          · exact Hall.out j (by omega) hn
        case measure => simp [intOf]; omega
      · have Hfr := hideW hfr
        clear hfr
        by_cases hq : SlotEq (S.safe.pool.s k) (S.live.pool.s k)
        · have Hq := hideW hq
          clear hq
          refine wp_region_held_drew (S := (fun w' => w'.cell? ⟨w.heap.size, 0, none⟩ = some (.slice (some ⟨b', off', none⟩) S.live.pool.n lc) ∧ w'.cell? ⟨w.heap.size, 1, none⟩ = some (v1) ∧ w'.cell? ⟨w.heap.size, 2, none⟩ = some (.int .i64 S.live.time) ∧ w'.cell? ⟨w.heap.size, 3, none⟩ = some (.int .i64 S.live.next) ∧ w'.cell? ⟨w.heap.size, 4, none⟩ = some (v2) ∧ w'.cell? ⟨w.heap.size, 5, none⟩ = some (v3) ∧ w'.cell? ⟨w.heap.size, 6, none⟩ = some (.slice (some ⟨b, off, none⟩) S.safe.pool.n sc) ∧ w'.cell? ⟨w.heap.size, 7, none⟩ = some (.slice ha S.safe.pool.hn hc) ∧ w'.cell? ⟨w.heap.size, 8, none⟩ = some (.int .i64 S.safe.time) ∧ w'.cell? ⟨w.heap.size, 9, none⟩ = some (.int .i64 S.safe.next) ∧ w'.cell? ⟨w.heap.size, 10, none⟩ = some (sv2) ∧ w'.cell? ⟨w.heap.size, 11, none⟩ = some (sv3) ∧ w'.cell? ⟨V, 0, none⟩ = some (.int .i64 (S.safe.pool.s k).birth) ∧ w'.cell? ⟨V, 1, none⟩ = some (.slice ka (S.safe.pool.s k).kn kc) ∧ w'.cell? ⟨V, 2, none⟩ = some (.string (S.safe.pool.s k).data) ∧ w'.cell? ⟨b', off' + k * 3, none⟩ = some (.int .i64 (S.live.pool.s k).birth) ∧ w'.cell? ⟨b', off' + k * 3 + 1, none⟩ = some (.slice pa (S.live.pool.s k).kn pc) ∧ w'.cell? ⟨b', off' + k * 3 + 2, none⟩ = some (.string (S.live.pool.s k).data))) (by kernel_rfl) ?_ (fun hHeld => ?_)
          · (try dsimp only)
            go_keep
          refine tk 0 (h := ?_)
          refine rd [1] (rc (fun K hK => ?_) .nil)
          go_simp
          go_at_call 58
          refine (l01Free_any _ _ _ lo hi (S.safe.pool.s k) _ ?_).mono ?_
          · exact HSl.out.below (below_drewN (Below.refl _ _) 1)
          rintro e w6 ⟨⟨t6, rfl, ht6⟩, hb6⟩
          obtain rfl : t6 = false := bool_no ht6 Hfr.out
          clear ht6
          have hC6 : Below W5.heap.size W5 w6 := (by first | exact hb6 | exact below_undrew hb6)
          obtain ⟨⟨m0, -⟩, ⟨m1, -⟩, ⟨m2, -⟩, ⟨m3, -⟩, ⟨m4, -⟩, ⟨m5, -⟩, ⟨m6, -⟩, ⟨m7, -⟩, ⟨m8, -⟩, ⟨m9, -⟩, ⟨m10, -⟩, ⟨m11, -⟩⟩ := HXs.out.below hC6
          obtain ⟨⟨Z0, -⟩, ⟨Z1, -⟩, ⟨Z2, -⟩⟩ := HV.out.below hC6
          have RR0 := (hC6.cell (lt_of_cell R0)).trans R0
          have RR1 := (hC6.cell (lt_of_cell R1)).trans R1
          have RR2 := (hC6.cell (lt_of_cell R2)).trans R2
          (try go_wp2_with fail)
          refine hK.out _ _ (by (try dsimp only); go_keep) ?_
          clear hK K hHeld
          intro hHeld
          try simp only [Act.put, s1, s2, s3]
          refine tk 2 (h := tk 3 (h := tk 4 (h := tk 5 (h := tk 6 (h := tk 7 (h := tk 8 (h := tk 9 (h := tk 10 (h := tk 11 (h := ?_))))))))))
          refine rd [12] (rc (fun K hK => ?_) .nil)
          go_simp
          go_at_call 102
          refine (l07Same_any lo hi lo hi (S.safe.pool.s k) (S.live.pool.s k) ka pa kc pc _ ?_ ?_).mono ?_
          · exact HSl.out.below hC6
          · exact HSl'.out.below hC6
          rintro e w7 ⟨⟨t7, rfl, ht7⟩, hb7⟩
          obtain rfl : t7 = true := ht7.2 Hq.out
          clear ht7
          have hC7 := below_next hC6 hb7
          obtain ⟨⟨n0, -⟩, ⟨n1, -⟩, ⟨n2, -⟩, ⟨n3, -⟩, ⟨n4, -⟩, ⟨n5, -⟩, ⟨n6, -⟩, ⟨n7, -⟩, ⟨n8, -⟩, ⟨n9, -⟩, ⟨n10, -⟩, ⟨n11, -⟩⟩ := HXs.out.below hC7
          obtain ⟨⟨y0, -⟩, ⟨y1, -⟩, ⟨y2, -⟩⟩ := HV.out.below hC7
          have sq0 := (hC7.cell (lt_of_cell R0)).trans R0
          have sq1 := (hC7.cell (lt_of_cell R1)).trans R1
          have sq2 := (hC7.cell (lt_of_cell R2)).trans R2
          (try go_wp2_with fail)
          refine hK.out _ _ (by (try dsimp only); go_keep) ?_
          clear hK K hHeld
          intro hHeld
          try simp only [Act.put, s1, s2, s3]
          refine tk 13 (h := tk 14 (h := ?_))
          refine wpAnyH_done (by kernel_rfl) ?_ _
          go_wp2
          go_roundw
          case rel =>
            refine ⟨k + 1, by omega, by go_num, ?_, HXs.out.below hC7, below_next hbs hC7⟩
            intro j hj hn
            by_cases e : j = k
            · subst e; exact Hq.out
            · exact Hall.out j (by omega) hn
          case measure => simp [intOf]; omega
        · have Hq := hideW hq
          clear hq
          refine wp_region_held_drew (S := (fun w' => w'.cell? ⟨w.heap.size, 0, none⟩ = some (.slice (some ⟨b', off', none⟩) S.live.pool.n lc) ∧ w'.cell? ⟨w.heap.size, 1, none⟩ = some (v1) ∧ w'.cell? ⟨w.heap.size, 2, none⟩ = some (.int .i64 S.live.time) ∧ w'.cell? ⟨w.heap.size, 3, none⟩ = some (.int .i64 S.live.next) ∧ w'.cell? ⟨w.heap.size, 4, none⟩ = some (v2) ∧ w'.cell? ⟨w.heap.size, 5, none⟩ = some (v3) ∧ w'.cell? ⟨w.heap.size, 6, none⟩ = some (.slice (some ⟨b, off, none⟩) S.safe.pool.n sc) ∧ w'.cell? ⟨w.heap.size, 7, none⟩ = some (.slice ha S.safe.pool.hn hc) ∧ w'.cell? ⟨w.heap.size, 8, none⟩ = some (.int .i64 S.safe.time) ∧ w'.cell? ⟨w.heap.size, 9, none⟩ = some (.int .i64 S.safe.next) ∧ w'.cell? ⟨w.heap.size, 10, none⟩ = some (sv2) ∧ w'.cell? ⟨w.heap.size, 11, none⟩ = some (sv3) ∧ w'.cell? ⟨V, 0, none⟩ = some (.int .i64 (S.safe.pool.s k).birth) ∧ w'.cell? ⟨V, 1, none⟩ = some (.slice ka (S.safe.pool.s k).kn kc) ∧ w'.cell? ⟨V, 2, none⟩ = some (.string (S.safe.pool.s k).data) ∧ w'.cell? ⟨b', off' + k * 3, none⟩ = some (.int .i64 (S.live.pool.s k).birth) ∧ w'.cell? ⟨b', off' + k * 3 + 1, none⟩ = some (.slice pa (S.live.pool.s k).kn pc) ∧ w'.cell? ⟨b', off' + k * 3 + 2, none⟩ = some (.string (S.live.pool.s k).data))) (by kernel_rfl) ?_ (fun hHeld => ?_)
          · (try dsimp only)
            go_keep
          refine tk 0 (h := ?_)
          refine rd [1] (rc (fun K hK => ?_) .nil)
          go_simp
          go_at_call 58
          refine (l01Free_any _ _ _ lo hi (S.safe.pool.s k) _ ?_).mono ?_
          · exact HSl.out.below (below_drewN (Below.refl _ _) 1)
          rintro e w6 ⟨⟨t6, rfl, ht6⟩, hb6⟩
          obtain rfl : t6 = false := bool_no ht6 Hfr.out
          clear ht6
          have hC6 : Below W5.heap.size W5 w6 := (by first | exact hb6 | exact below_undrew hb6)
          obtain ⟨⟨m0, -⟩, ⟨m1, -⟩, ⟨m2, -⟩, ⟨m3, -⟩, ⟨m4, -⟩, ⟨m5, -⟩, ⟨m6, -⟩, ⟨m7, -⟩, ⟨m8, -⟩, ⟨m9, -⟩, ⟨m10, -⟩, ⟨m11, -⟩⟩ := HXs.out.below hC6
          obtain ⟨⟨Z0, -⟩, ⟨Z1, -⟩, ⟨Z2, -⟩⟩ := HV.out.below hC6
          have RR0 := (hC6.cell (lt_of_cell R0)).trans R0
          have RR1 := (hC6.cell (lt_of_cell R1)).trans R1
          have RR2 := (hC6.cell (lt_of_cell R2)).trans R2
          (try go_wp2_with fail)
          refine hK.out _ _ (by (try dsimp only); go_keep) ?_
          clear hK K hHeld
          intro hHeld
          try simp only [Act.put, s1, s2, s3]
          refine tk 2 (h := tk 3 (h := tk 4 (h := tk 5 (h := tk 6 (h := tk 7 (h := tk 8 (h := tk 9 (h := tk 10 (h := tk 11 (h := ?_))))))))))
          refine rd [12] (rc (fun K hK => ?_) .nil)
          go_simp
          go_at_call 102
          refine (l07Same_any lo hi lo hi (S.safe.pool.s k) (S.live.pool.s k) ka pa kc pc _ ?_ ?_).mono ?_
          · exact HSl.out.below hC6
          · exact HSl'.out.below hC6
          rintro e w7 ⟨⟨t7, rfl, ht7⟩, hb7⟩
          obtain rfl : t7 = false := bool_no ht7 Hq.out
          clear ht7
          have hC7 := below_next hC6 hb7
          obtain ⟨⟨n0, -⟩, ⟨n1, -⟩, ⟨n2, -⟩, ⟨n3, -⟩, ⟨n4, -⟩, ⟨n5, -⟩, ⟨n6, -⟩, ⟨n7, -⟩, ⟨n8, -⟩, ⟨n9, -⟩, ⟨n10, -⟩, ⟨n11, -⟩⟩ := HXs.out.below hC7
          obtain ⟨⟨y0, -⟩, ⟨y1, -⟩, ⟨y2, -⟩⟩ := HV.out.below hC7
          have sq0 := (hC7.cell (lt_of_cell R0)).trans R0
          have sq1 := (hC7.cell (lt_of_cell R1)).trans R1
          have sq2 := (hC7.cell (lt_of_cell R2)).trans R2
          (try go_wp2_with fail)
          refine hK.out _ _ (by (try dsimp only); go_keep) ?_
          clear hK K hHeld
          intro hHeld
          try simp only [Act.put, s1, s2, s3]
          refine tk 13 (h := tk 14 (h := ?_))
          refine wpAnyH_done (by kernel_rfl) ?_ _
          go_wp2
          go_ret
          exact ⟨BoolIs.no fun h => Hq.out (h.slots k hlt Hfr.out), below_next hbs hC7⟩
    · obtain rfl : k = S.safe.pool.n := by omega
      obtain ⟨⟨x0, -⟩, ⟨x1, -⟩, ⟨x2, -⟩, ⟨x3, -⟩, ⟨x4, -⟩, ⟨x5, -⟩, ⟨x6, -⟩, ⟨x7, -⟩, ⟨x8, -⟩, ⟨x9, -⟩, ⟨x10, -⟩, ⟨x11, -⟩⟩ := HX.out
      go_wp2
      go_ret
      exact ⟨BoolIs.yes ⟨HL.out, HF.out, E1.out, E2.out, E3.out, E4.out, Hall.out⟩, hb⟩

end Go.Proofs.YtjpbmpjddbekgaaGreat

namespace Go.Proofs.YtjpbmpjddbekgaaGreat
open Go.RowKit Go.Maps
set_option linter.unusedVariables false

set_option maxRecDepth 20000 in
set_option maxHeartbeats 400000 in
theorem worldM_any (v0 v1 v2 v3 : Value) (lo hi : Nat) (W : WorldD) (w : World) (h : WorldAt w lo hi v0 v1 v2 v3 W) (hwf : PrevsWf W) :
    Calls Tryz.prog 139 #[worldV v0 v1 v2 v3 W] w fun e w' => BoolIs (ImplW W) e ∧ Below w.heap.size w w' := by
  have Hp := hideW h
  have Hwf := hideW hwf
  clear h hwf
  have ha := below_alloc w (.cells #[v0, v1, .int .i64 W.time, .int .i64 W.next, v2, v3] 38)
  obtain ⟨⟨x0, -⟩, ⟨x1, -⟩, ⟨x2, -⟩, ⟨x3, -⟩, ⟨x4, -⟩, ⟨x5, -⟩⟩ := Box6.new w v0 v1 (.int .i64 W.time) (.int .i64 W.next) v2 v3 38
  go_enter Tryz.func139, Tryz.ntmps139
  go_wp2_with fail
  refine (implWorldRight_any v0 v1 v2 v3 lo hi W _ (Hp.out.below ha) Hwf.out).mono ?_
  rintro e w1 ⟨⟨t, rfl, ht⟩, hb1⟩
  have Ht := hideW ht
  have hB := below_next ha hb1
  clear ht hb1 ha x0 x1 x2 x3 x4 x5
  go_wp2
  go_ret
  exact ⟨⟨t, rfl, Ht.out⟩, hB⟩

/-- What the program calls a right store. -/
structure StoreI (S : StoreD) : Prop where
  live : ImplW S.live
  safe : ImplW S.safe
  held : S.safe.pool.hn = 0
  keeps : KeepsI S
theorem store_iff (S : StoreD) : StoreI S ↔ StoreOk S :=
  ⟨fun h => ⟨(world_iff _).1 h.live, (world_iff _).1 h.safe, h.keeps.many, h.held, h.keeps.time, h.keeps.next, h.keeps.slots⟩,
   fun h => ⟨(world_iff _).2 h.live, (world_iff _).2 h.safe, h.held, h.many, h.time, h.next, h.slots⟩⟩

set_option maxRecDepth 20000 in
set_option maxHeartbeats 1000000 in
theorem pairRight_any (v0 v1 v2 v3 u0 u1 u2 u3 : Value) (lo hi : Nat) (S : StoreD) (w : World) (h : StoreAt w lo hi v0 v1 v2 v3 u0 u1 u2 u3 S) (hw1 : PrevsWf S.live) (hw2 : PrevsWf S.safe) :
    Calls Tryz.prog 104 #[storeV v0 v1 v2 v3 u0 u1 u2 u3 S] w fun e w' => BoolIs (StoreI S) e ∧ Below w.heap.size w w' := by
  have Hp := hideW h
  have Hw1 := hideW hw1
  have Hw2 := hideW hw2
  obtain ⟨m3, ha, hc, rfl, mh, -⟩ := id h.safe.pool.2
  clear h hw1 hw2
  have hal := below_alloc w (.cells #[v0, v1, .int .i64 S.live.time, .int .i64 S.live.next, v2, v3, u0, .slice ha S.safe.pool.hn hc, .int .i64 S.safe.time, .int .i64 S.safe.next, u2, u3] 133)
  have HX := hideW (Box12.new w v0 v1 (.int .i64 S.live.time) (.int .i64 S.live.next) v2 v3 u0 (.slice ha S.safe.pool.hn hc) (.int .i64 S.safe.time) (.int .i64 S.safe.next) u2 u3 133)
  obtain ⟨⟨x0, -⟩, ⟨x1, -⟩, ⟨x2, -⟩, ⟨x3, -⟩, ⟨x4, -⟩, ⟨x5, -⟩, ⟨x6, -⟩, ⟨x7, -⟩, ⟨x8, -⟩, ⟨x9, -⟩, ⟨x10, -⟩, ⟨x11, -⟩⟩ := HX.out
  go_enter Tryz.func104, Tryz.ntmps104
  go_wp2_with fail
  generalize w.alloc (.cells #[v0, v1, .int .i64 S.live.time, .int .i64 S.live.next, v2, v3, u0, .slice ha S.safe.pool.hn hc, .int .i64 S.safe.time, .int .i64 S.safe.next, u2, u3] 133) = W0 at hal HX x0 x1 x2 x3 x4 x5 x6 x7 x8 x9 x10 x11 ⊢
  refine (worldM_any _ _ _ _ lo hi S.live W0 (Hp.out.live.below hal) Hw1.out).mono ?_
  rintro e w1 ⟨⟨t, rfl, ht⟩, hb1⟩
  have Ht := hideW ht
  have hB1 := below_next hal hb1
  have HX1 := hideW (HX.out.below hb1)
  clear ht x0 x1 x2 x3 x4 x5 x6 x7 x8 x9 x10 x11 hb1 hal HX
  obtain ⟨⟨x0, -⟩, ⟨x1, -⟩, ⟨x2, -⟩, ⟨x3, -⟩, ⟨x4, -⟩, ⟨x5, -⟩, ⟨x6, -⟩, ⟨x7, -⟩, ⟨x8, -⟩, ⟨x9, -⟩, ⟨x10, -⟩, ⟨x11, -⟩⟩ := HX1.out
  cases t
  · go_wp2
    go_ret
    exact ⟨BoolIs.no fun h => absurd (Ht.out.2 h.live) (by simp), hB1⟩
  have HL := hideW (Ht.out.1 rfl)
  clear Ht
  go_wp2_with fail
  refine (worldM_any _ _ _ _ lo hi S.safe w1 (Hp.out.safe.below hB1) Hw2.out).mono ?_
  rintro e w2 ⟨⟨t, rfl, ht⟩, hb2⟩
  have Ht := hideW ht
  have hB2 := below_next hB1 hb2
  have HX2 := hideW (HX1.out.below hb2)
  clear ht x0 x1 x2 x3 x4 x5 x6 x7 x8 x9 x10 x11 hb2 hB1 HX1
  obtain ⟨⟨x0, -⟩, ⟨x1, -⟩, ⟨x2, -⟩, ⟨x3, -⟩, ⟨x4, -⟩, ⟨x5, -⟩, ⟨x6, -⟩, ⟨x7, -⟩, ⟨x8, -⟩, ⟨x9, -⟩, ⟨x10, -⟩, ⟨x11, -⟩⟩ := HX2.out
  cases t
  · go_wp2
    go_ret
    exact ⟨BoolIs.no fun h => absurd (Ht.out.2 h.safe) (by simp), hB2⟩
  have HF := hideW (Ht.out.1 rfl)
  clear Ht
  go_wp2_with fail
  refine (holdsNothing_any u0 u2 u3 ha hc S.safe m3 w2).mono ?_
  rintro e w3 ⟨⟨t, rfl, ht⟩, hb3⟩
  have Ht := hideW ht
  have hB3 := below_next hB2 hb3
  have HX3 := hideW (HX2.out.below hb3)
  clear ht x0 x1 x2 x3 x4 x5 x6 x7 x8 x9 x10 x11 hb3 hB2 HX2
  obtain ⟨⟨x0, -⟩, ⟨x1, -⟩, ⟨x2, -⟩, ⟨x3, -⟩, ⟨x4, -⟩, ⟨x5, -⟩, ⟨x6, -⟩, ⟨x7, -⟩, ⟨x8, -⟩, ⟨x9, -⟩, ⟨x10, -⟩, ⟨x11, -⟩⟩ := HX3.out
  cases t
  · go_wp2
    go_ret
    exact ⟨BoolIs.no fun h => absurd (Ht.out.2 h.held) (by simp), hB3⟩
  have HH := hideW (Ht.out.1 rfl)
  clear Ht
  go_wp2_with fail
  refine (keeps_any v0 v1 v2 v3 u0 _ u2 u3 lo hi S w3 (Hp.out.below hB3)).mono ?_
  rintro e w4 ⟨⟨t, rfl, ht⟩, hb4⟩
  have Ht := hideW ht
  have hB4 := below_next hB3 hb4
  clear ht x0 x1 x2 x3 x4 x5 x6 x7 x8 x9 x10 x11 hb4 hB3 HX3
  go_wp2
  go_ret
  exact ⟨⟨t, rfl, ⟨fun h => ⟨HL.out, HF.out, HH.out, Ht.out.1 h⟩, fun h => Ht.out.2 h.keeps⟩⟩, hB4⟩

end Go.Proofs.YtjpbmpjddbekgaaGreat

namespace Go.Proofs.YtjpbmpjddbekgaaGreat
open Go.RowKit Go.Maps
set_option linter.unusedVariables false

set_option maxRecDepth 20000 in
set_option maxHeartbeats 1000000 in
theorem implStoreRight_any (v0 v1 v2 v3 u0 u1 u2 u3 : Value) (lo hi : Nat) (S : StoreD) (w : World) (h : StoreAt w lo hi v0 v1 v2 v3 u0 u1 u2 u3 S) (hw1 : PrevsWf S.live) (hw2 : PrevsWf S.safe) :
    Calls Tryz.prog 47 #[storeV v0 v1 v2 v3 u0 u1 u2 u3 S] w fun e w' => BoolIs (StoreOk S) e ∧ Below w.heap.size w w' := by
  have Hp := hideW h
  have Hw1 := hideW hw1
  have Hw2 := hideW hw2
  clear h hw1 hw2
  have hal := below_alloc w (.cells #[v0, v1, .int .i64 S.live.time, .int .i64 S.live.next, v2, v3, u0, u1, .int .i64 S.safe.time, .int .i64 S.safe.next, u2, u3] 70)
  obtain ⟨⟨x0, -⟩, ⟨x1, -⟩, ⟨x2, -⟩, ⟨x3, -⟩, ⟨x4, -⟩, ⟨x5, -⟩, ⟨x6, -⟩, ⟨x7, -⟩, ⟨x8, -⟩, ⟨x9, -⟩, ⟨x10, -⟩, ⟨x11, -⟩⟩ := Box12.new w v0 v1 (.int .i64 S.live.time) (.int .i64 S.live.next) v2 v3 u0 u1 (.int .i64 S.safe.time) (.int .i64 S.safe.next) u2 u3 70
  go_enter Tryz.func47, Tryz.ntmps47
  go_wp2_with fail
  refine (pairOf_any v0 v1 v2 v3 u0 u1 u2 u3 lo hi S _ (Hp.out.below hal)).mono ?_
  rintro e w1 ⟨rfl, hb1⟩
  have hB1 := below_next hal hb1
  clear hb1 hal x0 x1 x2 x3 x4 x5 x6 x7 x8 x9 x10 x11
  go_wp2_with fail
  refine (pairRight_any v0 v1 v2 v3 u0 u1 u2 u3 lo hi S w1 (Hp.out.below hB1) Hw1.out Hw2.out).mono ?_
  rintro e w2 ⟨⟨t, rfl, ht⟩, hb2⟩
  have Ht := hideW (ht.trans (store_iff S))
  have hB2 := below_next hB1 hb2
  clear ht hb2 hB1
  go_wp2
  go_ret
  exact ⟨⟨t, rfl, Ht.out⟩, hB2⟩

end Go.Proofs.YtjpbmpjddbekgaaGreat
