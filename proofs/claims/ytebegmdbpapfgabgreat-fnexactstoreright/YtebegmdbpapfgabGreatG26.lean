/- What spec.StoreRight answers. -/
import Derived.Test.YtebegmdbpapfgabGreatG2
import Derived.Test.YtebegmdbpapfgabGreatG4
import Derived.Test.YtebegmdbpapfgabGreatG6
import Derived.Test.YtebegmdbpapfgabGreatG19
import Derived.Test.YtebegmdbpapfgabGreatG25
namespace Go.Proofs.YtebegmdbpapfgabGreat
open Go.RowKit Go.Maps
set_option linter.unusedVariables false

/-- A right store. -/
structure StoreOk (S : StoreD) : Prop where
  live : SpecW S.live
  safe : SpecW S.safe
  many : S.live.pool.n = S.safe.pool.n
  held : S.safe.pool.hn = 0
  time : S.safe.time ≤ S.live.time
  next : S.safe.next ≤ S.live.next
  slots : ∀ i, i < S.safe.pool.n → ¬ Free (S.safe.pool.s i) → SlotEq (S.safe.pool.s i) (S.live.pool.s i)

set_option maxRecDepth 20000 in
set_option maxHeartbeats 4000000 in
theorem specStoreRight_any (v0 v1 v2 v3 sv0 sv1 sv2 sv3 : Value) (lo hi : Nat) (S : StoreD) (w : World) (h : StoreAt w lo hi v0 v1 v2 v3 sv0 sv1 sv2 sv3 S) :
    Calls Tryz.prog 5 #[storeV v0 v1 v2 v3 sv0 sv1 sv2 sv3 S] w fun e w' => BoolIs (StoreOk S) e ∧ Below w.heap.size w w' := by
  have Hp := hideW h
  obtain ⟨m1, la, lc, rfl, ml, -⟩ := id h.live.pool.1
  obtain ⟨m2, sa, sc, rfl, ms, -⟩ := id h.safe.pool.1
  obtain ⟨m3, ha, hc, rfl, mh, -⟩ := id h.safe.pool.2
  unfold maxLen at m1 m2 m3
  clear h
  have hal := below_alloc w (.cells #[.slice la S.live.pool.n lc, v1, .int .i64 S.live.time, .int .i64 S.live.next, v2, v3, .slice sa S.safe.pool.n sc, .slice ha S.safe.pool.hn hc, .int .i64 S.safe.time, .int .i64 S.safe.next, sv2, sv3] 42)
  have HB := hideW (Box12.new w (.slice la S.live.pool.n lc) v1 (.int .i64 S.live.time) (.int .i64 S.live.next) v2 v3 (.slice sa S.safe.pool.n sc) (.slice ha S.safe.pool.hn hc) (.int .i64 S.safe.time) (.int .i64 S.safe.next) sv2 sv3 42)
  obtain ⟨⟨x0, -⟩, ⟨x1, -⟩, ⟨x2, -⟩, ⟨x3, -⟩, ⟨x4, -⟩, ⟨x5, -⟩, ⟨x6, -⟩, ⟨x7, -⟩, ⟨x8, -⟩, ⟨x9, -⟩, ⟨x10, -⟩, ⟨x11, -⟩⟩ := HB.out
  go_enter Tryz.func5, Tryz.ntmps5
  go_wp2_with fail
  generalize w.alloc (.cells #[.slice la S.live.pool.n lc, v1, .int .i64 S.live.time, .int .i64 S.live.next, v2, v3, .slice sa S.safe.pool.n sc, .slice ha S.safe.pool.hn hc, .int .i64 S.safe.time, .int .i64 S.safe.next, sv2, sv3] 42) = W0 at hal HB x0 x1 x2 x3 x4 x5 x6 x7 x8 x9 x10 x11 ⊢
  refine (specWorldRight_any _ _ _ _ lo hi S.live W0 (Hp.out.live.below hal)).mono ?_
  rintro e w1 ⟨⟨t, rfl, ht⟩, hb1⟩
  have Ht := hideW ht
  have hB1 := below_next hal hb1
  have HB1 := hideW (HB.out.below hb1)
  clear ht x0 x1 x2 x3 x4 x5 x6 x7 x8 x9 x10 x11 hb1 hal HB
  obtain ⟨⟨x0, -⟩, ⟨x1, -⟩, ⟨x2, -⟩, ⟨x3, -⟩, ⟨x4, -⟩, ⟨x5, -⟩, ⟨x6, -⟩, ⟨x7, -⟩, ⟨x8, -⟩, ⟨x9, -⟩, ⟨x10, -⟩, ⟨x11, -⟩⟩ := HB1.out
  cases t
  · go_wp2
    go_ret
    exact ⟨BoolIs.no fun h => absurd (Ht.out.2 h.live) (by simp), hB1⟩
  have HL := hideW (Ht.out.1 rfl)
  clear Ht
  go_wp2_with fail
  refine (specWorldRight_any _ _ _ _ lo hi S.safe w1 (Hp.out.safe.below hB1)).mono ?_
  rintro e w2 ⟨⟨t, rfl, ht⟩, hb2⟩
  have Ht := hideW ht
  have hB2 := below_next hB1 hb2
  have HB2 := hideW (HB1.out.below hb2)
  clear ht x0 x1 x2 x3 x4 x5 x6 x7 x8 x9 x10 x11 hb2 hB1 HB1
  obtain ⟨⟨x0, -⟩, ⟨x1, -⟩, ⟨x2, -⟩, ⟨x3, -⟩, ⟨x4, -⟩, ⟨x5, -⟩, ⟨x6, -⟩, ⟨x7, -⟩, ⟨x8, -⟩, ⟨x9, -⟩, ⟨x10, -⟩, ⟨x11, -⟩⟩ := HB2.out
  cases t
  · go_wp2
    go_ret
    exact ⟨BoolIs.no fun h => absurd (Ht.out.2 h.safe) (by simp), hB2⟩
  have HF := hideW (Ht.out.1 rfl)
  clear Ht
  by_cases e1 : S.live.pool.n = S.safe.pool.n
  rotate_left
  · obtain ⟨i1, i2, i3⟩ := int_spelt (show ¬ (S.live.pool.n : Int) = (S.safe.pool.n : Int) by omega)
    have H := hideW e1
    clear e1
    go_wp2
    go_ret
    exact ⟨BoolIs.no fun h => H.out h.many, hB2⟩
  obtain ⟨i1, i2, i3⟩ := int_spell (show (S.live.pool.n : Int) = (S.safe.pool.n : Int) by omega)
  have E1 := hideW e1
  clear e1
  by_cases e2 : S.safe.pool.hn = 0
  rotate_left
  · have i4 : (0 : Int) < (S.safe.pool.hn : Int) := by omega
    have H := hideW e2
    clear e2
    go_wp2
    go_ret
    exact ⟨BoolIs.no fun h => H.out h.held, hB2⟩
  have i4 : ¬ (0 : Int) < (S.safe.pool.hn : Int) := by omega
  have E2 := hideW e2
  clear e2
  by_cases e3 : S.live.time < S.safe.time
  · have H := hideW e3
    go_wp2
    go_ret
    exact ⟨BoolIs.no fun h => by have := h.time; have := H.out; omega, hB2⟩
  have E3 := hideW (show S.safe.time ≤ S.live.time by omega)
  by_cases e4 : S.live.next < S.safe.next
  · have H := hideW e4
    go_wp2
    go_ret
    exact ⟨BoolIs.no fun h => by have := h.next; have := H.out; omega, hB2⟩
  have E4 := hideW (show S.safe.next ≤ S.live.next by omega)
  go_wp2
  clear x0 x1 x2 x3 x4 x5 x6 x7 x8 x9 x10 x11 i1 i2 i3 i4 e3 e4
  go_loopw [3] (fun i wr => ∃ k : Nat, k ≤ S.safe.pool.n ∧ i = .int .i64 k ∧ (∀ j, j < k → ¬ Free (S.safe.pool.s j) → SlotEq (S.safe.pool.s j) (S.live.pool.s j)) ∧ Box12 wr w.heap.size (.slice la S.live.pool.n lc) v1 (.int .i64 S.live.time) (.int .i64 S.live.next) v2 v3 (.slice sa S.safe.pool.n sc) (.slice ha S.safe.pool.hn hc) (.int .i64 S.safe.time) (.int .i64 S.safe.next) sv2 sv3 ∧ Below w.heap.size w wr) (fun i _ => S.safe.pool.n - (intOf i).toNat)
  case atStart => exact ⟨0, Nat.zero_le _, rfl, fun j h => absurd h (Nat.not_lt_zero _), HB2.out, hB2⟩
  case round =>
    obtain ⟨k, hk, rfl, hall, hX, hb⟩ := hrel
    have Hall := hideW hall
    have HX := hideW hX
    clear hall hX
    by_cases hlt : k < S.safe.pool.n
    · have hlt' : (k : Int) < (S.safe.pool.n : Int) := by omega
      have hlt2 : k < S.live.pool.n := by have := E1.out; omega
      have hlt3 : (k : Int) < (S.live.pool.n : Int) := by omega
      obtain ⟨b, off, ka, kc, rfl, hs⟩ := (Hp.out.safe.pool.1.below hb).cells hlt
      obtain ⟨b', off', pa, pc, rfl, hs'⟩ := (Hp.out.live.pool.1.below hb).cells hlt2
      obtain ⟨q0, q1, q2, hsl⟩ := hs
      obtain ⟨r0, r1, r2, hsl'⟩ := hs'
      have hal := below_alloc wr (.cells #[.int .i64 (S.safe.pool.s k).birth, .slice ka (S.safe.pool.s k).kn kc, .string (S.safe.pool.s k).data] 50)
      have HV := hideW (Box3.new wr (.int .i64 (S.safe.pool.s k).birth) (.slice ka (S.safe.pool.s k).kn kc) (.string (S.safe.pool.s k).data) 50)
      have HXs := hideW (HX.out.below hal)
      have HSl := hideW (hsl.below hal)
      have HSl' := hideW (hsl'.below hal)
      have hbs := below_next hb hal
      have R0 := (hal.cell (lt_of_cell r0)).trans r0
      have R1 := (hal.cell (lt_of_cell r1)).trans r1
      have R2 := (hal.cell (lt_of_cell r2)).trans r2
      clear hsl hsl' r0 r1 r2
      obtain ⟨⟨x0, -⟩, ⟨x1, -⟩, ⟨x2, -⟩, ⟨x3, -⟩, ⟨x4, -⟩, ⟨x5, -⟩, ⟨x6, -⟩, ⟨x7, -⟩, ⟨x8, -⟩, ⟨x9, -⟩, ⟨x10, -⟩, ⟨x11, -⟩⟩ := HX.out
      obtain ⟨⟨z0, -⟩, ⟨z1, -⟩, ⟨z2, -⟩⟩ := HV.out
      go_wp2_with fail
      clear x0 x1 x2 x3 x4 x5 x6 x7 x8 x9 x10 x11 q0 q1 q2 hal
      generalize wr.alloc (.cells #[.int .i64 (S.safe.pool.s k).birth, .slice ka (S.safe.pool.s k).kn kc, .string (S.safe.pool.s k).data] 50) = W5 at HV HXs HSl HSl' hbs R0 R1 R2 z0 z1 z2 ⊢
      generalize wr.heap.size = V at HV z0 z1 z2 ⊢
      obtain ⟨⟨x0, -⟩, ⟨x1, -⟩, ⟨x2, -⟩, ⟨x3, -⟩, ⟨x4, -⟩, ⟨x5, -⟩, ⟨x6, -⟩, ⟨x7, -⟩, ⟨x8, -⟩, ⟨x9, -⟩, ⟨x10, -⟩, ⟨x11, -⟩⟩ := HXs.out
      by_cases hfr : Free (S.safe.pool.s k)
      · have Hfr := hideW hfr
        clear hfr
        refine wp_region_held_drew (S := (fun w' => w'.cell? ⟨w.heap.size, 0, none⟩ = some (.slice (some ⟨b', off', none⟩) S.live.pool.n lc) ∧ w'.cell? ⟨w.heap.size, 1, none⟩ = some (v1) ∧ w'.cell? ⟨w.heap.size, 2, none⟩ = some (.int .i64 S.live.time) ∧ w'.cell? ⟨w.heap.size, 3, none⟩ = some (.int .i64 S.live.next) ∧ w'.cell? ⟨w.heap.size, 4, none⟩ = some (v2) ∧ w'.cell? ⟨w.heap.size, 5, none⟩ = some (v3) ∧ w'.cell? ⟨w.heap.size, 6, none⟩ = some (.slice (some ⟨b, off, none⟩) S.safe.pool.n sc) ∧ w'.cell? ⟨w.heap.size, 7, none⟩ = some (.slice ha S.safe.pool.hn hc) ∧ w'.cell? ⟨w.heap.size, 8, none⟩ = some (.int .i64 S.safe.time) ∧ w'.cell? ⟨w.heap.size, 9, none⟩ = some (.int .i64 S.safe.next) ∧ w'.cell? ⟨w.heap.size, 10, none⟩ = some (sv2) ∧ w'.cell? ⟨w.heap.size, 11, none⟩ = some (sv3) ∧ w'.cell? ⟨V, 0, none⟩ = some (.int .i64 (S.safe.pool.s k).birth) ∧ w'.cell? ⟨V, 1, none⟩ = some (.slice ka (S.safe.pool.s k).kn kc) ∧ w'.cell? ⟨V, 2, none⟩ = some (.string (S.safe.pool.s k).data) ∧ w'.cell? ⟨b', off' + k * 3, none⟩ = some (.int .i64 (S.live.pool.s k).birth) ∧ w'.cell? ⟨b', off' + k * 3 + 1, none⟩ = some (.slice pa (S.live.pool.s k).kn pc) ∧ w'.cell? ⟨b', off' + k * 3 + 2, none⟩ = some (.string (S.live.pool.s k).data))) (by kernel_rfl) ?_ (fun hHeld => ?_)
        · (try dsimp only)
          go_keep
        refine wpAnyH_take (i := 0) (oi := ({ dst := some 70, op := Op.load 50 (Operand.tmp 4), type := 50, pos := "l07_store.go:27", after := #[], guard := none } : Oper)) (v := ?_) rfl (by kernel_rfl) (by kernel_rfl) (by kernel_rfl) (fun _ _ _ h => h) (Or.inl ⟨by rfl, ?_⟩) (by assumption) ?_
        rotate_left
        · (intro w hSw; (try dsimp only at hSw); go_simp; try with_reducible rfl)
        try simp only [Act.put, List.setIfInBounds_toArray, List.set_cons_zero, List.set_cons_succ]
        refine wpAnyH_ready (rs := [1]) (by kernel_rfl) (by simp) ?_
        refine AllReadyH.cons (o := ({ dst := some 71, op := Op.call { callee := Callee.value (Operand.func 11), args := #[Operand.tmp 70], argTypes := #[50] }, type := 4, pos := "l07_store.go:27", after := #[{ on := 0, ground := Ground.data }], guard := none } : Oper)) rfl (fun K hK => ?_) AllReadyH.nil
        go_simp
        go_at_call 11
        refine (l01Free_any _ _ _ lo hi (S.safe.pool.s k) _ ?_).mono ?_
        · exact HSl.out.below (below_drewN (Below.refl _ _) 1)
        rintro e w6 ⟨⟨t6, rfl, ht6⟩, hb6⟩
        obtain rfl : t6 = true := ht6.2 Hfr.out
        clear ht6
        have hC6 : Below W5.heap.size W5 w6 := (by first | exact hb6 | exact below_undrew hb6)
        obtain ⟨⟨m0, -⟩, ⟨m1, -⟩, ⟨m2, -⟩, ⟨m3, -⟩, ⟨m4, -⟩, ⟨m5, -⟩, ⟨m6, -⟩, ⟨m7, -⟩, ⟨m8, -⟩, ⟨m9, -⟩, ⟨m10, -⟩, ⟨m11, -⟩⟩ := HXs.out.below hC6
        obtain ⟨⟨Z0, -⟩, ⟨Z1, -⟩, ⟨Z2, -⟩⟩ := HV.out.below hC6
        have RR0 := (hC6.cell (lt_of_cell R0)).trans R0
        have RR1 := (hC6.cell (lt_of_cell R1)).trans R1
        have RR2 := (hC6.cell (lt_of_cell R2)).trans R2
        (try go_wp2_with fail)
        refine hK.out _ _ ?_ (fun hHeldN => ?_)
        · (try dsimp only)
          go_keep
        clear hK K hHeld
        have hHeld := hHeldN
        clear hHeldN
        try simp only [Act.put, List.setIfInBounds_toArray, List.set_cons_zero, List.set_cons_succ]
        refine wpAnyH_take (i := 2) (oi := ({ dst := some 72, op := Op.unOp UnOp.not 4 (Operand.tmp 71), type := 4, pos := "l07_store.go:27", after := #[{ on := 1, ground := Ground.data }], guard := none } : Oper)) (v := ?_) rfl (by kernel_rfl) (by kernel_rfl) (by kernel_rfl) (fun _ _ _ h => h) (Or.inl ⟨by rfl, ?_⟩) (by assumption) ?_
        rotate_left
        · (intro w hSw; (try dsimp only at hSw); go_simp; try with_reducible rfl)
        try simp only [Act.put, List.setIfInBounds_toArray, List.set_cons_zero, List.set_cons_succ]
        refine wpAnyH_take (i := 3) (oi := ({ dst := some 73, op := Op.move (Operand.tmp 72), type := 4, pos := "l07_store.go:27", after := #[{ on := 2, ground := Ground.data }, { on := 1, ground := Ground.chain }], guard := none } : Oper)) (v := ?_) rfl (by kernel_rfl) (by kernel_rfl) (by kernel_rfl) (fun _ _ _ h => h) (Or.inl ⟨by rfl, ?_⟩) (by assumption) ?_
        rotate_left
        · (intro w hSw; (try dsimp only at hSw); go_simp; try with_reducible rfl)
        try simp only [Act.put, List.setIfInBounds_toArray, List.set_cons_zero, List.set_cons_succ]
        refine wpAnyH_take (i := 4) (oi := ({ dst := some 74, op := Op.load 50 (Operand.tmp 4), type := 50, pos := "l07_store.go:27", after := #[{ on := 3, ground := Ground.guard }], guard := some (3, true) } : Oper)) (v := undef) rfl (by kernel_rfl) (by kernel_rfl) (by kernel_rfl) (fun _ _ _ h => h) (Or.inr ⟨by rfl, rfl⟩) (by assumption) ?_
        try simp only [Act.put, List.setIfInBounds_toArray, List.set_cons_zero, List.set_cons_succ]
        refine wpAnyH_take (i := 5) (oi := ({ dst := some 75, op := Op.fieldAddr 42 (Operand.tmp 1) 0, type := 0, pos := "l07_store.go:27", after := #[{ on := 3, ground := Ground.guard }], guard := some (3, true) } : Oper)) (v := undef) rfl (by kernel_rfl) (by kernel_rfl) (by kernel_rfl) (fun _ _ _ h => h) (Or.inr ⟨by rfl, rfl⟩) (by assumption) ?_
        try simp only [Act.put, List.setIfInBounds_toArray, List.set_cons_zero, List.set_cons_succ]
        refine wpAnyH_take (i := 6) (oi := ({ dst := some 76, op := Op.fieldAddr 40 (Operand.tmp 75) 0, type := 0, pos := "l07_store.go:27", after := #[{ on := 5, ground := Ground.data }, { on := 3, ground := Ground.guard }], guard := some (3, true) } : Oper)) (v := undef) rfl (by kernel_rfl) (by kernel_rfl) (by kernel_rfl) (fun _ _ _ h => h) (Or.inr ⟨by rfl, rfl⟩) (by assumption) ?_
        try simp only [Act.put, List.setIfInBounds_toArray, List.set_cons_zero, List.set_cons_succ]
        refine wpAnyH_take (i := 7) (oi := ({ dst := some 77, op := Op.fieldAddr 36 (Operand.tmp 76) 0, type := 0, pos := "l07_store.go:27", after := #[{ on := 6, ground := Ground.data }, { on := 3, ground := Ground.guard }], guard := some (3, true) } : Oper)) (v := undef) rfl (by kernel_rfl) (by kernel_rfl) (by kernel_rfl) (fun _ _ _ h => h) (Or.inr ⟨by rfl, rfl⟩) (by assumption) ?_
        try simp only [Act.put, List.setIfInBounds_toArray, List.set_cons_zero, List.set_cons_succ]
        refine wpAnyH_take (i := 8) (oi := ({ dst := some 78, op := Op.load 34 (Operand.tmp 77), type := 34, pos := "l07_store.go:27", after := #[{ on := 7, ground := Ground.data }, { on := 3, ground := Ground.guard }], guard := some (3, true) } : Oper)) (v := undef) rfl (by kernel_rfl) (by kernel_rfl) (by kernel_rfl) (fun _ _ _ h => h) (Or.inr ⟨by rfl, rfl⟩) (by assumption) ?_
        try simp only [Act.put, List.setIfInBounds_toArray, List.set_cons_zero, List.set_cons_succ]
        refine wpAnyH_take (i := 9) (oi := ({ dst := some 79, op := Op.move (Operand.tmp 3), type := 3, pos := "l07_store.go:27", after := #[{ on := 3, ground := Ground.guard }], guard := some (3, true) } : Oper)) (v := undef) rfl (by kernel_rfl) (by kernel_rfl) (by kernel_rfl) (fun _ _ _ h => h) (Or.inr ⟨by rfl, rfl⟩) (by assumption) ?_
        try simp only [Act.put, List.setIfInBounds_toArray, List.set_cons_zero, List.set_cons_succ]
        refine wpAnyH_take (i := 10) (oi := ({ dst := some 80, op := Op.indexAddr 34 (Operand.tmp 78) (Operand.tmp 79), type := 0, pos := "l07_store.go:27", after := #[{ on := 8, ground := Ground.data }, { on := 9, ground := Ground.data }, { on := 3, ground := Ground.guard }], guard := some (3, true) } : Oper)) (v := undef) rfl (by kernel_rfl) (by kernel_rfl) (by kernel_rfl) (fun _ _ _ h => h) (Or.inr ⟨by rfl, rfl⟩) (by assumption) ?_
        try simp only [Act.put, List.setIfInBounds_toArray, List.set_cons_zero, List.set_cons_succ]
        refine wpAnyH_take (i := 11) (oi := ({ dst := some 81, op := Op.load 50 (Operand.tmp 80), type := 50, pos := "l07_store.go:27", after := #[{ on := 10, ground := Ground.data }, { on := 3, ground := Ground.guard }], guard := some (3, true) } : Oper)) (v := undef) rfl (by kernel_rfl) (by kernel_rfl) (by kernel_rfl) (fun _ _ _ h => h) (Or.inr ⟨by rfl, rfl⟩) (by assumption) ?_
        try simp only [Act.put, List.setIfInBounds_toArray, List.set_cons_zero, List.set_cons_succ]
        refine wpAnyH_ready (rs := [12]) (by kernel_rfl) (by simp) ?_
        refine AllReadyH.cons (o := ({ dst := some 82, op := Op.call { callee := Callee.value (Operand.func 12), args := #[Operand.tmp 74, Operand.tmp 81], argTypes := #[50, 50] }, type := 4, pos := "l07_store.go:27", after := #[{ on := 4, ground := Ground.data }, { on := 11, ground := Ground.data }, { on := 3, ground := Ground.chain }, { on := 3, ground := Ground.guard }], guard := some (3, true) } : Oper)) rfl (fun K hK => ?_) AllReadyH.nil
        split
        · rename_i hwt
          exact absurd (show false = true from hwt) Bool.false_ne_true
        refine hK.out _ _ (by assumption) (fun hHeld => ?_)
        clear hK K
        try simp only [Act.put, List.setIfInBounds_toArray, List.set_cons_zero, List.set_cons_succ]
        refine wpAnyH_take (i := 13) (oi := ({ dst := some 83, op := Op.unOp UnOp.not 4 (Operand.tmp 82), type := 4, pos := "l07_store.go:27", after := #[{ on := 12, ground := Ground.data }, { on := 3, ground := Ground.guard }], guard := some (3, true) } : Oper)) (v := undef) rfl (by kernel_rfl) (by kernel_rfl) (by kernel_rfl) (fun _ _ _ h => h) (Or.inr ⟨by rfl, rfl⟩) (by assumption) ?_
        try simp only [Act.put, List.setIfInBounds_toArray, List.set_cons_zero, List.set_cons_succ]
        refine wpAnyH_take (i := 14) (oi := ({ dst := some 84, op := Op.pick (Operand.tmp 73) (Operand.tmp 83) (Operand.const (Value.bool false)), type := 4, pos := "l07_store.go:27", after := #[{ on := 3, ground := Ground.data }, { on := 13, ground := Ground.data }], guard := none } : Oper)) (v := ?_) rfl (by kernel_rfl) (by kernel_rfl) (by kernel_rfl) (fun _ _ _ h => h) (Or.inl ⟨by rfl, ?_⟩) (by assumption) ?_
        rotate_left
        · (intro w hSw; (try dsimp only at hSw); go_simp; try with_reducible rfl)
        try simp only [Act.put, List.setIfInBounds_toArray, List.set_cons_zero, List.set_cons_succ]
        refine wpAnyH_done (by kernel_rfl) ?_ _
        go_wp2
        go_roundw
        case rel =>
          refine ⟨k + 1, by omega, by go_num, ?_, HXs.out.below hC6, below_next hbs hC6⟩
          intro j hj hn
          by_cases e : j = k
          · subst e; exact absurd Hfr.out hn
          · exact Hall.out j (by omega) hn
        case measure => simp [intOf]; omega
      · have Hfr := hideW hfr
        clear hfr
        by_cases hq : SlotEq (S.safe.pool.s k) (S.live.pool.s k)
        · have Hq := hideW hq
          clear hq
          refine wp_region_held_drew (S := (fun w' => w'.cell? ⟨w.heap.size, 0, none⟩ = some (.slice (some ⟨b', off', none⟩) S.live.pool.n lc) ∧ w'.cell? ⟨w.heap.size, 1, none⟩ = some (v1) ∧ w'.cell? ⟨w.heap.size, 2, none⟩ = some (.int .i64 S.live.time) ∧ w'.cell? ⟨w.heap.size, 3, none⟩ = some (.int .i64 S.live.next) ∧ w'.cell? ⟨w.heap.size, 4, none⟩ = some (v2) ∧ w'.cell? ⟨w.heap.size, 5, none⟩ = some (v3) ∧ w'.cell? ⟨w.heap.size, 6, none⟩ = some (.slice (some ⟨b, off, none⟩) S.safe.pool.n sc) ∧ w'.cell? ⟨w.heap.size, 7, none⟩ = some (.slice ha S.safe.pool.hn hc) ∧ w'.cell? ⟨w.heap.size, 8, none⟩ = some (.int .i64 S.safe.time) ∧ w'.cell? ⟨w.heap.size, 9, none⟩ = some (.int .i64 S.safe.next) ∧ w'.cell? ⟨w.heap.size, 10, none⟩ = some (sv2) ∧ w'.cell? ⟨w.heap.size, 11, none⟩ = some (sv3) ∧ w'.cell? ⟨V, 0, none⟩ = some (.int .i64 (S.safe.pool.s k).birth) ∧ w'.cell? ⟨V, 1, none⟩ = some (.slice ka (S.safe.pool.s k).kn kc) ∧ w'.cell? ⟨V, 2, none⟩ = some (.string (S.safe.pool.s k).data) ∧ w'.cell? ⟨b', off' + k * 3, none⟩ = some (.int .i64 (S.live.pool.s k).birth) ∧ w'.cell? ⟨b', off' + k * 3 + 1, none⟩ = some (.slice pa (S.live.pool.s k).kn pc) ∧ w'.cell? ⟨b', off' + k * 3 + 2, none⟩ = some (.string (S.live.pool.s k).data))) (by kernel_rfl) ?_ (fun hHeld => ?_)
          · (try dsimp only)
            go_keep
          refine wpAnyH_take (i := 0) (oi := ({ dst := some 70, op := Op.load 50 (Operand.tmp 4), type := 50, pos := "l07_store.go:27", after := #[], guard := none } : Oper)) (v := ?_) rfl (by kernel_rfl) (by kernel_rfl) (by kernel_rfl) (fun _ _ _ h => h) (Or.inl ⟨by rfl, ?_⟩) (by assumption) ?_
          rotate_left
          · (intro w hSw; (try dsimp only at hSw); go_simp; try with_reducible rfl)
          try simp only [Act.put, List.setIfInBounds_toArray, List.set_cons_zero, List.set_cons_succ]
          refine wpAnyH_ready (rs := [1]) (by kernel_rfl) (by simp) ?_
          refine AllReadyH.cons (o := ({ dst := some 71, op := Op.call { callee := Callee.value (Operand.func 11), args := #[Operand.tmp 70], argTypes := #[50] }, type := 4, pos := "l07_store.go:27", after := #[{ on := 0, ground := Ground.data }], guard := none } : Oper)) rfl (fun K hK => ?_) AllReadyH.nil
          go_simp
          go_at_call 11
          refine (l01Free_any _ _ _ lo hi (S.safe.pool.s k) _ ?_).mono ?_
          · exact HSl.out.below (below_drewN (Below.refl _ _) 1)
          rintro e w6 ⟨⟨t6, rfl, ht6⟩, hb6⟩
          obtain rfl : t6 = false := bool_no ht6 Hfr.out
          clear ht6
          have hC6 : Below W5.heap.size W5 w6 := (by first | exact hb6 | exact below_undrew hb6)
          obtain ⟨⟨m0, -⟩, ⟨m1, -⟩, ⟨m2, -⟩, ⟨m3, -⟩, ⟨m4, -⟩, ⟨m5, -⟩, ⟨m6, -⟩, ⟨m7, -⟩, ⟨m8, -⟩, ⟨m9, -⟩, ⟨m10, -⟩, ⟨m11, -⟩⟩ := HXs.out.below hC6
          obtain ⟨⟨Z0, -⟩, ⟨Z1, -⟩, ⟨Z2, -⟩⟩ := HV.out.below hC6
          have RR0 := (hC6.cell (lt_of_cell R0)).trans R0
          have RR1 := (hC6.cell (lt_of_cell R1)).trans R1
          have RR2 := (hC6.cell (lt_of_cell R2)).trans R2
          (try go_wp2_with fail)
          refine hK.out _ _ ?_ (fun hHeldN => ?_)
          · (try dsimp only)
            go_keep
          clear hK K hHeld
          have hHeld := hHeldN
          clear hHeldN
          try simp only [Act.put, List.setIfInBounds_toArray, List.set_cons_zero, List.set_cons_succ]
          refine wpAnyH_take (i := 2) (oi := ({ dst := some 72, op := Op.unOp UnOp.not 4 (Operand.tmp 71), type := 4, pos := "l07_store.go:27", after := #[{ on := 1, ground := Ground.data }], guard := none } : Oper)) (v := ?_) rfl (by kernel_rfl) (by kernel_rfl) (by kernel_rfl) (fun _ _ _ h => h) (Or.inl ⟨by rfl, ?_⟩) (by assumption) ?_
          rotate_left
          · (intro w hSw; (try dsimp only at hSw); go_simp; try with_reducible rfl)
          try simp only [Act.put, List.setIfInBounds_toArray, List.set_cons_zero, List.set_cons_succ]
          refine wpAnyH_take (i := 3) (oi := ({ dst := some 73, op := Op.move (Operand.tmp 72), type := 4, pos := "l07_store.go:27", after := #[{ on := 2, ground := Ground.data }, { on := 1, ground := Ground.chain }], guard := none } : Oper)) (v := ?_) rfl (by kernel_rfl) (by kernel_rfl) (by kernel_rfl) (fun _ _ _ h => h) (Or.inl ⟨by rfl, ?_⟩) (by assumption) ?_
          rotate_left
          · (intro w hSw; (try dsimp only at hSw); go_simp; try with_reducible rfl)
          try simp only [Act.put, List.setIfInBounds_toArray, List.set_cons_zero, List.set_cons_succ]
          refine wpAnyH_take (i := 4) (oi := ({ dst := some 74, op := Op.load 50 (Operand.tmp 4), type := 50, pos := "l07_store.go:27", after := #[{ on := 3, ground := Ground.guard }], guard := some (3, true) } : Oper)) (v := ?_) rfl (by kernel_rfl) (by kernel_rfl) (by kernel_rfl) (fun _ _ _ h => h) (Or.inl ⟨by rfl, ?_⟩) (by assumption) ?_
          rotate_left
          · (intro w hSw; (try dsimp only at hSw); go_simp; try with_reducible rfl)
          try simp only [Act.put, List.setIfInBounds_toArray, List.set_cons_zero, List.set_cons_succ]
          refine wpAnyH_take (i := 5) (oi := ({ dst := some 75, op := Op.fieldAddr 42 (Operand.tmp 1) 0, type := 0, pos := "l07_store.go:27", after := #[{ on := 3, ground := Ground.guard }], guard := some (3, true) } : Oper)) (v := ?_) rfl (by kernel_rfl) (by kernel_rfl) (by kernel_rfl) (fun _ _ _ h => h) (Or.inl ⟨by rfl, ?_⟩) (by assumption) ?_
          rotate_left
          · (intro w hSw; (try dsimp only at hSw); go_simp; try with_reducible rfl)
          try simp only [Act.put, List.setIfInBounds_toArray, List.set_cons_zero, List.set_cons_succ]
          refine wpAnyH_take (i := 6) (oi := ({ dst := some 76, op := Op.fieldAddr 40 (Operand.tmp 75) 0, type := 0, pos := "l07_store.go:27", after := #[{ on := 5, ground := Ground.data }, { on := 3, ground := Ground.guard }], guard := some (3, true) } : Oper)) (v := ?_) rfl (by kernel_rfl) (by kernel_rfl) (by kernel_rfl) (fun _ _ _ h => h) (Or.inl ⟨by rfl, ?_⟩) (by assumption) ?_
          rotate_left
          · (intro w hSw; (try dsimp only at hSw); go_simp; try with_reducible rfl)
          try simp only [Act.put, List.setIfInBounds_toArray, List.set_cons_zero, List.set_cons_succ]
          refine wpAnyH_take (i := 7) (oi := ({ dst := some 77, op := Op.fieldAddr 36 (Operand.tmp 76) 0, type := 0, pos := "l07_store.go:27", after := #[{ on := 6, ground := Ground.data }, { on := 3, ground := Ground.guard }], guard := some (3, true) } : Oper)) (v := ?_) rfl (by kernel_rfl) (by kernel_rfl) (by kernel_rfl) (fun _ _ _ h => h) (Or.inl ⟨by rfl, ?_⟩) (by assumption) ?_
          rotate_left
          · (intro w hSw; (try dsimp only at hSw); go_simp; try with_reducible rfl)
          try simp only [Act.put, List.setIfInBounds_toArray, List.set_cons_zero, List.set_cons_succ]
          refine wpAnyH_take (i := 8) (oi := ({ dst := some 78, op := Op.load 34 (Operand.tmp 77), type := 34, pos := "l07_store.go:27", after := #[{ on := 7, ground := Ground.data }, { on := 3, ground := Ground.guard }], guard := some (3, true) } : Oper)) (v := ?_) rfl (by kernel_rfl) (by kernel_rfl) (by kernel_rfl) (fun _ _ _ h => h) (Or.inl ⟨by rfl, ?_⟩) (by assumption) ?_
          rotate_left
          · (intro w hSw; (try dsimp only at hSw); go_simp; try with_reducible rfl)
          try simp only [Act.put, List.setIfInBounds_toArray, List.set_cons_zero, List.set_cons_succ]
          refine wpAnyH_take (i := 9) (oi := ({ dst := some 79, op := Op.move (Operand.tmp 3), type := 3, pos := "l07_store.go:27", after := #[{ on := 3, ground := Ground.guard }], guard := some (3, true) } : Oper)) (v := ?_) rfl (by kernel_rfl) (by kernel_rfl) (by kernel_rfl) (fun _ _ _ h => h) (Or.inl ⟨by rfl, ?_⟩) (by assumption) ?_
          rotate_left
          · (intro w hSw; (try dsimp only at hSw); go_simp; try with_reducible rfl)
          try simp only [Act.put, List.setIfInBounds_toArray, List.set_cons_zero, List.set_cons_succ]
          refine wpAnyH_take (i := 10) (oi := ({ dst := some 80, op := Op.indexAddr 34 (Operand.tmp 78) (Operand.tmp 79), type := 0, pos := "l07_store.go:27", after := #[{ on := 8, ground := Ground.data }, { on := 9, ground := Ground.data }, { on := 3, ground := Ground.guard }], guard := some (3, true) } : Oper)) (v := ?_) rfl (by kernel_rfl) (by kernel_rfl) (by kernel_rfl) (fun _ _ _ h => h) (Or.inl ⟨by rfl, ?_⟩) (by assumption) ?_
          rotate_left
          · (intro w hSw; (try dsimp only at hSw); go_simp; try with_reducible rfl)
          try simp only [Act.put, List.setIfInBounds_toArray, List.set_cons_zero, List.set_cons_succ]
          refine wpAnyH_take (i := 11) (oi := ({ dst := some 81, op := Op.load 50 (Operand.tmp 80), type := 50, pos := "l07_store.go:27", after := #[{ on := 10, ground := Ground.data }, { on := 3, ground := Ground.guard }], guard := some (3, true) } : Oper)) (v := ?_) rfl (by kernel_rfl) (by kernel_rfl) (by kernel_rfl) (fun _ _ _ h => h) (Or.inl ⟨by rfl, ?_⟩) (by assumption) ?_
          rotate_left
          · (intro w hSw; (try dsimp only at hSw); go_simp; try with_reducible rfl)
          try simp only [Act.put, List.setIfInBounds_toArray, List.set_cons_zero, List.set_cons_succ]
          refine wpAnyH_ready (rs := [12]) (by kernel_rfl) (by simp) ?_
          refine AllReadyH.cons (o := ({ dst := some 82, op := Op.call { callee := Callee.value (Operand.func 12), args := #[Operand.tmp 74, Operand.tmp 81], argTypes := #[50, 50] }, type := 4, pos := "l07_store.go:27", after := #[{ on := 4, ground := Ground.data }, { on := 11, ground := Ground.data }, { on := 3, ground := Ground.chain }, { on := 3, ground := Ground.guard }], guard := some (3, true) } : Oper)) rfl (fun K hK => ?_) AllReadyH.nil
          go_simp
          go_at_call 12
          refine (l07Same_any lo hi lo hi (S.safe.pool.s k) (S.live.pool.s k) ka pa kc pc _ ?_ ?_).mono ?_
          · exact HSl.out.below hC6
          · exact HSl'.out.below hC6
          rintro e w7 ⟨⟨t7, rfl, ht7⟩, hb7⟩
          obtain rfl : t7 = true := ht7.2 Hq.out
          clear ht7
          have hC7 := below_next hC6 hb7
          obtain ⟨⟨n0, -⟩, ⟨n1, -⟩, ⟨n2, -⟩, ⟨n3, -⟩, ⟨n4, -⟩, ⟨n5, -⟩, ⟨n6, -⟩, ⟨n7, -⟩, ⟨n8, -⟩, ⟨n9, -⟩, ⟨n10, -⟩, ⟨n11, -⟩⟩ := HXs.out.below hC7
          obtain ⟨⟨y0, -⟩, ⟨y1, -⟩, ⟨y2, -⟩⟩ := HV.out.below hC7
          have s0 := (hC7.cell (lt_of_cell R0)).trans R0
          have s1 := (hC7.cell (lt_of_cell R1)).trans R1
          have s2 := (hC7.cell (lt_of_cell R2)).trans R2
          (try go_wp2_with fail)
          refine hK.out _ _ ?_ (fun hHeldN => ?_)
          · (try dsimp only)
            go_keep
          clear hK K hHeld
          have hHeld := hHeldN
          clear hHeldN
          try simp only [Act.put, List.setIfInBounds_toArray, List.set_cons_zero, List.set_cons_succ]
          refine wpAnyH_take (i := 13) (oi := ({ dst := some 83, op := Op.unOp UnOp.not 4 (Operand.tmp 82), type := 4, pos := "l07_store.go:27", after := #[{ on := 12, ground := Ground.data }, { on := 3, ground := Ground.guard }], guard := some (3, true) } : Oper)) (v := ?_) rfl (by kernel_rfl) (by kernel_rfl) (by kernel_rfl) (fun _ _ _ h => h) (Or.inl ⟨by rfl, ?_⟩) (by assumption) ?_
          rotate_left
          · (intro w hSw; (try dsimp only at hSw); go_simp; try with_reducible rfl)
          try simp only [Act.put, List.setIfInBounds_toArray, List.set_cons_zero, List.set_cons_succ]
          refine wpAnyH_take (i := 14) (oi := ({ dst := some 84, op := Op.pick (Operand.tmp 73) (Operand.tmp 83) (Operand.const (Value.bool false)), type := 4, pos := "l07_store.go:27", after := #[{ on := 3, ground := Ground.data }, { on := 13, ground := Ground.data }], guard := none } : Oper)) (v := ?_) rfl (by kernel_rfl) (by kernel_rfl) (by kernel_rfl) (fun _ _ _ h => h) (Or.inl ⟨by rfl, ?_⟩) (by assumption) ?_
          rotate_left
          · (intro w hSw; (try dsimp only at hSw); go_simp; try with_reducible rfl)
          try simp only [Act.put, List.setIfInBounds_toArray, List.set_cons_zero, List.set_cons_succ]
          refine wpAnyH_done (by kernel_rfl) ?_ _
          go_wp2
          go_roundw
          case rel =>
            refine ⟨k + 1, by omega, by go_num, ?_, HXs.out.below hC7, below_next hbs hC7⟩
            intro j hj hn
            by_cases e : j = k
            · subst e; exact Hq.out
            · exact Hall.out j (by omega) hn
          case measure => simp [intOf]; omega
        · have Hq := hideW hq
          clear hq
          refine wp_region_held_drew (S := (fun w' => w'.cell? ⟨w.heap.size, 0, none⟩ = some (.slice (some ⟨b', off', none⟩) S.live.pool.n lc) ∧ w'.cell? ⟨w.heap.size, 1, none⟩ = some (v1) ∧ w'.cell? ⟨w.heap.size, 2, none⟩ = some (.int .i64 S.live.time) ∧ w'.cell? ⟨w.heap.size, 3, none⟩ = some (.int .i64 S.live.next) ∧ w'.cell? ⟨w.heap.size, 4, none⟩ = some (v2) ∧ w'.cell? ⟨w.heap.size, 5, none⟩ = some (v3) ∧ w'.cell? ⟨w.heap.size, 6, none⟩ = some (.slice (some ⟨b, off, none⟩) S.safe.pool.n sc) ∧ w'.cell? ⟨w.heap.size, 7, none⟩ = some (.slice ha S.safe.pool.hn hc) ∧ w'.cell? ⟨w.heap.size, 8, none⟩ = some (.int .i64 S.safe.time) ∧ w'.cell? ⟨w.heap.size, 9, none⟩ = some (.int .i64 S.safe.next) ∧ w'.cell? ⟨w.heap.size, 10, none⟩ = some (sv2) ∧ w'.cell? ⟨w.heap.size, 11, none⟩ = some (sv3) ∧ w'.cell? ⟨V, 0, none⟩ = some (.int .i64 (S.safe.pool.s k).birth) ∧ w'.cell? ⟨V, 1, none⟩ = some (.slice ka (S.safe.pool.s k).kn kc) ∧ w'.cell? ⟨V, 2, none⟩ = some (.string (S.safe.pool.s k).data) ∧ w'.cell? ⟨b', off' + k * 3, none⟩ = some (.int .i64 (S.live.pool.s k).birth) ∧ w'.cell? ⟨b', off' + k * 3 + 1, none⟩ = some (.slice pa (S.live.pool.s k).kn pc) ∧ w'.cell? ⟨b', off' + k * 3 + 2, none⟩ = some (.string (S.live.pool.s k).data))) (by kernel_rfl) ?_ (fun hHeld => ?_)
          · (try dsimp only)
            go_keep
          refine wpAnyH_take (i := 0) (oi := ({ dst := some 70, op := Op.load 50 (Operand.tmp 4), type := 50, pos := "l07_store.go:27", after := #[], guard := none } : Oper)) (v := ?_) rfl (by kernel_rfl) (by kernel_rfl) (by kernel_rfl) (fun _ _ _ h => h) (Or.inl ⟨by rfl, ?_⟩) (by assumption) ?_
          rotate_left
          · (intro w hSw; (try dsimp only at hSw); go_simp; try with_reducible rfl)
          try simp only [Act.put, List.setIfInBounds_toArray, List.set_cons_zero, List.set_cons_succ]
          refine wpAnyH_ready (rs := [1]) (by kernel_rfl) (by simp) ?_
          refine AllReadyH.cons (o := ({ dst := some 71, op := Op.call { callee := Callee.value (Operand.func 11), args := #[Operand.tmp 70], argTypes := #[50] }, type := 4, pos := "l07_store.go:27", after := #[{ on := 0, ground := Ground.data }], guard := none } : Oper)) rfl (fun K hK => ?_) AllReadyH.nil
          go_simp
          go_at_call 11
          refine (l01Free_any _ _ _ lo hi (S.safe.pool.s k) _ ?_).mono ?_
          · exact HSl.out.below (below_drewN (Below.refl _ _) 1)
          rintro e w6 ⟨⟨t6, rfl, ht6⟩, hb6⟩
          obtain rfl : t6 = false := bool_no ht6 Hfr.out
          clear ht6
          have hC6 : Below W5.heap.size W5 w6 := (by first | exact hb6 | exact below_undrew hb6)
          obtain ⟨⟨m0, -⟩, ⟨m1, -⟩, ⟨m2, -⟩, ⟨m3, -⟩, ⟨m4, -⟩, ⟨m5, -⟩, ⟨m6, -⟩, ⟨m7, -⟩, ⟨m8, -⟩, ⟨m9, -⟩, ⟨m10, -⟩, ⟨m11, -⟩⟩ := HXs.out.below hC6
          obtain ⟨⟨Z0, -⟩, ⟨Z1, -⟩, ⟨Z2, -⟩⟩ := HV.out.below hC6
          have RR0 := (hC6.cell (lt_of_cell R0)).trans R0
          have RR1 := (hC6.cell (lt_of_cell R1)).trans R1
          have RR2 := (hC6.cell (lt_of_cell R2)).trans R2
          (try go_wp2_with fail)
          refine hK.out _ _ ?_ (fun hHeldN => ?_)
          · (try dsimp only)
            go_keep
          clear hK K hHeld
          have hHeld := hHeldN
          clear hHeldN
          try simp only [Act.put, List.setIfInBounds_toArray, List.set_cons_zero, List.set_cons_succ]
          refine wpAnyH_take (i := 2) (oi := ({ dst := some 72, op := Op.unOp UnOp.not 4 (Operand.tmp 71), type := 4, pos := "l07_store.go:27", after := #[{ on := 1, ground := Ground.data }], guard := none } : Oper)) (v := ?_) rfl (by kernel_rfl) (by kernel_rfl) (by kernel_rfl) (fun _ _ _ h => h) (Or.inl ⟨by rfl, ?_⟩) (by assumption) ?_
          rotate_left
          · (intro w hSw; (try dsimp only at hSw); go_simp; try with_reducible rfl)
          try simp only [Act.put, List.setIfInBounds_toArray, List.set_cons_zero, List.set_cons_succ]
          refine wpAnyH_take (i := 3) (oi := ({ dst := some 73, op := Op.move (Operand.tmp 72), type := 4, pos := "l07_store.go:27", after := #[{ on := 2, ground := Ground.data }, { on := 1, ground := Ground.chain }], guard := none } : Oper)) (v := ?_) rfl (by kernel_rfl) (by kernel_rfl) (by kernel_rfl) (fun _ _ _ h => h) (Or.inl ⟨by rfl, ?_⟩) (by assumption) ?_
          rotate_left
          · (intro w hSw; (try dsimp only at hSw); go_simp; try with_reducible rfl)
          try simp only [Act.put, List.setIfInBounds_toArray, List.set_cons_zero, List.set_cons_succ]
          refine wpAnyH_take (i := 4) (oi := ({ dst := some 74, op := Op.load 50 (Operand.tmp 4), type := 50, pos := "l07_store.go:27", after := #[{ on := 3, ground := Ground.guard }], guard := some (3, true) } : Oper)) (v := ?_) rfl (by kernel_rfl) (by kernel_rfl) (by kernel_rfl) (fun _ _ _ h => h) (Or.inl ⟨by rfl, ?_⟩) (by assumption) ?_
          rotate_left
          · (intro w hSw; (try dsimp only at hSw); go_simp; try with_reducible rfl)
          try simp only [Act.put, List.setIfInBounds_toArray, List.set_cons_zero, List.set_cons_succ]
          refine wpAnyH_take (i := 5) (oi := ({ dst := some 75, op := Op.fieldAddr 42 (Operand.tmp 1) 0, type := 0, pos := "l07_store.go:27", after := #[{ on := 3, ground := Ground.guard }], guard := some (3, true) } : Oper)) (v := ?_) rfl (by kernel_rfl) (by kernel_rfl) (by kernel_rfl) (fun _ _ _ h => h) (Or.inl ⟨by rfl, ?_⟩) (by assumption) ?_
          rotate_left
          · (intro w hSw; (try dsimp only at hSw); go_simp; try with_reducible rfl)
          try simp only [Act.put, List.setIfInBounds_toArray, List.set_cons_zero, List.set_cons_succ]
          refine wpAnyH_take (i := 6) (oi := ({ dst := some 76, op := Op.fieldAddr 40 (Operand.tmp 75) 0, type := 0, pos := "l07_store.go:27", after := #[{ on := 5, ground := Ground.data }, { on := 3, ground := Ground.guard }], guard := some (3, true) } : Oper)) (v := ?_) rfl (by kernel_rfl) (by kernel_rfl) (by kernel_rfl) (fun _ _ _ h => h) (Or.inl ⟨by rfl, ?_⟩) (by assumption) ?_
          rotate_left
          · (intro w hSw; (try dsimp only at hSw); go_simp; try with_reducible rfl)
          try simp only [Act.put, List.setIfInBounds_toArray, List.set_cons_zero, List.set_cons_succ]
          refine wpAnyH_take (i := 7) (oi := ({ dst := some 77, op := Op.fieldAddr 36 (Operand.tmp 76) 0, type := 0, pos := "l07_store.go:27", after := #[{ on := 6, ground := Ground.data }, { on := 3, ground := Ground.guard }], guard := some (3, true) } : Oper)) (v := ?_) rfl (by kernel_rfl) (by kernel_rfl) (by kernel_rfl) (fun _ _ _ h => h) (Or.inl ⟨by rfl, ?_⟩) (by assumption) ?_
          rotate_left
          · (intro w hSw; (try dsimp only at hSw); go_simp; try with_reducible rfl)
          try simp only [Act.put, List.setIfInBounds_toArray, List.set_cons_zero, List.set_cons_succ]
          refine wpAnyH_take (i := 8) (oi := ({ dst := some 78, op := Op.load 34 (Operand.tmp 77), type := 34, pos := "l07_store.go:27", after := #[{ on := 7, ground := Ground.data }, { on := 3, ground := Ground.guard }], guard := some (3, true) } : Oper)) (v := ?_) rfl (by kernel_rfl) (by kernel_rfl) (by kernel_rfl) (fun _ _ _ h => h) (Or.inl ⟨by rfl, ?_⟩) (by assumption) ?_
          rotate_left
          · (intro w hSw; (try dsimp only at hSw); go_simp; try with_reducible rfl)
          try simp only [Act.put, List.setIfInBounds_toArray, List.set_cons_zero, List.set_cons_succ]
          refine wpAnyH_take (i := 9) (oi := ({ dst := some 79, op := Op.move (Operand.tmp 3), type := 3, pos := "l07_store.go:27", after := #[{ on := 3, ground := Ground.guard }], guard := some (3, true) } : Oper)) (v := ?_) rfl (by kernel_rfl) (by kernel_rfl) (by kernel_rfl) (fun _ _ _ h => h) (Or.inl ⟨by rfl, ?_⟩) (by assumption) ?_
          rotate_left
          · (intro w hSw; (try dsimp only at hSw); go_simp; try with_reducible rfl)
          try simp only [Act.put, List.setIfInBounds_toArray, List.set_cons_zero, List.set_cons_succ]
          refine wpAnyH_take (i := 10) (oi := ({ dst := some 80, op := Op.indexAddr 34 (Operand.tmp 78) (Operand.tmp 79), type := 0, pos := "l07_store.go:27", after := #[{ on := 8, ground := Ground.data }, { on := 9, ground := Ground.data }, { on := 3, ground := Ground.guard }], guard := some (3, true) } : Oper)) (v := ?_) rfl (by kernel_rfl) (by kernel_rfl) (by kernel_rfl) (fun _ _ _ h => h) (Or.inl ⟨by rfl, ?_⟩) (by assumption) ?_
          rotate_left
          · (intro w hSw; (try dsimp only at hSw); go_simp; try with_reducible rfl)
          try simp only [Act.put, List.setIfInBounds_toArray, List.set_cons_zero, List.set_cons_succ]
          refine wpAnyH_take (i := 11) (oi := ({ dst := some 81, op := Op.load 50 (Operand.tmp 80), type := 50, pos := "l07_store.go:27", after := #[{ on := 10, ground := Ground.data }, { on := 3, ground := Ground.guard }], guard := some (3, true) } : Oper)) (v := ?_) rfl (by kernel_rfl) (by kernel_rfl) (by kernel_rfl) (fun _ _ _ h => h) (Or.inl ⟨by rfl, ?_⟩) (by assumption) ?_
          rotate_left
          · (intro w hSw; (try dsimp only at hSw); go_simp; try with_reducible rfl)
          try simp only [Act.put, List.setIfInBounds_toArray, List.set_cons_zero, List.set_cons_succ]
          refine wpAnyH_ready (rs := [12]) (by kernel_rfl) (by simp) ?_
          refine AllReadyH.cons (o := ({ dst := some 82, op := Op.call { callee := Callee.value (Operand.func 12), args := #[Operand.tmp 74, Operand.tmp 81], argTypes := #[50, 50] }, type := 4, pos := "l07_store.go:27", after := #[{ on := 4, ground := Ground.data }, { on := 11, ground := Ground.data }, { on := 3, ground := Ground.chain }, { on := 3, ground := Ground.guard }], guard := some (3, true) } : Oper)) rfl (fun K hK => ?_) AllReadyH.nil
          go_simp
          go_at_call 12
          refine (l07Same_any lo hi lo hi (S.safe.pool.s k) (S.live.pool.s k) ka pa kc pc _ ?_ ?_).mono ?_
          · exact HSl.out.below hC6
          · exact HSl'.out.below hC6
          rintro e w7 ⟨⟨t7, rfl, ht7⟩, hb7⟩
          obtain rfl : t7 = false := bool_no ht7 Hq.out
          clear ht7
          have hC7 := below_next hC6 hb7
          obtain ⟨⟨n0, -⟩, ⟨n1, -⟩, ⟨n2, -⟩, ⟨n3, -⟩, ⟨n4, -⟩, ⟨n5, -⟩, ⟨n6, -⟩, ⟨n7, -⟩, ⟨n8, -⟩, ⟨n9, -⟩, ⟨n10, -⟩, ⟨n11, -⟩⟩ := HXs.out.below hC7
          obtain ⟨⟨y0, -⟩, ⟨y1, -⟩, ⟨y2, -⟩⟩ := HV.out.below hC7
          have s0 := (hC7.cell (lt_of_cell R0)).trans R0
          have s1 := (hC7.cell (lt_of_cell R1)).trans R1
          have s2 := (hC7.cell (lt_of_cell R2)).trans R2
          (try go_wp2_with fail)
          refine hK.out _ _ ?_ (fun hHeldN => ?_)
          · (try dsimp only)
            go_keep
          clear hK K hHeld
          have hHeld := hHeldN
          clear hHeldN
          try simp only [Act.put, List.setIfInBounds_toArray, List.set_cons_zero, List.set_cons_succ]
          refine wpAnyH_take (i := 13) (oi := ({ dst := some 83, op := Op.unOp UnOp.not 4 (Operand.tmp 82), type := 4, pos := "l07_store.go:27", after := #[{ on := 12, ground := Ground.data }, { on := 3, ground := Ground.guard }], guard := some (3, true) } : Oper)) (v := ?_) rfl (by kernel_rfl) (by kernel_rfl) (by kernel_rfl) (fun _ _ _ h => h) (Or.inl ⟨by rfl, ?_⟩) (by assumption) ?_
          rotate_left
          · (intro w hSw; (try dsimp only at hSw); go_simp; try with_reducible rfl)
          try simp only [Act.put, List.setIfInBounds_toArray, List.set_cons_zero, List.set_cons_succ]
          refine wpAnyH_take (i := 14) (oi := ({ dst := some 84, op := Op.pick (Operand.tmp 73) (Operand.tmp 83) (Operand.const (Value.bool false)), type := 4, pos := "l07_store.go:27", after := #[{ on := 3, ground := Ground.data }, { on := 13, ground := Ground.data }], guard := none } : Oper)) (v := ?_) rfl (by kernel_rfl) (by kernel_rfl) (by kernel_rfl) (fun _ _ _ h => h) (Or.inl ⟨by rfl, ?_⟩) (by assumption) ?_
          rotate_left
          · (intro w hSw; (try dsimp only at hSw); go_simp; try with_reducible rfl)
          try simp only [Act.put, List.setIfInBounds_toArray, List.set_cons_zero, List.set_cons_succ]
          refine wpAnyH_done (by kernel_rfl) ?_ _
          go_wp2
          go_ret
          exact ⟨BoolIs.no fun h => Hq.out (h.slots k hlt Hfr.out), below_next hbs hC7⟩
    · obtain rfl : k = S.safe.pool.n := by omega
      obtain ⟨⟨x0, -⟩, ⟨x1, -⟩, ⟨x2, -⟩, ⟨x3, -⟩, ⟨x4, -⟩, ⟨x5, -⟩, ⟨x6, -⟩, ⟨x7, -⟩, ⟨x8, -⟩, ⟨x9, -⟩, ⟨x10, -⟩, ⟨x11, -⟩⟩ := HX.out
      go_wp2
      go_ret
      exact ⟨BoolIs.yes ⟨HL.out, HF.out, E1.out, E2.out, E3.out, E4.out, Hall.out⟩, hb⟩

end Go.Proofs.YtebegmdbpapfgabGreat
