/- What slices.Equal of pointers, impl.slotSame, holdsNothing and keeps answer. -/
import Derived.Test.YtebegmdbpapfgabGreatG2
import Derived.Test.YtebegmdbpapfgabGreatG4
import Derived.Test.YtebegmdbpapfgabGreatG3
namespace Go.Proofs.YtebegmdbpapfgabGreat
open Go.RowKit Go.Maps
set_option linter.unusedVariables false

set_option maxRecDepth 20000 in
set_option maxHeartbeats 1000000 in
theorem equalP_any (v v' : Value) (n n' lo hi lo' hi' : Nat) (f g f' g' : Nat → Int) (w : World) (h1 : PtrsAt w lo hi v n f g) (h2 : PtrsAt w lo' hi' v' n' f' g') :
    Calls Tryz.prog 83 #[v, v'] w fun e w' => BoolIs (PtrsEq n n' f g f' g') e ∧ Below w.heap.size w w' := by
  have H1 := hideW h1
  have H2 := hideW h2
  obtain ⟨m1, a, c, rfl, mc, -⟩ := id h1
  obtain ⟨m2, a', c', rfl, mc', -⟩ := id h2
  unfold maxLen at m1 m2
  clear h1 h2
  by_cases e3 : n = n'
  rotate_left
  · have H := hideW e3
    obtain ⟨i5, i6, i7⟩ := int_spelt (show ¬ (n : Int) = (n' : Int) by omega)
    clear e3
    go_enter Tryz.func83, Tryz.ntmps83
    go_wp2
    go_ret
    exact ⟨BoolIs.no fun h => H.out h.1, Below.refl _ _⟩
  subst e3
  have hne : ((n : Int) != (n : Int)) = false := by simp
  go_enter Tryz.func83, Tryz.ntmps83
  go_wp2
  go_loopw [13] (fun i wr => ∃ k : Nat, k ≤ n ∧ i = .int .i64 k ∧ (∀ j, j < k → f j = f' j ∧ g j = g' j) ∧ Below w.heap.size w wr) (fun i _ => n - (intOf i).toNat)
  case atStart => exact ⟨0, Nat.zero_le _, rfl, fun j h => absurd h (Nat.not_lt_zero _), Below.refl _ _⟩
  case round =>
    obtain ⟨k, hk, rfl, hall, hb⟩ := hrel
    have Hall := hideW hall
    clear hall
    by_cases hlt : k < n
    · have hlt' : (k : Int) < (n : Int) := by omega
      obtain ⟨b, off, rfl, q0, q1⟩ := (H1.out.below hb).cellsD hlt
      obtain ⟨b', off', rfl, r0, r1⟩ := (H2.out.below hb).cellsD hlt
      by_cases he : f k = f' k ∧ g k = g' k
      · have H := hideW he
        rw [he.1] at q0
        rw [he.2] at q1
        clear he
        go_wp2
        go_quiet (fail)
        go_wp2
        go_roundw
        case rel =>
          refine ⟨k + 1, by omega, by go_num, ?_, below_drewN hb _⟩
          intro j hj
          by_cases e : j = k
          · subst e; exact H.out
          · exact Hall.out j (by omega)
        case measure => simp [intOf]; omega
      · have H := hideW he
        have e0 := ptr_neq he
        clear he
        rcases e0 with e0 | ⟨e0, e1⟩
        all_goals
          go_wp2
          go_quiet (fail)
          go_wp2
          go_ret
          exact ⟨BoolIs.no fun h => H.out (h.2 k hlt), below_drewN hb _⟩
    · obtain rfl : k = n := by omega
      go_wp2
      go_ret
      exact ⟨BoolIs.yes ⟨rfl, Hall.out⟩, hb⟩

set_option maxRecDepth 20000 in
set_option maxHeartbeats 1000000 in
theorem slotSame_any (lo hi lo' hi' : Nat) (s t : SlotD) (pa qa : Option Addr) (pc qc : Nat) (w : World) (h1 : SlotAt w lo hi (.int .i64 s.birth) (.slice pa s.kn pc) (.string s.data) s) (h2 : SlotAt w lo' hi' (.int .i64 t.birth) (.slice qa t.kn qc) (.string t.data) t) :
    Calls Tryz.prog 61 #[.agg #[.int .i64 s.birth, .slice pa s.kn pc, .string s.data], .agg #[.int .i64 t.birth, .slice qa t.kn qc, .string t.data]] w fun e w' => BoolIs (SlotEq s t) e ∧ Below w.heap.size w w' := by
  have H1 := hideW h1.2.1
  have H2 := hideW h2.2.1
  clear h1 h2
  have ha := below_alloc w (.cells #[.int .i64 s.birth, .slice pa s.kn pc, .string s.data] 50)
  have ha2 := below_alloc (w.alloc (.cells #[.int .i64 s.birth, .slice pa s.kn pc, .string s.data] 50)) (.cells #[.int .i64 t.birth, .slice qa t.kn qc, .string t.data] 50)
  have hA := below_next ha ha2
  obtain ⟨⟨x0, -⟩, ⟨x1, -⟩, ⟨x2, -⟩⟩ := (Box3.new w (.int .i64 s.birth) (.slice pa s.kn pc) (.string s.data) 50).below ha2
  have hy := Box3.new (w.alloc (.cells #[.int .i64 s.birth, .slice pa s.kn pc, .string s.data] 50)) (.int .i64 t.birth) (.slice qa t.kn qc) (.string t.data) 50
  rw [World.size_alloc] at hy
  obtain ⟨⟨y0, -⟩, ⟨y1, -⟩, ⟨y2, -⟩⟩ := hy
  clear ha ha2
  by_cases e1 : s.birth = t.birth
  rotate_left
  · have H := hideW e1
    obtain ⟨i1, i2, i3⟩ := int_spelt e1
    go_enter Tryz.func61, Tryz.ntmps61
    go_wp2
    go_ret
    exact ⟨BoolIs.no fun h => H.out h.1, hA⟩
  have E1 := hideW e1
  obtain ⟨i1, i2, i3⟩ := int_spell e1
  clear e1
  by_cases e2 : s.data = t.data
  rotate_left
  · have H := hideW e2
    have i4 := str_ne e2
    clear e2
    go_enter Tryz.func61, Tryz.ntmps61
    go_wp2
    go_ret
    exact ⟨BoolIs.no fun h => H.out h.2.2, hA⟩
  have E2 := hideW e2
  have i4 := str_eq e2
  clear e2
  go_enter Tryz.func61, Tryz.ntmps61
  go_wp2_with fail
  refine (equalP_any _ _ s.kn t.kn lo hi lo' hi' _ _ _ _ _ (H1.out.below hA) (H2.out.below hA)).mono ?_
  rintro e w1 ⟨⟨r, rfl, hr⟩, hb1⟩
  have Hr := hideW hr
  have hB1 := below_next hA hb1
  clear hr hb1 x0 x1 x2 y0 y1 y2 i1 i2 i3 i4 hA
  go_wp2
  go_ret
  exact ⟨⟨r, rfl, ⟨fun h => ⟨E1.out, Hr.out.1 h, E2.out⟩, fun h => Hr.out.2 h.2.1⟩⟩, hB1⟩

set_option maxRecDepth 20000 in
set_option maxHeartbeats 1000000 in
theorem holdsNothing_any (u0 u2 u3 : Value) (ha : Option Addr) (hc : Nat) (W : WorldD) (hm : W.pool.hn ≤ maxLen) (w : World) :
    Calls Tryz.prog 33 #[.agg #[u0, .slice ha W.pool.hn hc, .int .i64 W.time, .int .i64 W.next, u2, u3]] w fun e w' => BoolIs (W.pool.hn = 0) e ∧ Below w.heap.size w w' := by
  unfold maxLen at hm
  have hA := below_alloc w (.cells #[u0, .slice ha W.pool.hn hc, .int .i64 W.time, .int .i64 W.next, u2, u3] 56)
  obtain ⟨⟨x0, -⟩, ⟨x1, -⟩, ⟨x2, -⟩, ⟨x3, -⟩, ⟨x4, -⟩, ⟨x5, -⟩⟩ := Box6.new w u0 (.slice ha W.pool.hn hc) (.int .i64 W.time) (.int .i64 W.next) u2 u3 56
  by_cases e : W.pool.hn = 0
  · have H := hideW e
    obtain ⟨i1, i2, i3⟩ := int_spell (show (W.pool.hn : Int) = 0 by omega)
    clear e
    go_enter Tryz.func33, Tryz.ntmps33
    go_wp2
    go_ret
    exact ⟨⟨true, rfl, ⟨fun _ => H.out, fun _ => rfl⟩⟩, hA⟩
  · have H := hideW e
    obtain ⟨i1, i2, i3⟩ := int_spelt (show ¬ (W.pool.hn : Int) = 0 by omega)
    clear e
    go_enter Tryz.func33, Tryz.ntmps33
    go_wp2
    go_ret
    exact ⟨⟨false, rfl, ⟨fun h => absurd h (by simp), fun h => absurd h H.out⟩⟩, hA⟩

/-- The live world keeps what the safe one has. -/
structure KeepsI (S : StoreD) : Prop where
  many : S.live.pool.n = S.safe.pool.n
  time : S.safe.time ≤ S.live.time
  next : S.safe.next ≤ S.live.next
  slots : ∀ i, i < S.safe.pool.n → ¬ Free (S.safe.pool.s i) → SlotEq (S.safe.pool.s i) (S.live.pool.s i)

set_option maxRecDepth 20000 in
set_option maxHeartbeats 4000000 in
theorem keeps_any (v0 v1 v2 v3 u0 u1 u2 u3 : Value) (lo hi : Nat) (S : StoreD) (w : World) (h : StoreAt w lo hi v0 v1 v2 v3 u0 u1 u2 u3 S) :
    Calls Tryz.prog 34 #[worldV v0 v1 v2 v3 S.live, worldV u0 u1 u2 u3 S.safe] w fun e w' => BoolIs (KeepsI S) e ∧ Below w.heap.size w w' := by
  have Hp := hideW h
  obtain ⟨m1, la, lc, rfl, ml, -⟩ := id h.live.pool.1
  obtain ⟨m2, sa, sc, rfl, ms, -⟩ := id h.safe.pool.1
  obtain ⟨m3, ha, hc, rfl, mh, -⟩ := id h.safe.pool.2
  unfold maxLen at m1 m2 m3
  clear h
  have hal := below_alloc w (.cells #[.slice la S.live.pool.n lc, v1, .int .i64 S.live.time, .int .i64 S.live.next, v2, v3] 55)
  have hal2 := below_alloc (w.alloc (.cells #[.slice la S.live.pool.n lc, v1, .int .i64 S.live.time, .int .i64 S.live.next, v2, v3] 55)) (.cells #[.slice sa S.safe.pool.n sc, .slice ha S.safe.pool.hn hc, .int .i64 S.safe.time, .int .i64 S.safe.next, u2, u3] 56)
  have hA := below_next hal hal2
  have HX := hideW ((Box6.new w (.slice la S.live.pool.n lc) v1 (.int .i64 S.live.time) (.int .i64 S.live.next) v2 v3 55).below hal2)
  have hy := Box6.new (w.alloc (.cells #[.slice la S.live.pool.n lc, v1, .int .i64 S.live.time, .int .i64 S.live.next, v2, v3] 55)) (.slice sa S.safe.pool.n sc) (.slice ha S.safe.pool.hn hc) (.int .i64 S.safe.time) (.int .i64 S.safe.next) u2 u3 56
  rw [World.size_alloc] at hy
  have HY := hideW hy
  clear hy hal hal2
  obtain ⟨⟨x0, -⟩, ⟨x1, -⟩, ⟨x2, -⟩, ⟨x3, -⟩, ⟨x4, -⟩, ⟨x5, -⟩⟩ := HX.out
  obtain ⟨⟨y0, -⟩, ⟨y1, -⟩, ⟨y2, -⟩, ⟨y3, -⟩, ⟨y4, -⟩, ⟨y5, -⟩⟩ := HY.out
  by_cases e1 : S.live.pool.n = S.safe.pool.n
  rotate_left
  · obtain ⟨i1, i2, i3⟩ := int_spelt (show ¬ (S.live.pool.n : Int) = (S.safe.pool.n : Int) by omega)
    have H := hideW e1
    clear e1
    go_enter Tryz.func34, Tryz.ntmps34
    go_wp2
    go_ret
    exact ⟨BoolIs.no fun h => H.out h.many, hA⟩
  obtain ⟨i1, i2, i3⟩ := int_spell (show (S.live.pool.n : Int) = (S.safe.pool.n : Int) by omega)
  have E1 := hideW e1
  clear e1
  by_cases e3 : S.live.time < S.safe.time
  · have H := hideW e3
    go_enter Tryz.func34, Tryz.ntmps34
    go_wp2
    go_ret
    exact ⟨BoolIs.no fun h => by have := h.time; have := H.out; omega, hA⟩
  have E3 := hideW (show S.safe.time ≤ S.live.time by omega)
  by_cases e4 : S.live.next < S.safe.next
  · have H := hideW e4
    go_enter Tryz.func34, Tryz.ntmps34
    go_wp2
    go_ret
    exact ⟨BoolIs.no fun h => by have := h.next; have := H.out; omega, hA⟩
  have E4 := hideW (show S.safe.next ≤ S.live.next by omega)
  go_enter Tryz.func34, Tryz.ntmps34
  go_wp2
  clear x0 x1 x2 x3 x4 x5 y0 y1 y2 y3 y4 y5 i1 i2 i3 e3 e4
  go_loopw [41] (fun i wr => ∃ k : Nat, k ≤ S.safe.pool.n ∧ i = .int .i64 k ∧ (∀ j, j < k → ¬ Free (S.safe.pool.s j) → SlotEq (S.safe.pool.s j) (S.live.pool.s j)) ∧ Box6 wr w.heap.size (.slice la S.live.pool.n lc) v1 (.int .i64 S.live.time) (.int .i64 S.live.next) v2 v3 ∧ Below w.heap.size w wr) (fun i _ => S.safe.pool.n - (intOf i).toNat)
  case atStart => exact ⟨0, Nat.zero_le _, rfl, fun j h => absurd h (Nat.not_lt_zero _), HX.out, hA⟩
  case round =>
    obtain ⟨k, hk, rfl, hall, hX, hb⟩ := hrel
    have Hall := hideW hall
    have HXr := hideW hX
    clear hall hX
    by_cases hlt : k < S.safe.pool.n
    · have hlt' : (k : Int) < (S.safe.pool.n : Int) := by omega
      have hlt2 : k < S.live.pool.n := by have := E1.out; omega
      have hlt3 : (k : Int) < (S.live.pool.n : Int) := by omega
      obtain ⟨b, off, ka, kc, rfl, hs⟩ := (Hp.out.safe.pool.1.below hb).cells hlt
      obtain ⟨b', off', pa, pc, rfl, hs'⟩ := (Hp.out.live.pool.1.below hb).cells hlt2
      obtain ⟨q0, q1, q2, hsl⟩ := hs
      obtain ⟨r0, r1, r2, hsl'⟩ := hs'
      have hal := below_alloc wr (.cells #[.int .i64 (S.safe.pool.s k).birth, .slice ka (S.safe.pool.s k).kn kc, .string (S.safe.pool.s k).data] 50)
      have HV := hideW (Box3.new wr (.int .i64 (S.safe.pool.s k).birth) (.slice ka (S.safe.pool.s k).kn kc) (.string (S.safe.pool.s k).data) 50)
      have HXs := hideW (HXr.out.below hal)
      have HSl := hideW (hsl.below hal)
      have HSl' := hideW (hsl'.below hal)
      have hbs := below_next hb hal
      have R0 := (hal.cell (lt_of_cell r0)).trans r0
      have R1 := (hal.cell (lt_of_cell r1)).trans r1
      have R2 := (hal.cell (lt_of_cell r2)).trans r2
      clear hsl hsl' r0 r1 r2
      obtain ⟨⟨z0, -⟩, ⟨z1, -⟩, ⟨z2, -⟩⟩ := HV.out
      go_wp2_with fail
      clear q0 q1 q2 hal
      generalize wr.alloc (.cells #[.int .i64 (S.safe.pool.s k).birth, .slice ka (S.safe.pool.s k).kn kc, .string (S.safe.pool.s k).data] 50) = W5 at HV HXs HSl HSl' hbs R0 R1 R2 z0 z1 z2 ⊢
      generalize wr.heap.size = V at HV z0 z1 z2 ⊢
      obtain ⟨⟨x0, -⟩, ⟨x1, -⟩, ⟨x2, -⟩, ⟨x3, -⟩, ⟨x4, -⟩, ⟨x5, -⟩⟩ := HXs.out
      by_cases hfr : Free (S.safe.pool.s k)
      · have Hfr := hideW hfr
        clear hfr
        refine wp_region_held_drew (S := (fun w' => w'.cell? ⟨w.heap.size, 0, none⟩ = some (.slice (some ⟨b', off', none⟩) S.live.pool.n lc) ∧ w'.cell? ⟨w.heap.size, 1, none⟩ = some (v1) ∧ w'.cell? ⟨w.heap.size, 2, none⟩ = some (.int .i64 S.live.time) ∧ w'.cell? ⟨w.heap.size, 3, none⟩ = some (.int .i64 S.live.next) ∧ w'.cell? ⟨w.heap.size, 4, none⟩ = some (v2) ∧ w'.cell? ⟨w.heap.size, 5, none⟩ = some (v3) ∧ w'.cell? ⟨V, 0, none⟩ = some (.int .i64 (S.safe.pool.s k).birth) ∧ w'.cell? ⟨V, 1, none⟩ = some (.slice ka (S.safe.pool.s k).kn kc) ∧ w'.cell? ⟨V, 2, none⟩ = some (.string (S.safe.pool.s k).data) ∧ w'.cell? ⟨b', off' + k * 3, none⟩ = some (.int .i64 (S.live.pool.s k).birth) ∧ w'.cell? ⟨b', off' + k * 3 + 1, none⟩ = some (.slice pa (S.live.pool.s k).kn pc) ∧ w'.cell? ⟨b', off' + k * 3 + 2, none⟩ = some (.string (S.live.pool.s k).data))) (by kernel_rfl) ?_ (fun hHeld => ?_)
        · (try dsimp only)
          go_keep
        refine wpAnyH_take (i := 0) (oi := ({ dst := some 46, op := Op.load 50 (Operand.tmp 6), type := 50, pos := "l07_store.go:97", after := #[], guard := none } : Oper)) (v := ?_) rfl (by kernel_rfl) (by kernel_rfl) (by kernel_rfl) (fun _ _ _ h => h) (Or.inl ⟨by rfl, ?_⟩) (by assumption) ?_
        rotate_left
        · (intro w hSw; (try dsimp only at hSw); go_simp; try with_reducible rfl)
        try simp only [Act.put, List.setIfInBounds_toArray, List.set_cons_zero, List.set_cons_succ]
        refine wpAnyH_ready (rs := [1]) (by kernel_rfl) (by simp) ?_
        refine AllReadyH.cons (o := ({ dst := some 47, op := Op.call { callee := Callee.value (Operand.func 60), args := #[Operand.tmp 46], argTypes := #[50] }, type := 4, pos := "l07_store.go:97", after := #[{ on := 0, ground := Ground.data }], guard := none } : Oper)) rfl (fun K hK => ?_) AllReadyH.nil
        go_simp
        go_at_call 60
        refine (isFree_any _ _ _ lo hi (S.safe.pool.s k) _ ?_).mono ?_
        · exact HSl.out.below (below_drewN (Below.refl _ _) 1)
        rintro e w6 ⟨⟨t6, rfl, ht6⟩, hb6⟩
        obtain rfl : t6 = true := ht6.2 Hfr.out
        clear ht6
        have hC6 : Below W5.heap.size W5 w6 := (by first | exact hb6 | exact below_undrew hb6)
        obtain ⟨⟨m0, -⟩, ⟨m1, -⟩, ⟨m2, -⟩, ⟨m3, -⟩, ⟨m4, -⟩, ⟨m5, -⟩⟩ := HXs.out.below hC6
        obtain ⟨⟨Z0, -⟩, ⟨Z1, -⟩, ⟨Z2, -⟩⟩ := HV.out.below hC6
        have RR0 := (hC6.cell (lt_of_cell R0)).trans R0
        have RR1 := (hC6.cell (lt_of_cell R1)).trans R1
        have RR2 := (hC6.cell (lt_of_cell R2)).trans R2
        (try go_wp2_with fail)
        refine hK.out _ _ ?_ (fun hHeldN => ?_)
        · (try dsimp only)
          go_keep
        clear hK K hHeld
        have hHeld := hHeldN
        clear hHeldN
        try simp only [Act.put, List.setIfInBounds_toArray, List.set_cons_zero, List.set_cons_succ]
        refine wpAnyH_take (i := 2) (oi := ({ dst := some 48, op := Op.unOp UnOp.not 4 (Operand.tmp 47), type := 4, pos := "l07_store.go:97", after := #[{ on := 1, ground := Ground.data }], guard := none } : Oper)) (v := ?_) rfl (by kernel_rfl) (by kernel_rfl) (by kernel_rfl) (fun _ _ _ h => h) (Or.inl ⟨by rfl, ?_⟩) (by assumption) ?_
        rotate_left
        · (intro w hSw; (try dsimp only at hSw); go_simp; try with_reducible rfl)
        try simp only [Act.put, List.setIfInBounds_toArray, List.set_cons_zero, List.set_cons_succ]
        refine wpAnyH_take (i := 3) (oi := ({ dst := some 49, op := Op.move (Operand.tmp 48), type := 4, pos := "l07_store.go:97", after := #[{ on := 2, ground := Ground.data }, { on := 1, ground := Ground.chain }], guard := none } : Oper)) (v := ?_) rfl (by kernel_rfl) (by kernel_rfl) (by kernel_rfl) (fun _ _ _ h => h) (Or.inl ⟨by rfl, ?_⟩) (by assumption) ?_
        rotate_left
        · (intro w hSw; (try dsimp only at hSw); go_simp; try with_reducible rfl)
        try simp only [Act.put, List.setIfInBounds_toArray, List.set_cons_zero, List.set_cons_succ]
        refine wpAnyH_take (i := 4) (oi := ({ dst := some 50, op := Op.load 50 (Operand.tmp 6), type := 50, pos := "l07_store.go:97", after := #[{ on := 3, ground := Ground.guard }], guard := some (3, true) } : Oper)) (v := undef) rfl (by kernel_rfl) (by kernel_rfl) (by kernel_rfl) (fun _ _ _ h => h) (Or.inr ⟨by rfl, rfl⟩) (by assumption) ?_
        try simp only [Act.put, List.setIfInBounds_toArray, List.set_cons_zero, List.set_cons_succ]
        refine wpAnyH_take (i := 5) (oi := ({ dst := some 51, op := Op.fieldAddr 55 (Operand.tmp 2) 0, type := 0, pos := "l07_store.go:97", after := #[{ on := 3, ground := Ground.guard }], guard := some (3, true) } : Oper)) (v := undef) rfl (by kernel_rfl) (by kernel_rfl) (by kernel_rfl) (fun _ _ _ h => h) (Or.inr ⟨by rfl, rfl⟩) (by assumption) ?_
        try simp only [Act.put, List.setIfInBounds_toArray, List.set_cons_zero, List.set_cons_succ]
        refine wpAnyH_take (i := 6) (oi := ({ dst := some 52, op := Op.fieldAddr 40 (Operand.tmp 51) 0, type := 0, pos := "l07_store.go:97", after := #[{ on := 5, ground := Ground.data }, { on := 3, ground := Ground.guard }], guard := some (3, true) } : Oper)) (v := undef) rfl (by kernel_rfl) (by kernel_rfl) (by kernel_rfl) (fun _ _ _ h => h) (Or.inr ⟨by rfl, rfl⟩) (by assumption) ?_
        try simp only [Act.put, List.setIfInBounds_toArray, List.set_cons_zero, List.set_cons_succ]
        refine wpAnyH_take (i := 7) (oi := ({ dst := some 53, op := Op.fieldAddr 36 (Operand.tmp 52) 0, type := 0, pos := "l07_store.go:97", after := #[{ on := 6, ground := Ground.data }, { on := 3, ground := Ground.guard }], guard := some (3, true) } : Oper)) (v := undef) rfl (by kernel_rfl) (by kernel_rfl) (by kernel_rfl) (fun _ _ _ h => h) (Or.inr ⟨by rfl, rfl⟩) (by assumption) ?_
        try simp only [Act.put, List.setIfInBounds_toArray, List.set_cons_zero, List.set_cons_succ]
        refine wpAnyH_take (i := 8) (oi := ({ dst := some 54, op := Op.load 34 (Operand.tmp 53), type := 34, pos := "l07_store.go:97", after := #[{ on := 7, ground := Ground.data }, { on := 3, ground := Ground.guard }], guard := some (3, true) } : Oper)) (v := undef) rfl (by kernel_rfl) (by kernel_rfl) (by kernel_rfl) (fun _ _ _ h => h) (Or.inr ⟨by rfl, rfl⟩) (by assumption) ?_
        try simp only [Act.put, List.setIfInBounds_toArray, List.set_cons_zero, List.set_cons_succ]
        refine wpAnyH_take (i := 9) (oi := ({ dst := some 55, op := Op.move (Operand.tmp 5), type := 3, pos := "l07_store.go:97", after := #[{ on := 3, ground := Ground.guard }], guard := some (3, true) } : Oper)) (v := undef) rfl (by kernel_rfl) (by kernel_rfl) (by kernel_rfl) (fun _ _ _ h => h) (Or.inr ⟨by rfl, rfl⟩) (by assumption) ?_
        try simp only [Act.put, List.setIfInBounds_toArray, List.set_cons_zero, List.set_cons_succ]
        refine wpAnyH_take (i := 10) (oi := ({ dst := some 56, op := Op.indexAddr 34 (Operand.tmp 54) (Operand.tmp 55), type := 0, pos := "l07_store.go:97", after := #[{ on := 8, ground := Ground.data }, { on := 9, ground := Ground.data }, { on := 3, ground := Ground.guard }], guard := some (3, true) } : Oper)) (v := undef) rfl (by kernel_rfl) (by kernel_rfl) (by kernel_rfl) (fun _ _ _ h => h) (Or.inr ⟨by rfl, rfl⟩) (by assumption) ?_
        try simp only [Act.put, List.setIfInBounds_toArray, List.set_cons_zero, List.set_cons_succ]
        refine wpAnyH_take (i := 11) (oi := ({ dst := some 57, op := Op.load 50 (Operand.tmp 56), type := 50, pos := "l07_store.go:97", after := #[{ on := 10, ground := Ground.data }, { on := 3, ground := Ground.guard }], guard := some (3, true) } : Oper)) (v := undef) rfl (by kernel_rfl) (by kernel_rfl) (by kernel_rfl) (fun _ _ _ h => h) (Or.inr ⟨by rfl, rfl⟩) (by assumption) ?_
        try simp only [Act.put, List.setIfInBounds_toArray, List.set_cons_zero, List.set_cons_succ]
        refine wpAnyH_ready (rs := [12]) (by kernel_rfl) (by simp) ?_
        refine AllReadyH.cons (o := ({ dst := some 58, op := Op.call { callee := Callee.value (Operand.func 61), args := #[Operand.tmp 50, Operand.tmp 57], argTypes := #[50, 50] }, type := 4, pos := "l07_store.go:97", after := #[{ on := 4, ground := Ground.data }, { on := 11, ground := Ground.data }, { on := 3, ground := Ground.chain }, { on := 3, ground := Ground.guard }], guard := some (3, true) } : Oper)) rfl (fun K hK => ?_) AllReadyH.nil
        split
        · rename_i hwt
          exact absurd (show false = true from hwt) Bool.false_ne_true
        refine hK.out _ _ (by assumption) (fun hHeld => ?_)
        clear hK K
        try simp only [Act.put, List.setIfInBounds_toArray, List.set_cons_zero, List.set_cons_succ]
        refine wpAnyH_take (i := 13) (oi := ({ dst := some 59, op := Op.unOp UnOp.not 4 (Operand.tmp 58), type := 4, pos := "l07_store.go:97", after := #[{ on := 12, ground := Ground.data }, { on := 3, ground := Ground.guard }], guard := some (3, true) } : Oper)) (v := undef) rfl (by kernel_rfl) (by kernel_rfl) (by kernel_rfl) (fun _ _ _ h => h) (Or.inr ⟨by rfl, rfl⟩) (by assumption) ?_
        try simp only [Act.put, List.setIfInBounds_toArray, List.set_cons_zero, List.set_cons_succ]
        refine wpAnyH_take (i := 14) (oi := ({ dst := some 60, op := Op.pick (Operand.tmp 49) (Operand.tmp 59) (Operand.const (Value.bool false)), type := 4, pos := "l07_store.go:97", after := #[{ on := 3, ground := Ground.data }, { on := 13, ground := Ground.data }], guard := none } : Oper)) (v := ?_) rfl (by kernel_rfl) (by kernel_rfl) (by kernel_rfl) (fun _ _ _ h => h) (Or.inl ⟨by rfl, ?_⟩) (by assumption) ?_
        rotate_left
        · (intro w hSw; (try dsimp only at hSw); go_simp; try with_reducible rfl)
        try simp only [Act.put, List.setIfInBounds_toArray, List.set_cons_zero, List.set_cons_succ]
        refine wpAnyH_done (by kernel_rfl) ?_ _
        go_wp2
        go_roundw
        case rel =>
          refine ⟨k + 1, by omega, by go_num, ?_, HXs.out.below hC6, below_next hbs hC6⟩
          intro j hj hn
          by_cases e : j = k
          · subst e; exact absurd Hfr.out hn
          · exact Hall.out j (by omega) hn
        case measure => simp [intOf]; omega
      · have Hfr := hideW hfr
        clear hfr
        by_cases hq : SlotEq (S.safe.pool.s k) (S.live.pool.s k)
        · have Hq := hideW hq
          clear hq
          refine wp_region_held_drew (S := (fun w' => w'.cell? ⟨w.heap.size, 0, none⟩ = some (.slice (some ⟨b', off', none⟩) S.live.pool.n lc) ∧ w'.cell? ⟨w.heap.size, 1, none⟩ = some (v1) ∧ w'.cell? ⟨w.heap.size, 2, none⟩ = some (.int .i64 S.live.time) ∧ w'.cell? ⟨w.heap.size, 3, none⟩ = some (.int .i64 S.live.next) ∧ w'.cell? ⟨w.heap.size, 4, none⟩ = some (v2) ∧ w'.cell? ⟨w.heap.size, 5, none⟩ = some (v3) ∧ w'.cell? ⟨V, 0, none⟩ = some (.int .i64 (S.safe.pool.s k).birth) ∧ w'.cell? ⟨V, 1, none⟩ = some (.slice ka (S.safe.pool.s k).kn kc) ∧ w'.cell? ⟨V, 2, none⟩ = some (.string (S.safe.pool.s k).data) ∧ w'.cell? ⟨b', off' + k * 3, none⟩ = some (.int .i64 (S.live.pool.s k).birth) ∧ w'.cell? ⟨b', off' + k * 3 + 1, none⟩ = some (.slice pa (S.live.pool.s k).kn pc) ∧ w'.cell? ⟨b', off' + k * 3 + 2, none⟩ = some (.string (S.live.pool.s k).data))) (by kernel_rfl) ?_ (fun hHeld => ?_)
          · (try dsimp only)
            go_keep
          refine wpAnyH_take (i := 0) (oi := ({ dst := some 46, op := Op.load 50 (Operand.tmp 6), type := 50, pos := "l07_store.go:97", after := #[], guard := none } : Oper)) (v := ?_) rfl (by kernel_rfl) (by kernel_rfl) (by kernel_rfl) (fun _ _ _ h => h) (Or.inl ⟨by rfl, ?_⟩) (by assumption) ?_
          rotate_left
          · (intro w hSw; (try dsimp only at hSw); go_simp; try with_reducible rfl)
          try simp only [Act.put, List.setIfInBounds_toArray, List.set_cons_zero, List.set_cons_succ]
          refine wpAnyH_ready (rs := [1]) (by kernel_rfl) (by simp) ?_
          refine AllReadyH.cons (o := ({ dst := some 47, op := Op.call { callee := Callee.value (Operand.func 60), args := #[Operand.tmp 46], argTypes := #[50] }, type := 4, pos := "l07_store.go:97", after := #[{ on := 0, ground := Ground.data }], guard := none } : Oper)) rfl (fun K hK => ?_) AllReadyH.nil
          go_simp
          go_at_call 60
          refine (isFree_any _ _ _ lo hi (S.safe.pool.s k) _ ?_).mono ?_
          · exact HSl.out.below (below_drewN (Below.refl _ _) 1)
          rintro e w6 ⟨⟨t6, rfl, ht6⟩, hb6⟩
          obtain rfl : t6 = false := bool_no ht6 Hfr.out
          clear ht6
          have hC6 : Below W5.heap.size W5 w6 := (by first | exact hb6 | exact below_undrew hb6)
          obtain ⟨⟨m0, -⟩, ⟨m1, -⟩, ⟨m2, -⟩, ⟨m3, -⟩, ⟨m4, -⟩, ⟨m5, -⟩⟩ := HXs.out.below hC6
          obtain ⟨⟨Z0, -⟩, ⟨Z1, -⟩, ⟨Z2, -⟩⟩ := HV.out.below hC6
          have RR0 := (hC6.cell (lt_of_cell R0)).trans R0
          have RR1 := (hC6.cell (lt_of_cell R1)).trans R1
          have RR2 := (hC6.cell (lt_of_cell R2)).trans R2
          (try go_wp2_with fail)
          refine hK.out _ _ ?_ (fun hHeldN => ?_)
          · (try dsimp only)
            go_keep
          clear hK K hHeld
          have hHeld := hHeldN
          clear hHeldN
          try simp only [Act.put, List.setIfInBounds_toArray, List.set_cons_zero, List.set_cons_succ]
          refine wpAnyH_take (i := 2) (oi := ({ dst := some 48, op := Op.unOp UnOp.not 4 (Operand.tmp 47), type := 4, pos := "l07_store.go:97", after := #[{ on := 1, ground := Ground.data }], guard := none } : Oper)) (v := ?_) rfl (by kernel_rfl) (by kernel_rfl) (by kernel_rfl) (fun _ _ _ h => h) (Or.inl ⟨by rfl, ?_⟩) (by assumption) ?_
          rotate_left
          · (intro w hSw; (try dsimp only at hSw); go_simp; try with_reducible rfl)
          try simp only [Act.put, List.setIfInBounds_toArray, List.set_cons_zero, List.set_cons_succ]
          refine wpAnyH_take (i := 3) (oi := ({ dst := some 49, op := Op.move (Operand.tmp 48), type := 4, pos := "l07_store.go:97", after := #[{ on := 2, ground := Ground.data }, { on := 1, ground := Ground.chain }], guard := none } : Oper)) (v := ?_) rfl (by kernel_rfl) (by kernel_rfl) (by kernel_rfl) (fun _ _ _ h => h) (Or.inl ⟨by rfl, ?_⟩) (by assumption) ?_
          rotate_left
          · (intro w hSw; (try dsimp only at hSw); go_simp; try with_reducible rfl)
          try simp only [Act.put, List.setIfInBounds_toArray, List.set_cons_zero, List.set_cons_succ]
          refine wpAnyH_take (i := 4) (oi := ({ dst := some 50, op := Op.load 50 (Operand.tmp 6), type := 50, pos := "l07_store.go:97", after := #[{ on := 3, ground := Ground.guard }], guard := some (3, true) } : Oper)) (v := ?_) rfl (by kernel_rfl) (by kernel_rfl) (by kernel_rfl) (fun _ _ _ h => h) (Or.inl ⟨by rfl, ?_⟩) (by assumption) ?_
          rotate_left
          · (intro w hSw; (try dsimp only at hSw); go_simp; try with_reducible rfl)
          try simp only [Act.put, List.setIfInBounds_toArray, List.set_cons_zero, List.set_cons_succ]
          refine wpAnyH_take (i := 5) (oi := ({ dst := some 51, op := Op.fieldAddr 55 (Operand.tmp 2) 0, type := 0, pos := "l07_store.go:97", after := #[{ on := 3, ground := Ground.guard }], guard := some (3, true) } : Oper)) (v := ?_) rfl (by kernel_rfl) (by kernel_rfl) (by kernel_rfl) (fun _ _ _ h => h) (Or.inl ⟨by rfl, ?_⟩) (by assumption) ?_
          rotate_left
          · (intro w hSw; (try dsimp only at hSw); go_simp; try with_reducible rfl)
          try simp only [Act.put, List.setIfInBounds_toArray, List.set_cons_zero, List.set_cons_succ]
          refine wpAnyH_take (i := 6) (oi := ({ dst := some 52, op := Op.fieldAddr 40 (Operand.tmp 51) 0, type := 0, pos := "l07_store.go:97", after := #[{ on := 5, ground := Ground.data }, { on := 3, ground := Ground.guard }], guard := some (3, true) } : Oper)) (v := ?_) rfl (by kernel_rfl) (by kernel_rfl) (by kernel_rfl) (fun _ _ _ h => h) (Or.inl ⟨by rfl, ?_⟩) (by assumption) ?_
          rotate_left
          · (intro w hSw; (try dsimp only at hSw); go_simp; try with_reducible rfl)
          try simp only [Act.put, List.setIfInBounds_toArray, List.set_cons_zero, List.set_cons_succ]
          refine wpAnyH_take (i := 7) (oi := ({ dst := some 53, op := Op.fieldAddr 36 (Operand.tmp 52) 0, type := 0, pos := "l07_store.go:97", after := #[{ on := 6, ground := Ground.data }, { on := 3, ground := Ground.guard }], guard := some (3, true) } : Oper)) (v := ?_) rfl (by kernel_rfl) (by kernel_rfl) (by kernel_rfl) (fun _ _ _ h => h) (Or.inl ⟨by rfl, ?_⟩) (by assumption) ?_
          rotate_left
          · (intro w hSw; (try dsimp only at hSw); go_simp; try with_reducible rfl)
          try simp only [Act.put, List.setIfInBounds_toArray, List.set_cons_zero, List.set_cons_succ]
          refine wpAnyH_take (i := 8) (oi := ({ dst := some 54, op := Op.load 34 (Operand.tmp 53), type := 34, pos := "l07_store.go:97", after := #[{ on := 7, ground := Ground.data }, { on := 3, ground := Ground.guard }], guard := some (3, true) } : Oper)) (v := ?_) rfl (by kernel_rfl) (by kernel_rfl) (by kernel_rfl) (fun _ _ _ h => h) (Or.inl ⟨by rfl, ?_⟩) (by assumption) ?_
          rotate_left
          · (intro w hSw; (try dsimp only at hSw); go_simp; try with_reducible rfl)
          try simp only [Act.put, List.setIfInBounds_toArray, List.set_cons_zero, List.set_cons_succ]
          refine wpAnyH_take (i := 9) (oi := ({ dst := some 55, op := Op.move (Operand.tmp 5), type := 3, pos := "l07_store.go:97", after := #[{ on := 3, ground := Ground.guard }], guard := some (3, true) } : Oper)) (v := ?_) rfl (by kernel_rfl) (by kernel_rfl) (by kernel_rfl) (fun _ _ _ h => h) (Or.inl ⟨by rfl, ?_⟩) (by assumption) ?_
          rotate_left
          · (intro w hSw; (try dsimp only at hSw); go_simp; try with_reducible rfl)
          try simp only [Act.put, List.setIfInBounds_toArray, List.set_cons_zero, List.set_cons_succ]
          refine wpAnyH_take (i := 10) (oi := ({ dst := some 56, op := Op.indexAddr 34 (Operand.tmp 54) (Operand.tmp 55), type := 0, pos := "l07_store.go:97", after := #[{ on := 8, ground := Ground.data }, { on := 9, ground := Ground.data }, { on := 3, ground := Ground.guard }], guard := some (3, true) } : Oper)) (v := ?_) rfl (by kernel_rfl) (by kernel_rfl) (by kernel_rfl) (fun _ _ _ h => h) (Or.inl ⟨by rfl, ?_⟩) (by assumption) ?_
          rotate_left
          · (intro w hSw; (try dsimp only at hSw); go_simp; try with_reducible rfl)
          try simp only [Act.put, List.setIfInBounds_toArray, List.set_cons_zero, List.set_cons_succ]
          refine wpAnyH_take (i := 11) (oi := ({ dst := some 57, op := Op.load 50 (Operand.tmp 56), type := 50, pos := "l07_store.go:97", after := #[{ on := 10, ground := Ground.data }, { on := 3, ground := Ground.guard }], guard := some (3, true) } : Oper)) (v := ?_) rfl (by kernel_rfl) (by kernel_rfl) (by kernel_rfl) (fun _ _ _ h => h) (Or.inl ⟨by rfl, ?_⟩) (by assumption) ?_
          rotate_left
          · (intro w hSw; (try dsimp only at hSw); go_simp; try with_reducible rfl)
          try simp only [Act.put, List.setIfInBounds_toArray, List.set_cons_zero, List.set_cons_succ]
          refine wpAnyH_ready (rs := [12]) (by kernel_rfl) (by simp) ?_
          refine AllReadyH.cons (o := ({ dst := some 58, op := Op.call { callee := Callee.value (Operand.func 61), args := #[Operand.tmp 50, Operand.tmp 57], argTypes := #[50, 50] }, type := 4, pos := "l07_store.go:97", after := #[{ on := 4, ground := Ground.data }, { on := 11, ground := Ground.data }, { on := 3, ground := Ground.chain }, { on := 3, ground := Ground.guard }], guard := some (3, true) } : Oper)) rfl (fun K hK => ?_) AllReadyH.nil
          go_simp
          go_at_call 61
          refine (slotSame_any lo hi lo hi (S.safe.pool.s k) (S.live.pool.s k) ka pa kc pc _ ?_ ?_).mono ?_
          · exact HSl.out.below hC6
          · exact HSl'.out.below hC6
          rintro e w7 ⟨⟨t7, rfl, ht7⟩, hb7⟩
          obtain rfl : t7 = true := ht7.2 Hq.out
          clear ht7
          have hC7 := below_next hC6 hb7
          obtain ⟨⟨n0, -⟩, ⟨n1, -⟩, ⟨n2, -⟩, ⟨n3, -⟩, ⟨n4, -⟩, ⟨n5, -⟩⟩ := HXs.out.below hC7
          obtain ⟨⟨y0, -⟩, ⟨y1, -⟩, ⟨y2, -⟩⟩ := HV.out.below hC7
          have s0 := (hC7.cell (lt_of_cell R0)).trans R0
          have s1 := (hC7.cell (lt_of_cell R1)).trans R1
          have s2 := (hC7.cell (lt_of_cell R2)).trans R2
          (try go_wp2_with fail)
          refine hK.out _ _ ?_ (fun hHeldN => ?_)
          · (try dsimp only)
            go_keep
          clear hK K hHeld
          have hHeld := hHeldN
          clear hHeldN
          try simp only [Act.put, List.setIfInBounds_toArray, List.set_cons_zero, List.set_cons_succ]
          refine wpAnyH_take (i := 13) (oi := ({ dst := some 59, op := Op.unOp UnOp.not 4 (Operand.tmp 58), type := 4, pos := "l07_store.go:97", after := #[{ on := 12, ground := Ground.data }, { on := 3, ground := Ground.guard }], guard := some (3, true) } : Oper)) (v := ?_) rfl (by kernel_rfl) (by kernel_rfl) (by kernel_rfl) (fun _ _ _ h => h) (Or.inl ⟨by rfl, ?_⟩) (by assumption) ?_
          rotate_left
          · (intro w hSw; (try dsimp only at hSw); go_simp; try with_reducible rfl)
          try simp only [Act.put, List.setIfInBounds_toArray, List.set_cons_zero, List.set_cons_succ]
          refine wpAnyH_take (i := 14) (oi := ({ dst := some 60, op := Op.pick (Operand.tmp 49) (Operand.tmp 59) (Operand.const (Value.bool false)), type := 4, pos := "l07_store.go:97", after := #[{ on := 3, ground := Ground.data }, { on := 13, ground := Ground.data }], guard := none } : Oper)) (v := ?_) rfl (by kernel_rfl) (by kernel_rfl) (by kernel_rfl) (fun _ _ _ h => h) (Or.inl ⟨by rfl, ?_⟩) (by assumption) ?_
          rotate_left
          · (intro w hSw; (try dsimp only at hSw); go_simp; try with_reducible rfl)
          try simp only [Act.put, List.setIfInBounds_toArray, List.set_cons_zero, List.set_cons_succ]
          refine wpAnyH_done (by kernel_rfl) ?_ _
          go_wp2
          go_roundw
          case rel =>
            refine ⟨k + 1, by omega, by go_num, ?_, HXs.out.below hC7, below_next hbs hC7⟩
            intro j hj hn
            by_cases e : j = k
            · subst e; exact Hq.out
            · exact Hall.out j (by omega) hn
          case measure => simp [intOf]; omega
        · have Hq := hideW hq
          clear hq
          refine wp_region_held_drew (S := (fun w' => w'.cell? ⟨w.heap.size, 0, none⟩ = some (.slice (some ⟨b', off', none⟩) S.live.pool.n lc) ∧ w'.cell? ⟨w.heap.size, 1, none⟩ = some (v1) ∧ w'.cell? ⟨w.heap.size, 2, none⟩ = some (.int .i64 S.live.time) ∧ w'.cell? ⟨w.heap.size, 3, none⟩ = some (.int .i64 S.live.next) ∧ w'.cell? ⟨w.heap.size, 4, none⟩ = some (v2) ∧ w'.cell? ⟨w.heap.size, 5, none⟩ = some (v3) ∧ w'.cell? ⟨V, 0, none⟩ = some (.int .i64 (S.safe.pool.s k).birth) ∧ w'.cell? ⟨V, 1, none⟩ = some (.slice ka (S.safe.pool.s k).kn kc) ∧ w'.cell? ⟨V, 2, none⟩ = some (.string (S.safe.pool.s k).data) ∧ w'.cell? ⟨b', off' + k * 3, none⟩ = some (.int .i64 (S.live.pool.s k).birth) ∧ w'.cell? ⟨b', off' + k * 3 + 1, none⟩ = some (.slice pa (S.live.pool.s k).kn pc) ∧ w'.cell? ⟨b', off' + k * 3 + 2, none⟩ = some (.string (S.live.pool.s k).data))) (by kernel_rfl) ?_ (fun hHeld => ?_)
          · (try dsimp only)
            go_keep
          refine wpAnyH_take (i := 0) (oi := ({ dst := some 46, op := Op.load 50 (Operand.tmp 6), type := 50, pos := "l07_store.go:97", after := #[], guard := none } : Oper)) (v := ?_) rfl (by kernel_rfl) (by kernel_rfl) (by kernel_rfl) (fun _ _ _ h => h) (Or.inl ⟨by rfl, ?_⟩) (by assumption) ?_
          rotate_left
          · (intro w hSw; (try dsimp only at hSw); go_simp; try with_reducible rfl)
          try simp only [Act.put, List.setIfInBounds_toArray, List.set_cons_zero, List.set_cons_succ]
          refine wpAnyH_ready (rs := [1]) (by kernel_rfl) (by simp) ?_
          refine AllReadyH.cons (o := ({ dst := some 47, op := Op.call { callee := Callee.value (Operand.func 60), args := #[Operand.tmp 46], argTypes := #[50] }, type := 4, pos := "l07_store.go:97", after := #[{ on := 0, ground := Ground.data }], guard := none } : Oper)) rfl (fun K hK => ?_) AllReadyH.nil
          go_simp
          go_at_call 60
          refine (isFree_any _ _ _ lo hi (S.safe.pool.s k) _ ?_).mono ?_
          · exact HSl.out.below (below_drewN (Below.refl _ _) 1)
          rintro e w6 ⟨⟨t6, rfl, ht6⟩, hb6⟩
          obtain rfl : t6 = false := bool_no ht6 Hfr.out
          clear ht6
          have hC6 : Below W5.heap.size W5 w6 := (by first | exact hb6 | exact below_undrew hb6)
          obtain ⟨⟨m0, -⟩, ⟨m1, -⟩, ⟨m2, -⟩, ⟨m3, -⟩, ⟨m4, -⟩, ⟨m5, -⟩⟩ := HXs.out.below hC6
          obtain ⟨⟨Z0, -⟩, ⟨Z1, -⟩, ⟨Z2, -⟩⟩ := HV.out.below hC6
          have RR0 := (hC6.cell (lt_of_cell R0)).trans R0
          have RR1 := (hC6.cell (lt_of_cell R1)).trans R1
          have RR2 := (hC6.cell (lt_of_cell R2)).trans R2
          (try go_wp2_with fail)
          refine hK.out _ _ ?_ (fun hHeldN => ?_)
          · (try dsimp only)
            go_keep
          clear hK K hHeld
          have hHeld := hHeldN
          clear hHeldN
          try simp only [Act.put, List.setIfInBounds_toArray, List.set_cons_zero, List.set_cons_succ]
          refine wpAnyH_take (i := 2) (oi := ({ dst := some 48, op := Op.unOp UnOp.not 4 (Operand.tmp 47), type := 4, pos := "l07_store.go:97", after := #[{ on := 1, ground := Ground.data }], guard := none } : Oper)) (v := ?_) rfl (by kernel_rfl) (by kernel_rfl) (by kernel_rfl) (fun _ _ _ h => h) (Or.inl ⟨by rfl, ?_⟩) (by assumption) ?_
          rotate_left
          · (intro w hSw; (try dsimp only at hSw); go_simp; try with_reducible rfl)
          try simp only [Act.put, List.setIfInBounds_toArray, List.set_cons_zero, List.set_cons_succ]
          refine wpAnyH_take (i := 3) (oi := ({ dst := some 49, op := Op.move (Operand.tmp 48), type := 4, pos := "l07_store.go:97", after := #[{ on := 2, ground := Ground.data }, { on := 1, ground := Ground.chain }], guard := none } : Oper)) (v := ?_) rfl (by kernel_rfl) (by kernel_rfl) (by kernel_rfl) (fun _ _ _ h => h) (Or.inl ⟨by rfl, ?_⟩) (by assumption) ?_
          rotate_left
          · (intro w hSw; (try dsimp only at hSw); go_simp; try with_reducible rfl)
          try simp only [Act.put, List.setIfInBounds_toArray, List.set_cons_zero, List.set_cons_succ]
          refine wpAnyH_take (i := 4) (oi := ({ dst := some 50, op := Op.load 50 (Operand.tmp 6), type := 50, pos := "l07_store.go:97", after := #[{ on := 3, ground := Ground.guard }], guard := some (3, true) } : Oper)) (v := ?_) rfl (by kernel_rfl) (by kernel_rfl) (by kernel_rfl) (fun _ _ _ h => h) (Or.inl ⟨by rfl, ?_⟩) (by assumption) ?_
          rotate_left
          · (intro w hSw; (try dsimp only at hSw); go_simp; try with_reducible rfl)
          try simp only [Act.put, List.setIfInBounds_toArray, List.set_cons_zero, List.set_cons_succ]
          refine wpAnyH_take (i := 5) (oi := ({ dst := some 51, op := Op.fieldAddr 55 (Operand.tmp 2) 0, type := 0, pos := "l07_store.go:97", after := #[{ on := 3, ground := Ground.guard }], guard := some (3, true) } : Oper)) (v := ?_) rfl (by kernel_rfl) (by kernel_rfl) (by kernel_rfl) (fun _ _ _ h => h) (Or.inl ⟨by rfl, ?_⟩) (by assumption) ?_
          rotate_left
          · (intro w hSw; (try dsimp only at hSw); go_simp; try with_reducible rfl)
          try simp only [Act.put, List.setIfInBounds_toArray, List.set_cons_zero, List.set_cons_succ]
          refine wpAnyH_take (i := 6) (oi := ({ dst := some 52, op := Op.fieldAddr 40 (Operand.tmp 51) 0, type := 0, pos := "l07_store.go:97", after := #[{ on := 5, ground := Ground.data }, { on := 3, ground := Ground.guard }], guard := some (3, true) } : Oper)) (v := ?_) rfl (by kernel_rfl) (by kernel_rfl) (by kernel_rfl) (fun _ _ _ h => h) (Or.inl ⟨by rfl, ?_⟩) (by assumption) ?_
          rotate_left
          · (intro w hSw; (try dsimp only at hSw); go_simp; try with_reducible rfl)
          try simp only [Act.put, List.setIfInBounds_toArray, List.set_cons_zero, List.set_cons_succ]
          refine wpAnyH_take (i := 7) (oi := ({ dst := some 53, op := Op.fieldAddr 36 (Operand.tmp 52) 0, type := 0, pos := "l07_store.go:97", after := #[{ on := 6, ground := Ground.data }, { on := 3, ground := Ground.guard }], guard := some (3, true) } : Oper)) (v := ?_) rfl (by kernel_rfl) (by kernel_rfl) (by kernel_rfl) (fun _ _ _ h => h) (Or.inl ⟨by rfl, ?_⟩) (by assumption) ?_
          rotate_left
          · (intro w hSw; (try dsimp only at hSw); go_simp; try with_reducible rfl)
          try simp only [Act.put, List.setIfInBounds_toArray, List.set_cons_zero, List.set_cons_succ]
          refine wpAnyH_take (i := 8) (oi := ({ dst := some 54, op := Op.load 34 (Operand.tmp 53), type := 34, pos := "l07_store.go:97", after := #[{ on := 7, ground := Ground.data }, { on := 3, ground := Ground.guard }], guard := some (3, true) } : Oper)) (v := ?_) rfl (by kernel_rfl) (by kernel_rfl) (by kernel_rfl) (fun _ _ _ h => h) (Or.inl ⟨by rfl, ?_⟩) (by assumption) ?_
          rotate_left
          · (intro w hSw; (try dsimp only at hSw); go_simp; try with_reducible rfl)
          try simp only [Act.put, List.setIfInBounds_toArray, List.set_cons_zero, List.set_cons_succ]
          refine wpAnyH_take (i := 9) (oi := ({ dst := some 55, op := Op.move (Operand.tmp 5), type := 3, pos := "l07_store.go:97", after := #[{ on := 3, ground := Ground.guard }], guard := some (3, true) } : Oper)) (v := ?_) rfl (by kernel_rfl) (by kernel_rfl) (by kernel_rfl) (fun _ _ _ h => h) (Or.inl ⟨by rfl, ?_⟩) (by assumption) ?_
          rotate_left
          · (intro w hSw; (try dsimp only at hSw); go_simp; try with_reducible rfl)
          try simp only [Act.put, List.setIfInBounds_toArray, List.set_cons_zero, List.set_cons_succ]
          refine wpAnyH_take (i := 10) (oi := ({ dst := some 56, op := Op.indexAddr 34 (Operand.tmp 54) (Operand.tmp 55), type := 0, pos := "l07_store.go:97", after := #[{ on := 8, ground := Ground.data }, { on := 9, ground := Ground.data }, { on := 3, ground := Ground.guard }], guard := some (3, true) } : Oper)) (v := ?_) rfl (by kernel_rfl) (by kernel_rfl) (by kernel_rfl) (fun _ _ _ h => h) (Or.inl ⟨by rfl, ?_⟩) (by assumption) ?_
          rotate_left
          · (intro w hSw; (try dsimp only at hSw); go_simp; try with_reducible rfl)
          try simp only [Act.put, List.setIfInBounds_toArray, List.set_cons_zero, List.set_cons_succ]
          refine wpAnyH_take (i := 11) (oi := ({ dst := some 57, op := Op.load 50 (Operand.tmp 56), type := 50, pos := "l07_store.go:97", after := #[{ on := 10, ground := Ground.data }, { on := 3, ground := Ground.guard }], guard := some (3, true) } : Oper)) (v := ?_) rfl (by kernel_rfl) (by kernel_rfl) (by kernel_rfl) (fun _ _ _ h => h) (Or.inl ⟨by rfl, ?_⟩) (by assumption) ?_
          rotate_left
          · (intro w hSw; (try dsimp only at hSw); go_simp; try with_reducible rfl)
          try simp only [Act.put, List.setIfInBounds_toArray, List.set_cons_zero, List.set_cons_succ]
          refine wpAnyH_ready (rs := [12]) (by kernel_rfl) (by simp) ?_
          refine AllReadyH.cons (o := ({ dst := some 58, op := Op.call { callee := Callee.value (Operand.func 61), args := #[Operand.tmp 50, Operand.tmp 57], argTypes := #[50, 50] }, type := 4, pos := "l07_store.go:97", after := #[{ on := 4, ground := Ground.data }, { on := 11, ground := Ground.data }, { on := 3, ground := Ground.chain }, { on := 3, ground := Ground.guard }], guard := some (3, true) } : Oper)) rfl (fun K hK => ?_) AllReadyH.nil
          go_simp
          go_at_call 61
          refine (slotSame_any lo hi lo hi (S.safe.pool.s k) (S.live.pool.s k) ka pa kc pc _ ?_ ?_).mono ?_
          · exact HSl.out.below hC6
          · exact HSl'.out.below hC6
          rintro e w7 ⟨⟨t7, rfl, ht7⟩, hb7⟩
          obtain rfl : t7 = false := bool_no ht7 Hq.out
          clear ht7
          have hC7 := below_next hC6 hb7
          obtain ⟨⟨n0, -⟩, ⟨n1, -⟩, ⟨n2, -⟩, ⟨n3, -⟩, ⟨n4, -⟩, ⟨n5, -⟩⟩ := HXs.out.below hC7
          obtain ⟨⟨y0, -⟩, ⟨y1, -⟩, ⟨y2, -⟩⟩ := HV.out.below hC7
          have s0 := (hC7.cell (lt_of_cell R0)).trans R0
          have s1 := (hC7.cell (lt_of_cell R1)).trans R1
          have s2 := (hC7.cell (lt_of_cell R2)).trans R2
          (try go_wp2_with fail)
          refine hK.out _ _ ?_ (fun hHeldN => ?_)
          · (try dsimp only)
            go_keep
          clear hK K hHeld
          have hHeld := hHeldN
          clear hHeldN
          try simp only [Act.put, List.setIfInBounds_toArray, List.set_cons_zero, List.set_cons_succ]
          refine wpAnyH_take (i := 13) (oi := ({ dst := some 59, op := Op.unOp UnOp.not 4 (Operand.tmp 58), type := 4, pos := "l07_store.go:97", after := #[{ on := 12, ground := Ground.data }, { on := 3, ground := Ground.guard }], guard := some (3, true) } : Oper)) (v := ?_) rfl (by kernel_rfl) (by kernel_rfl) (by kernel_rfl) (fun _ _ _ h => h) (Or.inl ⟨by rfl, ?_⟩) (by assumption) ?_
          rotate_left
          · (intro w hSw; (try dsimp only at hSw); go_simp; try with_reducible rfl)
          try simp only [Act.put, List.setIfInBounds_toArray, List.set_cons_zero, List.set_cons_succ]
          refine wpAnyH_take (i := 14) (oi := ({ dst := some 60, op := Op.pick (Operand.tmp 49) (Operand.tmp 59) (Operand.const (Value.bool false)), type := 4, pos := "l07_store.go:97", after := #[{ on := 3, ground := Ground.data }, { on := 13, ground := Ground.data }], guard := none } : Oper)) (v := ?_) rfl (by kernel_rfl) (by kernel_rfl) (by kernel_rfl) (fun _ _ _ h => h) (Or.inl ⟨by rfl, ?_⟩) (by assumption) ?_
          rotate_left
          · (intro w hSw; (try dsimp only at hSw); go_simp; try with_reducible rfl)
          try simp only [Act.put, List.setIfInBounds_toArray, List.set_cons_zero, List.set_cons_succ]
          refine wpAnyH_done (by kernel_rfl) ?_ _
          go_wp2
          go_ret
          exact ⟨BoolIs.no fun h => Hq.out (h.slots k hlt Hfr.out), below_next hbs hC7⟩
    · obtain rfl : k = S.safe.pool.n := by omega
      go_wp2
      go_ret
      exact ⟨BoolIs.yes ⟨E1.out, E3.out, E4.out, Hall.out⟩, hb⟩

end Go.Proofs.YtebegmdbpapfgabGreat
