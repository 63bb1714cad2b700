/- What impl.layAnew answers. -/
import Derived.Test.YtikhipekmlhibaaG20
namespace Go.Proofs.Ytikhipekmlhibaa
open Go Go.RowKit
set_option linter.unusedVariables false

theorem startLay (w : World) (a0 a1 x0 x1 : Value) (f : Nat → Value) (t1 t2 t3 t4 : TypeId) :
    Box2 ((((w.alloc (.cells #[a0, a1] t1)).alloc (.cells (wayF f) t2)).alloc (.cells #[x0, x1] t3)).alloc (.cells #[.slice none 0 0, .slice none 0 0, .int .i64 0, .int .i64 0, .slice none 0 0, .int .i64 0] t4)) w.heap.size a0 a1 ∧
    WayAt ((((w.alloc (.cells #[a0, a1] t1)).alloc (.cells (wayF f) t2)).alloc (.cells #[x0, x1] t3)).alloc (.cells #[.slice none 0 0, .slice none 0 0, .int .i64 0, .int .i64 0, .slice none 0 0, .int .i64 0] t4)) (w.heap.size + 1) f ∧
    Box2 ((((w.alloc (.cells #[a0, a1] t1)).alloc (.cells (wayF f) t2)).alloc (.cells #[x0, x1] t3)).alloc (.cells #[.slice none 0 0, .slice none 0 0, .int .i64 0, .int .i64 0, .slice none 0 0, .int .i64 0] t4)) (w.heap.size + 1 + 1) x0 x1 ∧
    Box6 ((((w.alloc (.cells #[a0, a1] t1)).alloc (.cells (wayF f) t2)).alloc (.cells #[x0, x1] t3)).alloc (.cells #[.slice none 0 0, .slice none 0 0, .int .i64 0, .int .i64 0, .slice none 0 0, .int .i64 0] t4)) (w.heap.size + 1 + 1 + 1) (.slice none 0 0) (.slice none 0 0) (.int .i64 0) (.int .i64 0) (.slice none 0 0) (.int .i64 0) ∧
    Below w.heap.size w ((((w.alloc (.cells #[a0, a1] t1)).alloc (.cells (wayF f) t2)).alloc (.cells #[x0, x1] t3)).alloc (.cells #[.slice none 0 0, .slice none 0 0, .int .i64 0, .int .i64 0, .slice none 0 0, .int .i64 0] t4)) ∧
    ((((w.alloc (.cells #[a0, a1] t1)).alloc (.cells (wayF f) t2)).alloc (.cells #[x0, x1] t3)).alloc (.cells #[.slice none 0 0, .slice none 0 0, .int .i64 0, .int .i64 0, .slice none 0 0, .int .i64 0] t4)).heap.size = w.heap.size + 4 := by
  have b1 := below_alloc w (.cells #[a0, a1] t1)
  have b2 := below_alloc (w.alloc (.cells #[a0, a1] t1)) (.cells (wayF f) t2)
  have b3 := below_alloc ((w.alloc (.cells #[a0, a1] t1)).alloc (.cells (wayF f) t2)) (.cells #[x0, x1] t3)
  have b4 := below_alloc (((w.alloc (.cells #[a0, a1] t1)).alloc (.cells (wayF f) t2)).alloc (.cells #[x0, x1] t3)) (.cells #[.slice none 0 0, .slice none 0 0, .int .i64 0, .int .i64 0, .slice none 0 0, .int .i64 0] t4)
  refine ⟨(((Box2.new w a0 a1 t1).below b2).below b3).below b4, ?_, ?_, ?_, below_next (below_next (below_next b1 b2) b3) b4, by simp⟩
  · have hw : WayAt ((w.alloc (.cells #[a0, a1] t1)).alloc (.cells (wayF f) t2)) (w.heap.size + 1) f := fun i hi => by
      have hb := heap_alloc_new (w.alloc (.cells #[a0, a1] t1)) (.cells (wayF f) t2)
      rw [World.size_alloc] at hb
      refine cell_of_block (i := i) hb ?_
      simp [wayF, hi]
    exact (hw.below b3).below b4
  · have := (Box2.new ((w.alloc (.cells #[a0, a1] t1)).alloc (.cells (wayF f) t2)) x0 x1 t3).below b4
    rw [World.size_alloc, World.size_alloc] at this
    exact this
  · have := Box6.new (((w.alloc (.cells #[a0, a1] t1)).alloc (.cells (wayF f) t2)).alloc (.cells #[x0, x1] t3)) (.slice none 0 0) (.slice none 0 0) (.int .i64 0) (.int .i64 0) (.slice none 0 0) (.int .i64 0) t4
    rw [World.size_alloc, World.size_alloc, World.size_alloc] at this
    exact this

/-- The loop of impl.layAnew behind k rounds. -/
def LayI (p : PoolD) (xs xb : Int) (n : Nat) (S : Nat → OutD) (o : Value) (w : World) (k : Nat) (wr : World) : Prop :=
  (∀ j, j ≤ k → (S j).code = 0) ∧ ∃ s0 s1, Box2 wr w.heap.size s0 s1 ∧ PoolAt wr 0 wr.heap.size s0 s1 (S k).pool ∧ (0 < k → PoolOwn wr (w.heap.size + 5) wr.heap.size s0 s1 (S k).pool) ∧
    Box2 wr (w.heap.size + 4) (.int .i64 (S k).ps) (.int .i64 (S k).pb) ∧ WayAt wr (w.heap.size + 1) (wayV p xs xb n 2 3 o) ∧
    Box6 wr (w.heap.size + 1 + 1 + 1) (.slice none 0 0) (.slice none 0 0) (.int .i64 0) (.int .i64 0) (.slice none 0 0) (.int .i64 0) ∧ w.heap.size + 5 ≤ wr.heap.size ∧ Below w.heap.size w wr
theorem SlotsAt.all {w : World} {lo hi : Nat} {v : Value} {n : Nat} {f : Nat → SlotD} (h : SlotsAt w lo hi v n f) : SlotsAt w 0 w.heap.size v n f := by
  obtain ⟨h0, a, cap, hv, hcc, hc⟩ := h
  refine ⟨h0, a, cap, hv, hcc, fun hn => ?_⟩
  obtain ⟨b, off, ha, h1, h2, h3⟩ := hc hn
  refine ⟨b, off, ha, Nat.zero_le _, ?_, fun i hi => ?_⟩
  · obtain ⟨v0, v1, v2, c0, _⟩ := h3 0 hn
    exact lt_of_cell c0
  · obtain ⟨v0, v1, v2, c0, c1, c2, hs⟩ := h3 i hi
    exact ⟨v0, v1, v2, c0, c1, c2, hs.all⟩
theorem PoolAt.all {w : World} {lo hi : Nat} {v0 v1 : Value} {p : PoolD} (h : PoolAt w lo hi v0 v1 p) : PoolAt w 0 w.heap.size v0 v1 p := ⟨h.1.all, h.2.all⟩

set_option maxRecDepth 20000 in
set_option maxHeartbeats 4000000 in
theorem layAnew_any (v0 v1 : Value) (lo hi : Nat) (p q : PoolD) (xs xb x y b : Int) (n : Nat) (o : Value) (w : World) (h1 : PoolAt w lo hi v0 v1 q) (hn : n < 64) (hq : poolN q + 16 ≤ 1048576) (hr : RowL w 0 o (oldW p xs xb n 3)) :
    Calls Try.prog 71 #[.agg #[v0, v1], .agg (wayF (wayV p xs xb n 2 3 o)), .agg #[.int .i64 x, .int .i64 y], .int .i64 b] w fun e w' =>
      ((layP p xs xb n b ⟨q, x, y, 0⟩).code ≠ 0 ∧ e = .returned (.agg #[.slice none 0 0, .slice none 0 0, .int .i64 0, .int .i64 0, .slice none 0 0, .int .i64 (layP p xs xb n b ⟨q, x, y, 0⟩).code]) ∧ Below w.heap.size w w') ∨
      ((layP p xs xb n b ⟨q, x, y, 0⟩).code = 0 ∧ ∃ s0 s1, e = .returned (.agg #[s0, s1, .int .i64 (layS p xs xb n b ⟨q, x, y, 0⟩ 2).ps, .int .i64 (layS p xs xb n b ⟨q, x, y, 0⟩ 2).pb, o, .int .i64 0]) ∧ PoolOwn w' w.heap.size w'.heap.size s0 s1 (layS p xs xb n b ⟨q, x, y, 0⟩ 2).pool ∧ Below w.heap.size w w') := by
  have Hp := hideT h1
  obtain ⟨a, c, a', c', rfl, rfl⟩ := h1.form
  have Hq := hideT hq
  have Hr := hideT hr
  clear h1 hq hr
  have hst := startLay w (.slice a q.n c) (.slice a' q.hn c') (.int .i64 x) (.int .i64 y) (wayV p xs xb n 2 3 o) 26 98 33 50
  go_enter Try.func71, Try.ntmps71
  go_upto_region 1 with fail
  generalize (((w.alloc (.cells #[.slice a q.n c, .slice a' q.hn c'] 26)).alloc (.cells (wayF (wayV p xs xb n 2 3 o)) 98)).alloc (.cells #[.int .i64 x, .int .i64 y] 33)).alloc (.cells #[.slice none 0 0, .slice none 0 0, .int .i64 0, .int .i64 0, .slice none 0 0, .int .i64 0] 50) = W at hst ⊢
  obtain ⟨hB, hW, hX, hR, hba, hz⟩ := hst
  have HB := hideT hB
  have HW := hideT hW
  have HR := hideT hR
  obtain ⟨⟨x0, x1⟩, ⟨x2, x3⟩⟩ := hX
  have hal := below_alloc W (.cells #[.int .i64 x, .int .i64 y] 33)
  have HP1 := hideT (show Box2 (W.alloc (.cells #[.int .i64 x, .int .i64 y] 33)) (w.heap.size + 4) (.int .i64 x) (.int .i64 y) from hz ▸ Box2.new W (.int .i64 x) (.int .i64 y) 33)
  clear hB hW hR
  go_wp2_with fail
  have Hst : Hid (LayI p xs xb n (layS p xs xb n b ⟨q, x, y, 0⟩) o w 0 (W.alloc (.cells #[.int .i64 x, .int .i64 y] 33))) := by
    refine ⟨fun j hj => ?_, _, _, HB.out.below hal, ((Hp.out.below hba).below hal).all, fun h => absurd h (Nat.lt_irrefl _), HP1.out, HW.out.below hal, HR.out.below hal, by rw [World.size_alloc]; omega, below_next hba hal⟩
    obtain rfl : j = 0 := by omega
    rfl
  have Hsm := hideT (lay_small p xs xb n b ⟨q, x, y, 0⟩)
  clear hal HP1 HB HW HR x0 x1 x2 x3 hba hz
  go_loopw [15] (fun i wr => ∃ k : Nat, k ≤ 2 ∧ i = .int .i64 k ∧ LayI p xs xb n (layS p xs xb n b ⟨q, x, y, 0⟩) o w k wr) (fun i _ => 2 - (intOf i).toNat)
  case atStart => exact ⟨0, by omega, rfl, Hst.out⟩
  case round =>
    obtain ⟨k, hk, rfl, hcode, s0, s1, hBx, hPl, hPo, hPx, hWy, hRs, hzr, hbr⟩ := hrel
    have Hcode := hideT hcode
    have HPl := hideT hPl
    have HPo := hideT hPo
    have HBx := hideT hBx
    have HPx := hideT hPx
    have HWy := hideT hWy
    have HRs := hideT hRs
    obtain ⟨ra, rc, ra', rc', rfl, rfl⟩ := hPl.form
    clear hcode hPl hPo hBx hPx hWy hRs Hst
    obtain ⟨⟨x0, x1⟩, ⟨x2, x3⟩⟩ := HBx.out
    obtain ⟨⟨y0, y1⟩, ⟨y2, y3⟩⟩ := HPx.out
    by_cases hlt : k < 2
    · obtain ⟨L, hLk⟩ : ∃ L, L = 1 - k := ⟨_, rfl⟩
      have hL : L < 2 := by omega
      have hL' : (L : Int) < 2 := by omega
      have hlt' : (k : Int) < 2 := by omega
      have hlev : (1 : Int) - (k : Int) = (L : Int) := by omega
      have HSk : Hid (layS p xs xb n b ⟨q, x, y, 0⟩ (k + 1) = nodeL p xs xb n b (layS p xs xb n b ⟨q, x, y, 0⟩ k) L) := by rw [hLk]; rfl
      have Hsk := hideT (Hsm.out k)
      have Hi16 : Hid ((Try.prog.info? 94).map (·.size) = some (arr16 (kidC p xs xb n L)).size) := by
        show _ = _
        rw [arr16_size]; exact infoArr
      have Hil : Hid ((Try.prog.info? 94).map (·.size) = some (arr16 (kidC p xs xb n L)).toList.length) := by
        show _ = _
        rw [infoArr]; simp [arr16]
      clear hLk
      go_upto_region 7 with (first
        | (refine wpList_load_mid rfl 94 (.tmp 22) rfl (w.heap.size + 1) (2 + L * 16) rfl (arr16 (kidC p xs xb n L)).toList _ (way_range hL HWy.out) arrU rfl Hil.out ?_)
        | (refine wpList_store_row rfl 94 (.tmp 12) (.tmp 23) rfl wr.heap.size (arr16 (kidC p xs xb n L)) rfl rfl 94 #[Value.int .i64 0, Value.int .i64 0, Value.int .i64 0, Value.int .i64 0, Value.int .i64 0, Value.int .i64 0, Value.int .i64 0, Value.int .i64 0, Value.int .i64 0, Value.int .i64 0, Value.int .i64 0, Value.int .i64 0, Value.int .i64 0, Value.int .i64 0, Value.int .i64 0, Value.int .i64 0] (heap_alloc_last _ _) Hi16.out (by rw [arr16_size]; rfl) (arr16_one _) ?_; rw [World.setRow_alloc_new]))
      have hal := below_alloc wr (.cells (arr16 (kidC p xs xb n L)) 94)
      have HbK : Hid ((wr.alloc (.cells (arr16 (kidC p xs xb n L)) 94)).heap[wr.heap.size]? = some (.cells (arr16 (kidC p xs xb n L)) 94)) := heap_alloc_last _ _
      have HzK : Hid (wr.heap.size < (wr.alloc (.cells (arr16 (kidC p xs xb n L)) 94)).heap.size) := by show _ < _; rw [World.size_alloc]; omega
      have HPl2 := hideT (HPl.out.below hal)
      have HBx2 := hideT (HBx.out.below hal)
      have HPx2 := hideT (HPx.out.below hal)
      have HWy2 := hideT (HWy.out.below hal)
      have HRs2 := hideT (HRs.out.below hal)
      have hbr2 := below_next hbr hal
      clear x0 x1 x2 x3 y0 y1 y2 y3 hal hbr HPl HPo HBx HPx HWy HRs
      generalize wr.alloc (.cells (arr16 (kidC p xs xb n L)) 94) = wA at HbK HzK HPl2 HBx2 HPx2 HWy2 HRs2 hbr2 ⊢
      have hpl := plc_lt (n := n) (L := L) hn
      have hpl' : ((plc n L : Nat) : Int) < 8 := by omega
      obtain ⟨⟨y0, y1⟩, ⟨y2, y3⟩⟩ := HPx2.out
      obtain ⟨z0, _⟩ := HWy2.out L (by omega)
      rw [wayV_place p xs xb n _ _ _ hL] at z0
      obtain ⟨c0, c1⟩ := cell_of_block (i := plc n L * 2) HbK.out (arr16_at (kidC p xs xb n L) (by omega))
      obtain ⟨c2, c3⟩ := cell_of_block (i := plc n L * 2 + 1) HbK.out (arr16_at (kidC p xs xb n L) (by omega))
      have Hkeep : Hid (∀ (u v : Value) (w5 : World), w5 = ((wA.drew.setCell ⟨wr.heap.size, plc n L * 2, none⟩ u).setCell ⟨wr.heap.size, plc n L * 2 + 1, none⟩ v) → (w5.cell? ⟨w.heap.size + 1, L, none⟩ = some (.int .i64 ((plc n L : Nat) : Int)) ∧ w5.cell? ⟨w.heap.size + 4, 0, none⟩ = some (.int .i64 (layS p xs xb n b ⟨q, x, y, 0⟩ k).ps) ∧ w5.cell? ⟨w.heap.size + 4, 1, none⟩ = some (.int .i64 (layS p xs xb n b ⟨q, x, y, 0⟩ k).pb))) := by
        intro u v w5 e5
        have hT : Turned (fun k => k = wr.heap.size) wA.drew ((wA.drew.setCell ⟨wr.heap.size, plc n L * 2, none⟩ u).setCell ⟨wr.heap.size, plc n L * 2 + 1, none⟩ v) := ((Turned.refl (fun k => k = wr.heap.size) wA.drew).setCell (p := ⟨wr.heap.size, plc n L * 2, none⟩) rfl _).setCell (p := ⟨wr.heap.size, plc n L * 2 + 1, none⟩) rfl _
        have hzA : wr.heap.size < wA.drew.heap.size := HzK.out
        rw [e5, hT.cell (by omega) (by omega), hT.cell (by omega) (by omega), hT.cell (by omega) (by omega)]
        exact ⟨z0, y0, y2⟩
      simp only [Act.put]
      refine wp_region_held_drew (S := (fun w' => w'.cell? ⟨w.heap.size + 1, L, none⟩ = some (.int .i64 ((plc n L : Nat) : Int)) ∧ w'.cell? ⟨w.heap.size + 4, 0, none⟩ = some (.int .i64 (layS p xs xb n b ⟨q, x, y, 0⟩ k).ps) ∧ w'.cell? ⟨w.heap.size + 4, 1, none⟩ = some (.int .i64 (layS p xs xb n b ⟨q, x, y, 0⟩ k).pb))) (by kernel_rfl) ?_ (fun hHeld => ?_)
      · (try dsimp only)
        go_keep
      refine wpAnyH_take (i := 0) (oi := ({ dst := some 24, op := Op.move (Operand.tmp 11), type := 3, pos := "l02_tree.go:185", after := #[], guard := none } : Oper)) (v := ?_) rfl (by kernel_rfl) (by kernel_rfl) (by kernel_rfl) (fun _ _ _ h => h) (Or.inl ⟨by rfl, ?_⟩) (by assumption) ?_
      rotate_left
      · (intro w hSw; (try dsimp only at hSw); go_simp; try with_reducible rfl)
      try simp only [Act.put, List.setIfInBounds_toArray, List.set_cons_zero, List.set_cons_succ]
      refine wpAnyH_take (i := 1) (oi := ({ dst := some 25, op := Op.fieldAddr 98 (Operand.tmp 5) 0, type := 0, pos := "l02_tree.go:185", after := #[], guard := none } : Oper)) (v := ?_) rfl (by kernel_rfl) (by kernel_rfl) (by kernel_rfl) (fun _ _ _ h => h) (Or.inl ⟨by rfl, ?_⟩) (by assumption) ?_
      rotate_left
      · (intro w hSw; (try dsimp only at hSw); go_simp; try with_reducible rfl)
      try simp only [Act.put, List.setIfInBounds_toArray, List.set_cons_zero, List.set_cons_succ]
      refine wpAnyH_take (i := 2) (oi := ({ dst := some 26, op := Op.indexAddr 93 (Operand.tmp 25) (Operand.tmp 24), type := 0, pos := "l02_tree.go:185", after := #[{ on := 1, ground := Ground.data }, { on := 0, ground := Ground.data }], guard := none } : Oper)) (v := ?_) rfl (by kernel_rfl) (by kernel_rfl) (by kernel_rfl) (fun _ _ _ h => h) (Or.inl ⟨by rfl, ?_⟩) (by assumption) ?_
      rotate_left
      · (intro w hSw; (try dsimp only at hSw); go_simp; try with_reducible rfl)
      try simp only [Act.put, List.setIfInBounds_toArray, List.set_cons_zero, List.set_cons_succ]
      refine wpAnyH_take (i := 3) (oi := ({ dst := some 27, op := Op.load 2 (Operand.tmp 26), type := 2, pos := "l02_tree.go:185", after := #[{ on := 2, ground := Ground.data }], guard := none } : Oper)) (v := ?_) rfl (by kernel_rfl) (by kernel_rfl) (by kernel_rfl) (fun _ _ _ h => h) (Or.inl ⟨by rfl, ?_⟩) (by assumption) ?_
      rotate_left
      · (intro w hSw; (try dsimp only at hSw); go_simp; try with_reducible rfl)
      try simp only [Act.put, List.setIfInBounds_toArray, List.set_cons_zero, List.set_cons_succ]
      refine wpAnyH_take (i := 4) (oi := ({ dst := some 28, op := Op.load 33 (Operand.tmp 9), type := 33, pos := "l02_tree.go:185", after := #[], guard := none } : Oper)) (v := ?_) rfl (by kernel_rfl) (by kernel_rfl) (by kernel_rfl) (fun _ _ _ h => h) (Or.inl ⟨by rfl, ?_⟩) (by assumption) ?_
      rotate_left
      · (intro w hSw; (try dsimp only at hSw); go_simp; try with_reducible rfl)
      try simp only [Act.put, List.setIfInBounds_toArray, List.set_cons_zero, List.set_cons_succ]
      refine wpAnyH_take (i := 5) (oi := ({ dst := some 29, op := Op.indexAddr 94 (Operand.tmp 12) (Operand.tmp 27), type := 0, pos := "l02_tree.go:185", after := #[{ on := 3, ground := Ground.data }, { on := 0, ground := Ground.phase }, { on := 1, ground := Ground.phase }, { on := 2, ground := Ground.phase }, { on := 3, ground := Ground.phase }, { on := 4, ground := Ground.phase }], guard := none } : Oper)) (v := ?_) rfl (by kernel_rfl) (by kernel_rfl) (by kernel_rfl) (fun _ _ _ h => h) (Or.inl ⟨by rfl, ?_⟩) (by assumption) ?_
      rotate_left
      · (intro w hSw; (try dsimp only at hSw); go_simp; try with_reducible rfl)
      try simp only [Act.put, List.setIfInBounds_toArray, List.set_cons_zero, List.set_cons_succ]
      refine wpAnyH_ready (rs := [6]) (by kernel_rfl) (by simp) ?_
      refine AllReadyH.cons (o := ({ dst := none, op := Op.store 33 (Operand.tmp 29) (Operand.tmp 28), type := 0, pos := "l02_tree.go:185", after := #[{ on := 5, ground := Ground.data }, { on := 4, ground := Ground.data }, { on := 0, ground := Ground.phase }, { on := 1, ground := Ground.phase }, { on := 2, ground := Ground.phase }, { on := 3, ground := Ground.phase }, { on := 4, ground := Ground.phase }], guard := none } : Oper)) rfl (fun K hK => ?_) AllReadyH.nil
      go_simp
      
      (try go_wp2_with fail)
      refine hK.out _ _ ?_ (fun hHeldN => ?_)
      · (try dsimp only)
        exact Hkeep.out _ _ _ rfl
      clear hK K hHeld
      have hHeld := hHeldN
      clear hHeldN
      try simp only [Act.put, List.setIfInBounds_toArray, List.set_cons_zero, List.set_cons_succ]
      refine wpAnyH_done (by kernel_rfl) ?_ _
      have hT : Turned (fun k => k = wr.heap.size) wA ((wA.setCell ⟨wr.heap.size, plc n L * 2, none⟩ (.int .i64 (layS p xs xb n b ⟨q, x, y, 0⟩ k).ps)).setCell ⟨wr.heap.size, plc n L * 2 + 1, none⟩ (.int .i64 (layS p xs xb n b ⟨q, x, y, 0⟩ k).pb)).drew := by
        have h : Turned (fun k => k = wr.heap.size) wA ((wA.setCell ⟨wr.heap.size, plc n L * 2, none⟩ (.int .i64 (layS p xs xb n b ⟨q, x, y, 0⟩ k).ps)).setCell ⟨wr.heap.size, plc n L * 2 + 1, none⟩ (.int .i64 (layS p xs xb n b ⟨q, x, y, 0⟩ k).pb)) := ((Turned.refl (fun k => k = wr.heap.size) wA).setCell (p := ⟨wr.heap.size, plc n L * 2, none⟩) rfl _).setCell (p := ⟨wr.heap.size, plc n L * 2 + 1, none⟩) rfl _
        exact ⟨h.os, h.tape, h.output, h.size, h.block⟩
      have HbK3 : Hid (((wA.setCell ⟨wr.heap.size, plc n L * 2, none⟩ (.int .i64 (layS p xs xb n b ⟨q, x, y, 0⟩ k).ps)).setCell ⟨wr.heap.size, plc n L * 2 + 1, none⟩ (.int .i64 (layS p xs xb n b ⟨q, x, y, 0⟩ k).pb)).drew.heap[wr.heap.size]? = some (.cells (arr16 (mix (kidX p xs xb n L (layS p xs xb n b ⟨q, x, y, 0⟩ k).ps) (kidY p xs xb n L (layS p xs xb n b ⟨q, x, y, 0⟩ k).pb))) 94 (0, 0))) := by
        have := heap_setCell_at (o := plc n L * 2 + 1) (.int .i64 (layS p xs xb n b ⟨q, x, y, 0⟩ k).pb) (heap_setCell_at (o := plc n L * 2) (.int .i64 (layS p xs xb n b ⟨q, x, y, 0⟩ k).ps) HbK.out)
        rw [arr16_set _ _ hpl, kid_mix p xs xb n L _ _ hn] at this
        exact this
      have hzA := HzK.out
      have HPl3 := hideT (HPl2.out.same (hT.same (lo := 0) (hi := wr.heap.size) (by omega) (by intro k hk; omega)))
      have HBx3 := hideT (HBx2.out.turned hT (by omega))
      have HPx3 := hideT (HPx2.out.turned hT (by omega))
      have HWy3 := hideT (HWy2.out.turned hT (by omega))
      have HRs3 := hideT (HRs2.out.turned hT (by omega))
      have hbr3 := hbr2.trans (hT.below (B := w.heap.size) hbr2.size (by intro k hk; omega))
      have hzB := Nat.lt_of_lt_of_le hzA hT.size
      clear hT hzA HPl2 HBx2 HPx2 HWy2 HRs2 hbr2 HbK HzK Hkeep y0 y1 y2 y3 z0 c0 c1 c2 c3
      generalize ((wA.setCell ⟨wr.heap.size, plc n L * 2, none⟩ (.int .i64 (layS p xs xb n b ⟨q, x, y, 0⟩ k).ps)).setCell ⟨wr.heap.size, plc n L * 2 + 1, none⟩ (.int .i64 (layS p xs xb n b ⟨q, x, y, 0⟩ k).pb)).drew = wB at HbK3 HPl3 HBx3 HPx3 HWy3 HRs3 hbr3 hzB ⊢
      have Hi16m : Hid ((Try.prog.info? 94).map (·.size) = some (arr16 (mix (kidX p xs xb n L (layS p xs xb n b ⟨q, x, y, 0⟩ k).ps) (kidY p xs xb n L (layS p xs xb n b ⟨q, x, y, 0⟩ k).pb))).size) := by
        show _ = _
        rw [arr16_size]; exact infoArr
      obtain ⟨⟨x0, x1⟩, ⟨x2, x3⟩⟩ := HBx3.out
      go_wp2_with (first
        | (refine wpList_load_row rfl 94 (.tmp 12) rfl wr.heap.size rfl 94 (arr16 (mix (kidX p xs xb n L (layS p xs xb n b ⟨q, x, y, 0⟩ k).ps) (kidY p xs xb n L (layS p xs xb n b ⟨q, x, y, 0⟩ k).pb))) (0, 0) _ HbK3.out arrU rfl Hi16m.out ?_)
        | fail)
      refine (takeNode_any _ _ 0 wr.heap.size (layS p xs xb n b ⟨q, x, y, 0⟩ k).pool _ _ b wB HPl3.out (by have h1 := Hsk.out; have h2 := Hq.out; have h3 : poolN (OutD.mk q x y 0).pool = poolN q := rfl; omega)).mono ?_
      rintro e wC ⟨t0, t1, rfl, hoC, hbC⟩
      have Hod : Hid (layS p xs xb n b ⟨q, x, y, 0⟩ (k + 1) = nodeP (layS p xs xb n b ⟨q, x, y, 0⟩ k).pool (kidX p xs xb n L (layS p xs xb n b ⟨q, x, y, 0⟩ k).ps) (kidY p xs xb n L (layS p xs xb n b ⟨q, x, y, 0⟩ k).pb) b) := HSk.out
      generalize nodeP (layS p xs xb n b ⟨q, x, y, 0⟩ k).pool (kidX p xs xb n L (layS p xs xb n b ⟨q, x, y, 0⟩ k).ps) (kidY p xs xb n L (layS p xs xb n b ⟨q, x, y, 0⟩ k).pb) b = od at hoC Hod ⊢
      obtain ⟨ta, tc, ta', tc', rfl, rfl⟩ := hoC.form
      have halT := below_alloc wC (.cells #[.slice ta od.pool.n tc, .slice ta' od.pool.hn tc', .int .i64 od.ps, .int .i64 od.pb, .int .i64 od.code] 35)
      have hCT := below_next hbC halT
      have HoT := hideT (hoC.below halT)
      have HT5 := hideT (Box5.new wC (.slice ta od.pool.n tc) (.slice ta' od.pool.hn tc') (.int .i64 od.ps) (.int .i64 od.pb) (.int .i64 od.code) 35)
      have HBx4 := hideT (HBx3.out.below hCT)
      have HPx4 := hideT (HPx3.out.below hCT)
      have HWy4 := hideT (HWy3.out.below hCT)
      have HRs4 := hideT (HRs3.out.below hCT)
      have hbr4 := below_next hbr3 hCT
      have hzC := hbC.size
      have hzT : wC.heap.size < (wC.alloc (.cells #[.slice ta od.pool.n tc, .slice ta' od.pool.hn tc', .int .i64 od.ps, .int .i64 od.pb, .int .i64 od.code] 35)).heap.size := by rw [World.size_alloc]; omega
      clear hoC hbC halT hCT x0 x1 x2 x3 HbK3 HPl3 HBx3 HPx3 HWy3 HRs3 hbr3
      go_upto_region 9 with fail
      generalize wC.alloc (.cells #[.slice ta od.pool.n tc, .slice ta' od.pool.hn tc', .int .i64 od.ps, .int .i64 od.pb, .int .i64 od.code] 35) = wD at HoT HT5 HBx4 HPx4 HWy4 HRs4 hbr4 hzT ⊢
      generalize wC.heap.size = T at HoT HT5 hzC hzT ⊢
      obtain ⟨⟨t0, t1⟩, ⟨t2, t3⟩, ⟨t4, t5⟩, ⟨t6, t7⟩, ⟨t8, t9⟩⟩ := HT5.out
      by_cases hc : od.code = 0
      · have hne : (od.code != 0) = false := by simp [hc]
        have Hc := hideT hc
        clear hc
        go_upto_region 11 with fail
        obtain ⟨⟨x0, x1⟩, ⟨x2, x3⟩⟩ := HBx4.out
        obtain ⟨⟨y0, y1⟩, ⟨y2, y3⟩⟩ := HPx4.out
        have hz4 : w.heap.size ≠ w.heap.size + 4 := by omega
        have Hkeep1 : Hid (∀ (u v : Value) (w5 : World), w5 = ((wD.drew.setCell ⟨w.heap.size, 0, none⟩ u).setCell ⟨w.heap.size, 1, none⟩ v) → (w5.cell? ⟨T, 0, none⟩ = some (.slice ta od.pool.n tc) ∧ w5.cell? ⟨T, 1, none⟩ = some (.slice ta' od.pool.hn tc') ∧ w5.cell? ⟨T, 2, none⟩ = some (.int .i64 od.ps) ∧ w5.cell? ⟨T, 3, none⟩ = some (.int .i64 od.pb))) := by
          intro u v w5 e5
          have hzD : T < wD.drew.heap.size := hzT
          have h := fun o => (two_put wD.drew w.heap.size u v).cell (b := T) (o := o) hzD (by omega)
          rw [e5, h, h, h, h]
          exact ⟨t0, t2, t4, t6⟩
        have Hkeep2 : Hid (∀ (u v u' v' : Value) (w5 : World), w5 = ((((wD.drew.setCell ⟨w.heap.size, 0, none⟩ u).setCell ⟨w.heap.size, 1, none⟩ v).setCell ⟨w.heap.size + 4, 0, none⟩ u').setCell ⟨w.heap.size + 4, 1, none⟩ v') → (w5.cell? ⟨T, 0, none⟩ = some (.slice ta od.pool.n tc) ∧ w5.cell? ⟨T, 1, none⟩ = some (.slice ta' od.pool.hn tc') ∧ w5.cell? ⟨T, 2, none⟩ = some (.int .i64 od.ps) ∧ w5.cell? ⟨T, 3, none⟩ = some (.int .i64 od.pb))) := by
          intro u v u' v' w5 e5
          have hzD : T < wD.drew.heap.size := hzT
          have h1 := fun o => (two_put ((wD.drew.setCell ⟨w.heap.size, 0, none⟩ u).setCell ⟨w.heap.size, 1, none⟩ v) (w.heap.size + 4) u' v').cell (b := T) (o := o) (by simp; exact hzT) (by omega)
          rw [e5, h1, h1, h1, h1]
          exact Hkeep1.out u v _ rfl
        refine wp_region_held_drew (S := (fun w' => w'.cell? ⟨T, 0, none⟩ = some (.slice ta od.pool.n tc) ∧ w'.cell? ⟨T, 1, none⟩ = some (.slice ta' od.pool.hn tc') ∧ w'.cell? ⟨T, 2, none⟩ = some (.int .i64 od.ps) ∧ w'.cell? ⟨T, 3, none⟩ = some (.int .i64 od.pb))) (by kernel_rfl) ?_ (fun hHeld => ?_)
        · (try dsimp only)
          go_keep
        refine wpAnyH_take (i := 0) (oi := ({ dst := some 40, op := Op.fieldAddr 35 (Operand.tmp 13) 0, type := 0, pos := "l02_tree.go:190", after := #[], guard := none } : Oper)) (v := ?_) rfl (by kernel_rfl) (by kernel_rfl) (by kernel_rfl) (fun _ _ _ h => h) (Or.inl ⟨by rfl, ?_⟩) (by assumption) ?_
        rotate_left
        · (intro w hSw; (try dsimp only at hSw); go_simp; try with_reducible rfl)
        try simp only [Act.put, List.setIfInBounds_toArray, List.set_cons_zero, List.set_cons_succ]
        refine wpAnyH_take (i := 2) (oi := ({ dst := some 42, op := Op.fieldAddr 35 (Operand.tmp 13) 1, type := 0, pos := "l02_tree.go:190", after := #[{ on := 4, ground := Ground.gcOnly Departure.lateStores }], guard := none } : Oper)) (v := ?_) rfl (by kernel_rfl) (by kernel_rfl) (by kernel_rfl) (fun _ _ _ h => h) (Or.inl ⟨by rfl, ?_⟩) (by assumption) ?_
        rotate_left
        · (intro w hSw; (try dsimp only at hSw); go_simp; try with_reducible rfl)
        try simp only [Act.put, List.setIfInBounds_toArray, List.set_cons_zero, List.set_cons_succ]
        refine wpAnyH_take (i := 1) (oi := ({ dst := some 41, op := Op.load 26 (Operand.tmp 40), type := 26, pos := "l02_tree.go:190", after := #[{ on := 0, ground := Ground.data }], guard := none } : Oper)) (v := ?_) rfl (by kernel_rfl) (by kernel_rfl) (by kernel_rfl) (fun _ _ _ h => h) (Or.inl ⟨by rfl, ?_⟩) (by assumption) ?_
        rotate_left
        · (intro w hSw; (try dsimp only at hSw); go_simp; try with_reducible rfl)
        try simp only [Act.put, List.setIfInBounds_toArray, List.set_cons_zero, List.set_cons_succ]
        refine wpAnyH_take (i := 3) (oi := ({ dst := some 43, op := Op.load 33 (Operand.tmp 42), type := 33, pos := "l02_tree.go:190", after := #[{ on := 2, ground := Ground.data }, { on := 4, ground := Ground.gcOnly Departure.lateStores }], guard := none } : Oper)) (v := ?_) rfl (by kernel_rfl) (by kernel_rfl) (by kernel_rfl) (fun _ _ _ h => h) (Or.inl ⟨by rfl, ?_⟩) (by assumption) ?_
        rotate_left
        · (intro w hSw; (try dsimp only at hSw); go_simp; try with_reducible rfl)
        try simp only [Act.put, List.setIfInBounds_toArray, List.set_cons_zero, List.set_cons_succ]
        refine wpAnyH_ready (rs := [4]) (by kernel_rfl) (by simp) ?_
        refine AllReadyH.cons (o := ({ dst := none, op := Op.store 26 (Operand.tmp 4) (Operand.tmp 41), type := 0, pos := "l02_tree.go:190", after := #[{ on := 1, ground := Ground.data }, { on := 0, ground := Ground.phase }, { on := 1, ground := Ground.phase }, { on := 2, ground := Ground.textOnly Departure.lateStores }, { on := 3, ground := Ground.textOnly Departure.lateStores }], guard := none } : Oper)) rfl (fun K hK => ?_) AllReadyH.nil
        go_simp
        
        (try go_wp2_with fail)
        refine hK.out _ _ ?_ (fun hHeldN => ?_)
        · (try dsimp only)
          exact Hkeep1.out _ _ _ rfl
        clear hK K hHeld
        have hHeld := hHeldN
        clear hHeldN
        try simp only [Act.put, List.setIfInBounds_toArray, List.set_cons_zero, List.set_cons_succ]
        refine wpAnyH_ready (rs := [5]) (by kernel_rfl) (by simp) ?_
        refine AllReadyH.cons (o := ({ dst := none, op := Op.store 33 (Operand.tmp 9) (Operand.tmp 43), type := 0, pos := "l02_tree.go:190", after := #[{ on := 3, ground := Ground.data }, { on := 4, ground := Ground.chain }, { on := 0, ground := Ground.phase }, { on := 1, ground := Ground.phase }, { on := 2, ground := Ground.phase }, { on := 3, ground := Ground.phase }, { on := 4, ground := Ground.phase }], guard := none } : Oper)) rfl (fun K hK => ?_) AllReadyH.nil
        go_simp
        
        (try go_wp2_with fail)
        refine hK.out _ _ ?_ (fun hHeldN => ?_)
        · (try dsimp only)
          exact Hkeep2.out _ _ _ _ _ rfl
        clear hK K hHeld
        have hHeld := hHeldN
        clear hHeldN
        try simp only [Act.put, List.setIfInBounds_toArray, List.set_cons_zero, List.set_cons_succ]
        refine wpAnyH_done (by kernel_rfl) ?_ _
        have hT2 : Turned (fun k => k = w.heap.size ∨ k = w.heap.size + 4) wD ((((wD.setCell ⟨w.heap.size, 0, none⟩ (.slice ta od.pool.n tc)).setCell ⟨w.heap.size, 1, none⟩ (.slice ta' od.pool.hn tc')).setCell ⟨w.heap.size + 4, 0, none⟩ (.int .i64 od.ps)).setCell ⟨w.heap.size + 4, 1, none⟩ (.int .i64 od.pb)).drew := by
          have h := ((two_put wD w.heap.size (.slice ta od.pool.n tc) (.slice ta' od.pool.hn tc')).mono (T := fun k => k = w.heap.size ∨ k = w.heap.size + 4) (fun k hk => Or.inl hk)).trans ((two_put ((wD.setCell ⟨w.heap.size, 0, none⟩ (.slice ta od.pool.n tc)).setCell ⟨w.heap.size, 1, none⟩ (.slice ta' od.pool.hn tc')) (w.heap.size + 4) (.int .i64 od.ps) (.int .i64 od.pb)).mono (T := fun k => k = w.heap.size ∨ k = w.heap.size + 4) (fun k hk => Or.inr hk))
          exact ⟨h.os, h.tape, h.output, h.size, h.block⟩
        have HBx5 : Hid (Box2 ((((wD.setCell ⟨w.heap.size, 0, none⟩ (.slice ta od.pool.n tc)).setCell ⟨w.heap.size, 1, none⟩ (.slice ta' od.pool.hn tc')).setCell ⟨w.heap.size + 4, 0, none⟩ (.int .i64 od.ps)).setCell ⟨w.heap.size + 4, 1, none⟩ (.int .i64 od.pb)).drew w.heap.size (.slice ta od.pool.n tc) (.slice ta' od.pool.hn tc')) := by
          have hTP := two_put ((wD.setCell ⟨w.heap.size, 0, none⟩ (.slice ta od.pool.n tc)).setCell ⟨w.heap.size, 1, none⟩ (.slice ta' od.pool.hn tc')) (w.heap.size + 4) (.int .i64 od.ps) (.int .i64 od.pb)
          have hTQ := (HBx4.out.put (.slice ta od.pool.n tc) (.slice ta' od.pool.hn tc')).turned hTP (by omega)
          exact hTQ
        have HPx5 : Hid (Box2 ((((wD.setCell ⟨w.heap.size, 0, none⟩ (.slice ta od.pool.n tc)).setCell ⟨w.heap.size, 1, none⟩ (.slice ta' od.pool.hn tc')).setCell ⟨w.heap.size + 4, 0, none⟩ (.int .i64 od.ps)).setCell ⟨w.heap.size + 4, 1, none⟩ (.int .i64 od.pb)).drew (w.heap.size + 4) (.int .i64 od.ps) (.int .i64 od.pb)) := by
          have hTP := two_put wD w.heap.size (.slice ta od.pool.n tc) (.slice ta' od.pool.hn tc')
          have hTQ := (HPx4.out.turned hTP (by omega)).put (.int .i64 od.ps) (.int .i64 od.pb)
          exact hTQ
        have HoE := hideT ((HoT.out.turned hT2 (fun k hk => by rcases hk with h | h <;> omega)).wide (lo' := w.heap.size + 5) (hi' := T) (by omega) (Nat.le_refl _))
        have HWy5 := hideT (HWy4.out.turned hT2 (by omega))
        have HRs5 := hideT (HRs4.out.turned hT2 (by omega))
        have hbr5 := hbr4.trans (hT2.below (B := w.heap.size) hbr4.size (fun k hk => by rcases hk with h | h <;> omega))
        have hzE := Nat.lt_of_lt_of_le hzT hT2.size
        clear hT2 HBx4 HPx4 HoT HWy4 HRs4 hbr4 Hkeep1 Hkeep2 HT5 t0 t1 t2 t3 t4 t5 t6 t7 t8 t9 x0 x1 x2 x3 y0 y1 y2 y3
        generalize ((((wD.setCell ⟨w.heap.size, 0, none⟩ (.slice ta od.pool.n tc)).setCell ⟨w.heap.size, 1, none⟩ (.slice ta' od.pool.hn tc')).setCell ⟨w.heap.size + 4, 0, none⟩ (.int .i64 od.ps)).setCell ⟨w.heap.size + 4, 1, none⟩ (.int .i64 od.pb)).drew = wE at HBx5 HPx5 HoE HWy5 HRs5 hbr5 hzE ⊢
        go_wp2
        go_roundw
        case rel =>
          refine ⟨k + 1, by omega, by go_num, fun j hj => ?_, .slice ta od.pool.n tc, .slice ta' od.pool.hn tc', HBx5.out, ?_, fun _ => ?_, ?_, HWy5.out, HRs5.out, by omega, hbr5⟩
          · by_cases e : j = k + 1
            · rw [e, Hod.out]; exact Hc.out
            · exact Hcode.out j (by omega)
          · rw [Hod.out]; exact HoE.out.at.all
          · rw [Hod.out]; exact HoE.out.wide (Nat.le_refl _) (by omega)
          · rw [Hod.out]; exact HPx5.out
        case measure => simp [intOf]; omega
      · have hne : (od.code != 0) = true := by simp [hc]
        have Hc := hideT hc
        clear hc
        obtain ⟨⟨r0, r1⟩, ⟨r2, r3⟩, ⟨r4, r5⟩, ⟨r6, r7⟩, ⟨r8, r9⟩, ⟨r10, r11⟩⟩ := HRs4.out
        go_wp2
        have HR8 := HRs4.out.put (.slice none 0 0) (.slice none 0 0) (.int .i64 0) (.int .i64 0) (.slice none 0 0) (.int .i64 od.code)
        have htp := Turned.put6 wD (w.heap.size + 1 + 1 + 1) (.slice none 0 0) (.slice none 0 0) (.int .i64 0) (.int .i64 0) (.slice none 0 0) (.int .i64 od.code)
        have hle := lay_err hlt Hcode.out (by rw [Hod.out]; exact Hc.out)
        rw [Hod.out] at hle
        refine bodyPost_ret (v := .agg #[.slice none 0 0, .slice none 0 0, .int .i64 0, .int .i64 0, .slice none 0 0, .int .i64 od.code]) (by simp [results, Try.results71, go_sem, HR8.1.1, HR8.2.1.1, HR8.2.2.1.1, HR8.2.2.2.1.1, HR8.2.2.2.2.1.1, HR8.2.2.2.2.2.1]) rfl (Or.inl ⟨?_, ?_, ?_⟩)
        · rw [hle]; exact Hc.out
        · rw [hle]; rfl
        · exact hbr4.trans (htp.below (B := w.heap.size) hbr4.size (by intro k hk; omega))
    · obtain rfl : k = 2 := by omega
      obtain ⟨oa, oc, ho, _⟩ := owns_form Hr.out
      have Ho := hideT ho
      obtain ⟨z40, _⟩ := HWy.out 40 (by omega)
      rw [wayV_old, ho] at z40
      clear ho
      obtain ⟨⟨r0, r1⟩, ⟨r2, r3⟩, ⟨r4, r5⟩, ⟨r6, r7⟩, ⟨r8, r9⟩, ⟨r10, r11⟩⟩ := HRs.out
      go_wp2
      have HR8 := HRs.out.put (.slice ra (layS p xs xb n b ⟨q, x, y, 0⟩ 2).pool.n rc) (.slice ra' (layS p xs xb n b ⟨q, x, y, 0⟩ 2).pool.hn rc') (.int .i64 (layS p xs xb n b ⟨q, x, y, 0⟩ 2).ps) (.int .i64 (layS p xs xb n b ⟨q, x, y, 0⟩ 2).pb) (.slice oa (oldW p xs xb n 3).length oc) (.int .i64 0)
      have htp := Turned.put6 wr (w.heap.size + 1 + 1 + 1) (.slice ra (layS p xs xb n b ⟨q, x, y, 0⟩ 2).pool.n rc) (.slice ra' (layS p xs xb n b ⟨q, x, y, 0⟩ 2).pool.hn rc') (.int .i64 (layS p xs xb n b ⟨q, x, y, 0⟩ 2).ps) (.int .i64 (layS p xs xb n b ⟨q, x, y, 0⟩ 2).pb) (.slice oa (oldW p xs xb n 3).length oc) (.int .i64 0)
      refine bodyPost_ret (v := .agg #[.slice ra (layS p xs xb n b ⟨q, x, y, 0⟩ 2).pool.n rc, .slice ra' (layS p xs xb n b ⟨q, x, y, 0⟩ 2).pool.hn rc', .int .i64 (layS p xs xb n b ⟨q, x, y, 0⟩ 2).ps, .int .i64 (layS p xs xb n b ⟨q, x, y, 0⟩ 2).pb, .slice oa (oldW p xs xb n 3).length oc, .int .i64 0]) (by simp [results, Try.results71, go_sem, HR8.1.1, HR8.2.1.1, HR8.2.2.1.1, HR8.2.2.2.1.1, HR8.2.2.2.2.1.1, HR8.2.2.2.2.2.1]) rfl (Or.inr ⟨?_, .slice ra (layS p xs xb n b ⟨q, x, y, 0⟩ 2).pool.n rc, .slice ra' (layS p xs xb n b ⟨q, x, y, 0⟩ 2).pool.hn rc', ?_, ?_, ?_⟩)
      · rw [lay_done Hcode.out]
      · rw [← Ho.out]
      · exact ((HPo.out (by omega)).turned htp (by intro k hk; omega)).wide (by omega) (by exact htp.size)
      · exact hbr.trans (htp.below (B := w.heap.size) hbr.size (by intro k hk; omega))

end Go.Proofs.Ytikhipekmlhibaa
