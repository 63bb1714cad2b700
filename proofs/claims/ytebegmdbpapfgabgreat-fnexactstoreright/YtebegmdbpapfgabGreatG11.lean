/- What impl.treeThere and impl.TreeRight answer. -/
import Derived.Test.YtebegmdbpapfgabGreatG10
import Derived.Deep.AppendLies
namespace Go.Proofs.YtebegmdbpapfgabGreat
open Go.RowKit
set_option linter.unusedVariables false

set_option maxRecDepth 20000 in
set_option maxHeartbeats 4000000 in
theorem treeThere_any (v0 v1 : Value) (lo hi : Nat) (p : PoolD) (xs xb : Int) (w : World) (h1 : PoolAt w lo hi v0 v1 p) (hR : Right p) :
    Calls Tryz.prog 97 #[.agg #[v0, v1], .agg #[.int .i64 xs, .int .i64 xb]] w fun e w' => BoolIs (TreeOkI p xs xb) e ∧ Below w.heap.size w w' := by
  have Hp := hideT h1
  have HR := hideT hR
  obtain ⟨a, c, a', c', rfl, rfl⟩ : ∃ a c a' c', v0 = .slice a p.n c ∧ v1 = .slice a' p.hn c' := by
    obtain ⟨⟨_, a, c, h1, _⟩, ⟨_, a', c', h3, _⟩⟩ := h1
    exact ⟨a, c, a', c', h1, h3⟩
  clear h1 hR
  have hst := start22 w (.slice a p.n c) (.slice a' p.hn c') (.int .i64 xs) (.int .i64 xb) 36 68
  by_cases hn : Nil xs xb
  · have HN := hideT hn
    obtain ⟨rfl, rfl⟩ := hn
    obtain ⟨_, _, hba, _⟩ := hst
    go_enter Tryz.func97, Tryz.ntmps97
    go_wp2
    go_ret
    exact ⟨BoolIs.yes (Or.inl HN.out), hba⟩
  · have HN := hideT hn
    have e0 := not_nil_bool hn
    clear hn
    have Hend : Hid (∀ t : Bool, (t = true ↔ Points p xs xb ∧ Shape0 p (p.s xs.toNat) ∧ Apart p (treeL p xs xb)) → BoolIs (TreeOkI p xs xb) (.returned (.bool t))) := fun t ht => ⟨t, rfl, ht.trans ⟨fun h => Or.inr h, fun h => h.resolve_left HN.out⟩⟩
    go_enter Tryz.func97, Tryz.ntmps97
    go_upto_region 1 with fail
    generalize (w.alloc (.cells #[.slice a p.n c, .slice a' p.hn c'] 36)).alloc (.cells #[.int .i64 xs, .int .i64 xb] 68) = W at hst ⊢
    obtain ⟨hB, hX, hba, hz⟩ := hst
    have HB := hideT hB
    have HX := hideT hX
    clear hB hX
    go_cut [7] (fun v wc => v = .bool false ∧ W = wc)
    case first =>
      obtain ⟨⟨y0, y1⟩, ⟨y2, y3⟩⟩ := HX.out
      rcases e0 with e0 | ⟨e0, e1⟩
      all_goals
        go_wp2_with fail
        go_meet
        case rel => exact ⟨rfl, rfl⟩
    case rest =>
      obtain ⟨rfl, rfl⟩ := hcut
      clear e0
      obtain ⟨⟨x0, x1⟩, ⟨x2, x3⟩⟩ := HB.out
      obtain ⟨⟨y0, y1⟩, ⟨y2, y3⟩⟩ := HX.out
      go_upto_region 3 with fail
      by_cases hP : Points p xs xb
      · have HP := hideT hP
        clear hP
        by_cases hSh : Shape0 p (p.s xs.toNat)
        · have HSh := hideT hSh
          clear hSh
          go_region_held3 (fun w' => w'.cell? ⟨w.heap.size, 0, none⟩ = some (.slice a p.n c) ∧ w'.cell? ⟨w.heap.size, 1, none⟩ = some (.slice a' p.hn c') ∧ w'.cell? ⟨w.heap.size + 1, 0, none⟩ = some (.int .i64 xs) ∧ w'.cell? ⟨w.heap.size + 1, 1, none⟩ = some (.int .i64 xb)) (go_keep)
            (first
              | (go_at_call 111
                 refine (isPtr_any _ p.n lo hi p.s xs xb _ ?_).mono ?_
                 (first | exact Hp.out.1.below hba | exact Hp.out.1.below hba.drew)
                 rintro e w1 ⟨⟨t1, rfl, ht1⟩, hb1⟩
                 rw [isPtr_iff HR.out] at ht1
                 obtain rfl : t1 = true := ht1.2 HP.out
                 clear ht1
                 have hC1 : Below W.heap.size W w1 := (by first | exact hb1 | exact below_undrew hb1)
                 obtain ⟨⟨k0, _⟩, ⟨k1, _⟩⟩ := HB.out.below hC1
                 obtain ⟨⟨k2, _⟩, ⟨k3, _⟩⟩ := HX.out.below hC1)
              | (go_at_call 112
                 refine (shape0_any p HR.out _ lo hi xs xb _ ?_ HP.out).mono ?_
                 exact Hp.out.1.below (below_next hba hC1)
                 rintro e w2 ⟨⟨t2, rfl, ht2⟩, hb2⟩
                 obtain rfl : t2 = true := ht2.2 HSh.out
                 clear ht2
                 have hC2 := below_next hC1 hb2
                 obtain ⟨⟨l0, _⟩, ⟨l1, _⟩⟩ := HB.out.below hC2
                 obtain ⟨⟨l2, _⟩, ⟨l3, _⟩⟩ := HX.out.below hC2)
              | (go_at_call 114
                 refine (ptrs0_any p HR.out _ lo hi xs xb _ ?_ (Or.inr HP.out)).mono ?_
                 exact Hp.out.1.below (below_next hba hC2)
                 rintro e w3 ⟨v3, rfl, hrow3, hb3⟩
                 obtain ⟨na, nc, rfl, _⟩ := owns_form hrow3
                 have hC3 := below_next hC2 hb3
                 have hpt := row_ptrs (by have := treeL_len p xs xb; unfold maxLen; omega) hrow3
                 obtain ⟨⟨m0, _⟩, ⟨m1, _⟩⟩ := HB.out.below hC3
                 obtain ⟨⟨m2, _⟩, ⟨m3, _⟩⟩ := HX.out.below hC3)
              | (go_at_call 113
                 refine (apart_any _ _ _ lo hi 0 w3.heap.size _ p _ _ _ ?_ hpt).mono ?_
                 exact Hp.out.below (below_next hba hC3)
                 rintro e w4 ⟨⟨t4, rfl, ht4⟩, hb4⟩
                 rw [apart_list] at ht4
                 have hC4 := below_next hC3 hb4
                 obtain ⟨⟨n0, _⟩, ⟨n1, _⟩⟩ := HB.out.below hC4
                 obtain ⟨⟨n2, _⟩, ⟨n3, _⟩⟩ := HX.out.below hC4))
          have hB4 := below_next hba hC4
          have HT := hideT ht4
          clear ht4
          go_wp2
          go_ret
          exact ⟨Hend.out t4 (HT.out.trans ⟨fun h => ⟨HP.out, HSh.out, h⟩, fun h => h.2.2⟩), hB4⟩
        · have HSh := hideT hSh
          clear hSh
          refine wp_region_held_drew (S := (fun w' => w'.cell? ⟨w.heap.size, 0, none⟩ = some (.slice a p.n c) ∧ w'.cell? ⟨w.heap.size, 1, none⟩ = some (.slice a' p.hn c') ∧ w'.cell? ⟨w.heap.size + 1, 0, none⟩ = some (.int .i64 xs) ∧ w'.cell? ⟨w.heap.size + 1, 1, none⟩ = some (.int .i64 xb))) (by kernel_rfl) ?_ (fun hHeld => ?_)
          · (try dsimp only)
            go_keep
          refine wpAnyH_take (i := 0) (oi := ({ dst := some 8, op := Op.fieldAddr 36 (Operand.tmp 2) 0, type := 0, pos := "l02_tree.go:106", after := #[], guard := none } : Oper)) (v := ?_) rfl (by kernel_rfl) (by kernel_rfl) (by kernel_rfl) (fun _ _ _ h => h) (Or.inl ⟨by rfl, ?_⟩) (by assumption) ?_
          rotate_left
          · (intro w hSw; (try dsimp only at hSw); go_simp; try with_reducible rfl)
          try simp only [Act.put, List.setIfInBounds_toArray, List.set_cons_zero, List.set_cons_succ]
          refine wpAnyH_take (i := 1) (oi := ({ dst := some 9, op := Op.load 34 (Operand.tmp 8), type := 34, pos := "l02_tree.go:106", after := #[{ on := 0, ground := Ground.data }], guard := none } : Oper)) (v := ?_) rfl (by kernel_rfl) (by kernel_rfl) (by kernel_rfl) (fun _ _ _ h => h) (Or.inl ⟨by rfl, ?_⟩) (by assumption) ?_
          rotate_left
          · (intro w hSw; (try dsimp only at hSw); go_simp; try with_reducible rfl)
          try simp only [Act.put, List.setIfInBounds_toArray, List.set_cons_zero, List.set_cons_succ]
          refine wpAnyH_take (i := 2) (oi := ({ dst := some 10, op := Op.load 68 (Operand.tmp 3), type := 68, pos := "l02_tree.go:106", after := #[], guard := none } : Oper)) (v := ?_) rfl (by kernel_rfl) (by kernel_rfl) (by kernel_rfl) (fun _ _ _ h => h) (Or.inl ⟨by rfl, ?_⟩) (by assumption) ?_
          rotate_left
          · (intro w hSw; (try dsimp only at hSw); go_simp; try with_reducible rfl)
          try simp only [Act.put, List.setIfInBounds_toArray, List.set_cons_zero, List.set_cons_succ]
          refine wpAnyH_ready (rs := [3]) (by kernel_rfl) (by simp) ?_
          refine AllReadyH.cons (o := ({ dst := some 11, op := Op.call { callee := Callee.value (Operand.func 111), args := #[Operand.tmp 9, Operand.tmp 10], argTypes := #[34, 68] }, type := 4, pos := "l02_tree.go:106", after := #[{ on := 1, ground := Ground.data }, { on := 2, ground := Ground.data }], guard := none } : Oper)) rfl (fun K hK => ?_) AllReadyH.nil
          go_simp
          go_at_call 111
          refine (isPtr_any _ p.n lo hi p.s xs xb _ ?_).mono ?_
          · first | exact Hp.out.1.below hba | exact Hp.out.1.below hba.drew
          rintro e w1 ⟨⟨t1, rfl, ht1⟩, hb1⟩
          rw [isPtr_iff HR.out] at ht1
          obtain rfl : t1 = true := ht1.2 HP.out
          clear ht1
          have hC1 : Below W.heap.size W w1 := (by first | exact hb1 | exact below_undrew hb1)
          obtain ⟨⟨k0, _⟩, ⟨k1, _⟩⟩ := HB.out.below hC1
          obtain ⟨⟨k2, _⟩, ⟨k3, _⟩⟩ := HX.out.below hC1
          (try go_wp2_with fail)
          refine hK.out _ _ ?_ (fun hHeldN => ?_)
          · (try dsimp only)
            go_keep
          clear hK K hHeld
          have hHeld := hHeldN
          clear hHeldN
          try simp only [Act.put, List.setIfInBounds_toArray, List.set_cons_zero, List.set_cons_succ]
          refine wpAnyH_take (i := 4) (oi := ({ dst := some 12, op := Op.move (Operand.tmp 11), type := 4, pos := "l02_tree.go:106", after := #[{ on := 3, ground := Ground.data }, { on := 3, ground := Ground.chain }], guard := none } : Oper)) (v := ?_) rfl (by kernel_rfl) (by kernel_rfl) (by kernel_rfl) (fun _ _ _ h => h) (Or.inl ⟨by rfl, ?_⟩) (by assumption) ?_
          rotate_left
          · (intro w hSw; (try dsimp only at hSw); go_simp; try with_reducible rfl)
          try simp only [Act.put, List.setIfInBounds_toArray, List.set_cons_zero, List.set_cons_succ]
          refine wpAnyH_take (i := 5) (oi := ({ dst := some 13, op := Op.fieldAddr 36 (Operand.tmp 2) 0, type := 0, pos := "l02_tree.go:106", after := #[{ on := 4, ground := Ground.guard }], guard := some (4, true) } : Oper)) (v := ?_) rfl (by kernel_rfl) (by kernel_rfl) (by kernel_rfl) (fun _ _ _ h => h) (Or.inl ⟨by rfl, ?_⟩) (by assumption) ?_
          rotate_left
          · (intro w hSw; (try dsimp only at hSw); go_simp; try with_reducible rfl)
          try simp only [Act.put, List.setIfInBounds_toArray, List.set_cons_zero, List.set_cons_succ]
          refine wpAnyH_take (i := 6) (oi := ({ dst := some 14, op := Op.load 34 (Operand.tmp 13), type := 34, pos := "l02_tree.go:106", after := #[{ on := 5, ground := Ground.data }, { on := 4, ground := Ground.guard }], guard := some (4, true) } : Oper)) (v := ?_) rfl (by kernel_rfl) (by kernel_rfl) (by kernel_rfl) (fun _ _ _ h => h) (Or.inl ⟨by rfl, ?_⟩) (by assumption) ?_
          rotate_left
          · (intro w hSw; (try dsimp only at hSw); go_simp; try with_reducible rfl)
          try simp only [Act.put, List.setIfInBounds_toArray, List.set_cons_zero, List.set_cons_succ]
          refine wpAnyH_take (i := 7) (oi := ({ dst := some 15, op := Op.load 68 (Operand.tmp 3), type := 68, pos := "l02_tree.go:106", after := #[{ on := 4, ground := Ground.guard }], guard := some (4, true) } : Oper)) (v := ?_) rfl (by kernel_rfl) (by kernel_rfl) (by kernel_rfl) (fun _ _ _ h => h) (Or.inl ⟨by rfl, ?_⟩) (by assumption) ?_
          rotate_left
          · (intro w hSw; (try dsimp only at hSw); go_simp; try with_reducible rfl)
          try simp only [Act.put, List.setIfInBounds_toArray, List.set_cons_zero, List.set_cons_succ]
          refine wpAnyH_ready (rs := [8]) (by kernel_rfl) (by simp) ?_
          refine AllReadyH.cons (o := ({ dst := some 16, op := Op.call { callee := Callee.value (Operand.func 112), args := #[Operand.tmp 14, Operand.tmp 15, Operand.const (Value.int IntKind.i64 0)], argTypes := #[34, 68, 3] }, type := 4, pos := "l02_tree.go:106", after := #[{ on := 6, ground := Ground.data }, { on := 7, ground := Ground.data }, { on := 4, ground := Ground.chain }, { on := 4, ground := Ground.guard }], guard := some (4, true) } : Oper)) rfl (fun K hK => ?_) AllReadyH.nil
          go_simp
          go_at_call 112
          refine (shape0_any p HR.out _ lo hi xs xb _ ?_ HP.out).mono ?_
          · exact Hp.out.1.below (below_next hba hC1)
          rintro e w2 ⟨⟨t2, rfl, ht2⟩, hb2⟩
          obtain rfl : t2 = false := bool_no ht2 HSh.out
          clear ht2
          have hC2 := below_next hC1 hb2
          obtain ⟨⟨l0, _⟩, ⟨l1, _⟩⟩ := HB.out.below hC2
          obtain ⟨⟨l2, _⟩, ⟨l3, _⟩⟩ := HX.out.below hC2
          (try go_wp2_with fail)
          refine hK.out _ _ ?_ (fun hHeldN => ?_)
          · (try dsimp only)
            go_keep
          clear hK K hHeld
          have hHeld := hHeldN
          clear hHeldN
          try simp only [Act.put, List.setIfInBounds_toArray, List.set_cons_zero, List.set_cons_succ]
          refine wpAnyH_take (i := 9) (oi := ({ dst := some 17, op := Op.pick (Operand.tmp 12) (Operand.tmp 16) (Operand.const (Value.bool false)), type := 4, pos := "l02_tree.go:106", after := #[{ on := 4, ground := Ground.data }, { on := 8, ground := Ground.data }], guard := none } : Oper)) (v := ?_) rfl (by kernel_rfl) (by kernel_rfl) (by kernel_rfl) (fun _ _ _ h => h) (Or.inl ⟨by rfl, ?_⟩) (by assumption) ?_
          rotate_left
          · (intro w hSw; (try dsimp only at hSw); go_simp; try with_reducible rfl)
          try simp only [Act.put, List.setIfInBounds_toArray, List.set_cons_zero, List.set_cons_succ]
          refine wpAnyH_take (i := 10) (oi := ({ dst := some 18, op := Op.move (Operand.tmp 17), type := 4, pos := "l02_tree.go:106", after := #[{ on := 9, ground := Ground.data }, { on := 8, ground := Ground.chain }], guard := none } : Oper)) (v := ?_) rfl (by kernel_rfl) (by kernel_rfl) (by kernel_rfl) (fun _ _ _ h => h) (Or.inl ⟨by rfl, ?_⟩) (by assumption) ?_
          rotate_left
          · (intro w hSw; (try dsimp only at hSw); go_simp; try with_reducible rfl)
          try simp only [Act.put, List.setIfInBounds_toArray, List.set_cons_zero, List.set_cons_succ]
          refine wpAnyH_take (i := 11) (oi := ({ dst := some 19, op := Op.load 36 (Operand.tmp 2), type := 36, pos := "l02_tree.go:106", after := #[{ on := 10, ground := Ground.guard }], guard := some (10, true) } : Oper)) (v := undef) rfl (by kernel_rfl) (by kernel_rfl) (by kernel_rfl) (fun _ _ _ h => h) (Or.inr ⟨by rfl, rfl⟩) (by assumption) ?_
          try simp only [Act.put, List.setIfInBounds_toArray, List.set_cons_zero, List.set_cons_succ]
          refine wpAnyH_take (i := 12) (oi := ({ dst := some 20, op := Op.fieldAddr 36 (Operand.tmp 2) 0, type := 0, pos := "l02_tree.go:106", after := #[{ on := 10, ground := Ground.guard }], guard := some (10, true) } : Oper)) (v := undef) rfl (by kernel_rfl) (by kernel_rfl) (by kernel_rfl) (fun _ _ _ h => h) (Or.inr ⟨by rfl, rfl⟩) (by assumption) ?_
          try simp only [Act.put, List.setIfInBounds_toArray, List.set_cons_zero, List.set_cons_succ]
          refine wpAnyH_take (i := 13) (oi := ({ dst := some 21, op := Op.load 34 (Operand.tmp 20), type := 34, pos := "l02_tree.go:106", after := #[{ on := 12, ground := Ground.data }, { on := 10, ground := Ground.guard }], guard := some (10, true) } : Oper)) (v := undef) rfl (by kernel_rfl) (by kernel_rfl) (by kernel_rfl) (fun _ _ _ h => h) (Or.inr ⟨by rfl, rfl⟩) (by assumption) ?_
          try simp only [Act.put, List.setIfInBounds_toArray, List.set_cons_zero, List.set_cons_succ]
          refine wpAnyH_take (i := 14) (oi := ({ dst := some 22, op := Op.load 68 (Operand.tmp 3), type := 68, pos := "l02_tree.go:106", after := #[{ on := 10, ground := Ground.guard }], guard := some (10, true) } : Oper)) (v := undef) rfl (by kernel_rfl) (by kernel_rfl) (by kernel_rfl) (fun _ _ _ h => h) (Or.inr ⟨by rfl, rfl⟩) (by assumption) ?_
          try simp only [Act.put, List.setIfInBounds_toArray, List.set_cons_zero, List.set_cons_succ]
          refine wpAnyH_ready (rs := [15]) (by kernel_rfl) (by simp) ?_
          refine AllReadyH.cons (o := ({ dst := some 23, op := Op.call { callee := Callee.value (Operand.func 114), args := #[Operand.tmp 21, Operand.tmp 22, Operand.const (Value.int IntKind.i64 0)], argTypes := #[34, 68, 3] }, type := 48, pos := "l02_tree.go:106", after := #[{ on := 13, ground := Ground.data }, { on := 14, ground := Ground.data }, { on := 10, ground := Ground.chain }, { on := 10, ground := Ground.guard }], guard := some (10, true) } : Oper)) rfl (fun K hK => ?_) AllReadyH.nil
          split
          · rename_i hwt
            exact absurd (show false = true from hwt) Bool.false_ne_true
          refine hK.out _ _ (by assumption) (fun hHeld => ?_)
          clear hK K
          try simp only [Act.put, List.setIfInBounds_toArray, List.set_cons_zero, List.set_cons_succ]
          refine wpAnyH_ready (rs := [16]) (by kernel_rfl) (by simp) ?_
          refine AllReadyH.cons (o := ({ dst := some 24, op := Op.call { callee := Callee.value (Operand.func 113), args := #[Operand.tmp 19, Operand.tmp 23], argTypes := #[36, 48] }, type := 4, pos := "l02_tree.go:106", after := #[{ on := 11, ground := Ground.data }, { on := 15, ground := Ground.data }, { on := 15, ground := Ground.chain }, { on := 10, ground := Ground.guard }], guard := some (10, true) } : Oper)) rfl (fun K hK => ?_) AllReadyH.nil
          split
          · rename_i hwt
            exact absurd (show false = true from hwt) Bool.false_ne_true
          refine hK.out _ _ (by assumption) (fun hHeld => ?_)
          clear hK K
          try simp only [Act.put, List.setIfInBounds_toArray, List.set_cons_zero, List.set_cons_succ]
          refine wpAnyH_take (i := 17) (oi := ({ dst := some 25, op := Op.pick (Operand.tmp 18) (Operand.tmp 24) (Operand.const (Value.bool false)), type := 4, pos := "l02_tree.go:106", after := #[{ on := 10, ground := Ground.data }, { on := 16, ground := Ground.data }], guard := none } : Oper)) (v := ?_) rfl (by kernel_rfl) (by kernel_rfl) (by kernel_rfl) (fun _ _ _ h => h) (Or.inl ⟨by rfl, ?_⟩) (by assumption) ?_
          rotate_left
          · (intro w hSw; (try dsimp only at hSw); go_simp; try with_reducible rfl)
          try simp only [Act.put, List.setIfInBounds_toArray, List.set_cons_zero, List.set_cons_succ]
          refine wpAnyH_take (i := 18) (oi := ({ dst := some 4, op := Op.assign (Operand.tmp 25), type := 4, pos := "l02_tree.go:106", after := #[{ on := 17, ground := Ground.data }, { on := 16, ground := Ground.chain }, { on := 0, ground := Ground.phase }, { on := 1, ground := Ground.phase }, { on := 2, ground := Ground.phase }, { on := 3, ground := Ground.phase }, { on := 4, ground := Ground.phase }, { on := 5, ground := Ground.phase }, { on := 6, ground := Ground.phase }, { on := 7, ground := Ground.phase }, { on := 8, ground := Ground.phase }, { on := 9, ground := Ground.phase }, { on := 10, ground := Ground.phase }, { on := 11, ground := Ground.phase }, { on := 12, ground := Ground.phase }, { on := 13, ground := Ground.phase }, { on := 14, ground := Ground.phase }, { on := 15, ground := Ground.phase }, { on := 16, ground := Ground.phase }, { on := 17, ground := Ground.phase }], guard := none } : Oper)) (v := ?_) rfl (by kernel_rfl) (by kernel_rfl) (by kernel_rfl) (fun _ _ _ h => h) (Or.inl ⟨by rfl, ?_⟩) (by assumption) ?_
          rotate_left
          · (intro w hSw; (try dsimp only at hSw); go_simp; try with_reducible rfl)
          try simp only [Act.put, List.setIfInBounds_toArray, List.set_cons_zero, List.set_cons_succ]
          refine wpAnyH_done (by kernel_rfl) ?_ _
          have hB4 := below_next hba hC2
          go_wp2
          go_ret
          exact ⟨Hend.out false ⟨fun h => (by cases h), fun h => absurd h.2.1 HSh.out⟩, hB4⟩
      · have HP := hideT hP
        clear hP
        refine wp_region_held_drew (S := (fun w' => w'.cell? ⟨w.heap.size, 0, none⟩ = some (.slice a p.n c) ∧ w'.cell? ⟨w.heap.size, 1, none⟩ = some (.slice a' p.hn c') ∧ w'.cell? ⟨w.heap.size + 1, 0, none⟩ = some (.int .i64 xs) ∧ w'.cell? ⟨w.heap.size + 1, 1, none⟩ = some (.int .i64 xb))) (by kernel_rfl) ?_ (fun hHeld => ?_)
        · (try dsimp only)
          go_keep
        refine wpAnyH_take (i := 0) (oi := ({ dst := some 8, op := Op.fieldAddr 36 (Operand.tmp 2) 0, type := 0, pos := "l02_tree.go:106", after := #[], guard := none } : Oper)) (v := ?_) rfl (by kernel_rfl) (by kernel_rfl) (by kernel_rfl) (fun _ _ _ h => h) (Or.inl ⟨by rfl, ?_⟩) (by assumption) ?_
        rotate_left
        · (intro w hSw; (try dsimp only at hSw); go_simp; try with_reducible rfl)
        try simp only [Act.put, List.setIfInBounds_toArray, List.set_cons_zero, List.set_cons_succ]
        refine wpAnyH_take (i := 1) (oi := ({ dst := some 9, op := Op.load 34 (Operand.tmp 8), type := 34, pos := "l02_tree.go:106", after := #[{ on := 0, ground := Ground.data }], guard := none } : Oper)) (v := ?_) rfl (by kernel_rfl) (by kernel_rfl) (by kernel_rfl) (fun _ _ _ h => h) (Or.inl ⟨by rfl, ?_⟩) (by assumption) ?_
        rotate_left
        · (intro w hSw; (try dsimp only at hSw); go_simp; try with_reducible rfl)
        try simp only [Act.put, List.setIfInBounds_toArray, List.set_cons_zero, List.set_cons_succ]
        refine wpAnyH_take (i := 2) (oi := ({ dst := some 10, op := Op.load 68 (Operand.tmp 3), type := 68, pos := "l02_tree.go:106", after := #[], guard := none } : Oper)) (v := ?_) rfl (by kernel_rfl) (by kernel_rfl) (by kernel_rfl) (fun _ _ _ h => h) (Or.inl ⟨by rfl, ?_⟩) (by assumption) ?_
        rotate_left
        · (intro w hSw; (try dsimp only at hSw); go_simp; try with_reducible rfl)
        try simp only [Act.put, List.setIfInBounds_toArray, List.set_cons_zero, List.set_cons_succ]
        refine wpAnyH_ready (rs := [3]) (by kernel_rfl) (by simp) ?_
        refine AllReadyH.cons (o := ({ dst := some 11, op := Op.call { callee := Callee.value (Operand.func 111), args := #[Operand.tmp 9, Operand.tmp 10], argTypes := #[34, 68] }, type := 4, pos := "l02_tree.go:106", after := #[{ on := 1, ground := Ground.data }, { on := 2, ground := Ground.data }], guard := none } : Oper)) rfl (fun K hK => ?_) AllReadyH.nil
        go_simp
        go_at_call 111
        refine (isPtr_any _ p.n lo hi p.s xs xb _ ?_).mono ?_
        · first | exact Hp.out.1.below hba | exact Hp.out.1.below hba.drew
        rintro e w1 ⟨⟨t1, rfl, ht1⟩, hb1⟩
        rw [isPtr_iff HR.out] at ht1
        obtain rfl : t1 = false := bool_no ht1 HP.out
        clear ht1
        have hC1 : Below W.heap.size W w1 := (by first | exact hb1 | exact below_undrew hb1)
        obtain ⟨⟨k0, _⟩, ⟨k1, _⟩⟩ := HB.out.below hC1
        obtain ⟨⟨k2, _⟩, ⟨k3, _⟩⟩ := HX.out.below hC1
        (try go_wp2_with fail)
        refine hK.out _ _ ?_ (fun hHeldN => ?_)
        · (try dsimp only)
          go_keep
        clear hK K hHeld
        have hHeld := hHeldN
        clear hHeldN
        try simp only [Act.put, List.setIfInBounds_toArray, List.set_cons_zero, List.set_cons_succ]
        refine wpAnyH_take (i := 4) (oi := ({ dst := some 12, op := Op.move (Operand.tmp 11), type := 4, pos := "l02_tree.go:106", after := #[{ on := 3, ground := Ground.data }, { on := 3, ground := Ground.chain }], guard := none } : Oper)) (v := ?_) rfl (by kernel_rfl) (by kernel_rfl) (by kernel_rfl) (fun _ _ _ h => h) (Or.inl ⟨by rfl, ?_⟩) (by assumption) ?_
        rotate_left
        · (intro w hSw; (try dsimp only at hSw); go_simp; try with_reducible rfl)
        try simp only [Act.put, List.setIfInBounds_toArray, List.set_cons_zero, List.set_cons_succ]
        refine wpAnyH_take (i := 5) (oi := ({ dst := some 13, op := Op.fieldAddr 36 (Operand.tmp 2) 0, type := 0, pos := "l02_tree.go:106", after := #[{ on := 4, ground := Ground.guard }], guard := some (4, true) } : Oper)) (v := undef) rfl (by kernel_rfl) (by kernel_rfl) (by kernel_rfl) (fun _ _ _ h => h) (Or.inr ⟨by rfl, rfl⟩) (by assumption) ?_
        try simp only [Act.put, List.setIfInBounds_toArray, List.set_cons_zero, List.set_cons_succ]
        refine wpAnyH_take (i := 6) (oi := ({ dst := some 14, op := Op.load 34 (Operand.tmp 13), type := 34, pos := "l02_tree.go:106", after := #[{ on := 5, ground := Ground.data }, { on := 4, ground := Ground.guard }], guard := some (4, true) } : Oper)) (v := undef) rfl (by kernel_rfl) (by kernel_rfl) (by kernel_rfl) (fun _ _ _ h => h) (Or.inr ⟨by rfl, rfl⟩) (by assumption) ?_
        try simp only [Act.put, List.setIfInBounds_toArray, List.set_cons_zero, List.set_cons_succ]
        refine wpAnyH_take (i := 7) (oi := ({ dst := some 15, op := Op.load 68 (Operand.tmp 3), type := 68, pos := "l02_tree.go:106", after := #[{ on := 4, ground := Ground.guard }], guard := some (4, true) } : Oper)) (v := undef) rfl (by kernel_rfl) (by kernel_rfl) (by kernel_rfl) (fun _ _ _ h => h) (Or.inr ⟨by rfl, rfl⟩) (by assumption) ?_
        try simp only [Act.put, List.setIfInBounds_toArray, List.set_cons_zero, List.set_cons_succ]
        refine wpAnyH_ready (rs := [8]) (by kernel_rfl) (by simp) ?_
        refine AllReadyH.cons (o := ({ dst := some 16, op := Op.call { callee := Callee.value (Operand.func 112), args := #[Operand.tmp 14, Operand.tmp 15, Operand.const (Value.int IntKind.i64 0)], argTypes := #[34, 68, 3] }, type := 4, pos := "l02_tree.go:106", after := #[{ on := 6, ground := Ground.data }, { on := 7, ground := Ground.data }, { on := 4, ground := Ground.chain }, { on := 4, ground := Ground.guard }], guard := some (4, true) } : Oper)) rfl (fun K hK => ?_) AllReadyH.nil
        split
        · rename_i hwt
          exact absurd (show false = true from hwt) Bool.false_ne_true
        refine hK.out _ _ (by assumption) (fun hHeld => ?_)
        clear hK K
        try simp only [Act.put, List.setIfInBounds_toArray, List.set_cons_zero, List.set_cons_succ]
        refine wpAnyH_take (i := 9) (oi := ({ dst := some 17, op := Op.pick (Operand.tmp 12) (Operand.tmp 16) (Operand.const (Value.bool false)), type := 4, pos := "l02_tree.go:106", after := #[{ on := 4, ground := Ground.data }, { on := 8, ground := Ground.data }], guard := none } : Oper)) (v := ?_) rfl (by kernel_rfl) (by kernel_rfl) (by kernel_rfl) (fun _ _ _ h => h) (Or.inl ⟨by rfl, ?_⟩) (by assumption) ?_
        rotate_left
        · (intro w hSw; (try dsimp only at hSw); go_simp; try with_reducible rfl)
        try simp only [Act.put, List.setIfInBounds_toArray, List.set_cons_zero, List.set_cons_succ]
        refine wpAnyH_take (i := 10) (oi := ({ dst := some 18, op := Op.move (Operand.tmp 17), type := 4, pos := "l02_tree.go:106", after := #[{ on := 9, ground := Ground.data }, { on := 8, ground := Ground.chain }], guard := none } : Oper)) (v := ?_) rfl (by kernel_rfl) (by kernel_rfl) (by kernel_rfl) (fun _ _ _ h => h) (Or.inl ⟨by rfl, ?_⟩) (by assumption) ?_
        rotate_left
        · (intro w hSw; (try dsimp only at hSw); go_simp; try with_reducible rfl)
        try simp only [Act.put, List.setIfInBounds_toArray, List.set_cons_zero, List.set_cons_succ]
        refine wpAnyH_take (i := 11) (oi := ({ dst := some 19, op := Op.load 36 (Operand.tmp 2), type := 36, pos := "l02_tree.go:106", after := #[{ on := 10, ground := Ground.guard }], guard := some (10, true) } : Oper)) (v := undef) rfl (by kernel_rfl) (by kernel_rfl) (by kernel_rfl) (fun _ _ _ h => h) (Or.inr ⟨by rfl, rfl⟩) (by assumption) ?_
        try simp only [Act.put, List.setIfInBounds_toArray, List.set_cons_zero, List.set_cons_succ]
        refine wpAnyH_take (i := 12) (oi := ({ dst := some 20, op := Op.fieldAddr 36 (Operand.tmp 2) 0, type := 0, pos := "l02_tree.go:106", after := #[{ on := 10, ground := Ground.guard }], guard := some (10, true) } : Oper)) (v := undef) rfl (by kernel_rfl) (by kernel_rfl) (by kernel_rfl) (fun _ _ _ h => h) (Or.inr ⟨by rfl, rfl⟩) (by assumption) ?_
        try simp only [Act.put, List.setIfInBounds_toArray, List.set_cons_zero, List.set_cons_succ]
        refine wpAnyH_take (i := 13) (oi := ({ dst := some 21, op := Op.load 34 (Operand.tmp 20), type := 34, pos := "l02_tree.go:106", after := #[{ on := 12, ground := Ground.data }, { on := 10, ground := Ground.guard }], guard := some (10, true) } : Oper)) (v := undef) rfl (by kernel_rfl) (by kernel_rfl) (by kernel_rfl) (fun _ _ _ h => h) (Or.inr ⟨by rfl, rfl⟩) (by assumption) ?_
        try simp only [Act.put, List.setIfInBounds_toArray, List.set_cons_zero, List.set_cons_succ]
        refine wpAnyH_take (i := 14) (oi := ({ dst := some 22, op := Op.load 68 (Operand.tmp 3), type := 68, pos := "l02_tree.go:106", after := #[{ on := 10, ground := Ground.guard }], guard := some (10, true) } : Oper)) (v := undef) rfl (by kernel_rfl) (by kernel_rfl) (by kernel_rfl) (fun _ _ _ h => h) (Or.inr ⟨by rfl, rfl⟩) (by assumption) ?_
        try simp only [Act.put, List.setIfInBounds_toArray, List.set_cons_zero, List.set_cons_succ]
        refine wpAnyH_ready (rs := [15]) (by kernel_rfl) (by simp) ?_
        refine AllReadyH.cons (o := ({ dst := some 23, op := Op.call { callee := Callee.value (Operand.func 114), args := #[Operand.tmp 21, Operand.tmp 22, Operand.const (Value.int IntKind.i64 0)], argTypes := #[34, 68, 3] }, type := 48, pos := "l02_tree.go:106", after := #[{ on := 13, ground := Ground.data }, { on := 14, ground := Ground.data }, { on := 10, ground := Ground.chain }, { on := 10, ground := Ground.guard }], guard := some (10, true) } : Oper)) rfl (fun K hK => ?_) AllReadyH.nil
        split
        · rename_i hwt
          exact absurd (show false = true from hwt) Bool.false_ne_true
        refine hK.out _ _ (by assumption) (fun hHeld => ?_)
        clear hK K
        try simp only [Act.put, List.setIfInBounds_toArray, List.set_cons_zero, List.set_cons_succ]
        refine wpAnyH_ready (rs := [16]) (by kernel_rfl) (by simp) ?_
        refine AllReadyH.cons (o := ({ dst := some 24, op := Op.call { callee := Callee.value (Operand.func 113), args := #[Operand.tmp 19, Operand.tmp 23], argTypes := #[36, 48] }, type := 4, pos := "l02_tree.go:106", after := #[{ on := 11, ground := Ground.data }, { on := 15, ground := Ground.data }, { on := 15, ground := Ground.chain }, { on := 10, ground := Ground.guard }], guard := some (10, true) } : Oper)) rfl (fun K hK => ?_) AllReadyH.nil
        split
        · rename_i hwt
          exact absurd (show false = true from hwt) Bool.false_ne_true
        refine hK.out _ _ (by assumption) (fun hHeld => ?_)
        clear hK K
        try simp only [Act.put, List.setIfInBounds_toArray, List.set_cons_zero, List.set_cons_succ]
        refine wpAnyH_take (i := 17) (oi := ({ dst := some 25, op := Op.pick (Operand.tmp 18) (Operand.tmp 24) (Operand.const (Value.bool false)), type := 4, pos := "l02_tree.go:106", after := #[{ on := 10, ground := Ground.data }, { on := 16, ground := Ground.data }], guard := none } : Oper)) (v := ?_) rfl (by kernel_rfl) (by kernel_rfl) (by kernel_rfl) (fun _ _ _ h => h) (Or.inl ⟨by rfl, ?_⟩) (by assumption) ?_
        rotate_left
        · (intro w hSw; (try dsimp only at hSw); go_simp; try with_reducible rfl)
        try simp only [Act.put, List.setIfInBounds_toArray, List.set_cons_zero, List.set_cons_succ]
        refine wpAnyH_take (i := 18) (oi := ({ dst := some 4, op := Op.assign (Operand.tmp 25), type := 4, pos := "l02_tree.go:106", after := #[{ on := 17, ground := Ground.data }, { on := 16, ground := Ground.chain }, { on := 0, ground := Ground.phase }, { on := 1, ground := Ground.phase }, { on := 2, ground := Ground.phase }, { on := 3, ground := Ground.phase }, { on := 4, ground := Ground.phase }, { on := 5, ground := Ground.phase }, { on := 6, ground := Ground.phase }, { on := 7, ground := Ground.phase }, { on := 8, ground := Ground.phase }, { on := 9, ground := Ground.phase }, { on := 10, ground := Ground.phase }, { on := 11, ground := Ground.phase }, { on := 12, ground := Ground.phase }, { on := 13, ground := Ground.phase }, { on := 14, ground := Ground.phase }, { on := 15, ground := Ground.phase }, { on := 16, ground := Ground.phase }, { on := 17, ground := Ground.phase }], guard := none } : Oper)) (v := ?_) rfl (by kernel_rfl) (by kernel_rfl) (by kernel_rfl) (fun _ _ _ h => h) (Or.inl ⟨by rfl, ?_⟩) (by assumption) ?_
        rotate_left
        · (intro w hSw; (try dsimp only at hSw); go_simp; try with_reducible rfl)
        try simp only [Act.put, List.setIfInBounds_toArray, List.set_cons_zero, List.set_cons_succ]
        refine wpAnyH_done (by kernel_rfl) ?_ _
        have hB4 := below_next hba hC1
        go_wp2
        go_ret
        exact ⟨Hend.out false ⟨fun h => (by cases h), fun h => absurd h.1 HP.out⟩, hB4⟩

end Go.Proofs.YtebegmdbpapfgabGreat

namespace Go.Proofs.YtebegmdbpapfgabGreat
open Go.RowKit
set_option linter.unusedVariables false

/-- The cells of a list of numbers. -/
def icl (l : List Int) : List Value := l.map (Value.int .i64)
theorem icl_len (l : List Int) : (icl l).length = l.length * 1 := by simp [icl]
theorem icl_append (l m : List Int) : icl (l ++ m) = icl l ++ icl m := by simp [icl]
theorem icl_one (l : List Int) : ∀ u ∈ icl l, u.oneCell' = true := by
  intro u hu
  simp only [icl, List.mem_map] at hu
  obtain ⟨x, _, rfl⟩ := hu
  rfl

theorem row_ints {w : World} {base : Nat} {v : Value} {l : List Int} (hm : l.length ≤ maxLen) (h : w.ownsRow base 2 1 v l.length (icl l)) : IntsAt w 0 w.heap.size v l.length (fun i => l.getD i 0) := by
  by_cases h0 : 0 < l.length
  · obtain ⟨g, cap, rfl, hcp, hb, hlt, hcell⟩ := owns_cell h h0
    refine ⟨hm, _, cap, rfl, hcp, fun _ => ⟨g, 0, rfl, Nat.zero_le _, hlt, fun i hi => ?_⟩⟩
    rw [Nat.zero_add]
    refine (hcell i _ ?_).1
    simp [icl, hi]
  · obtain ⟨a, cap, rfl, hcp⟩ := owns_form h
    exact ⟨hm, a, cap, rfl, hcp, fun h => absurd h h0⟩

theorem has_list (l : List Int) (x : Int) : Has l.length (fun i => l.getD i 0) x ↔ x ∈ l := by
  have getE : ∀ i (h : i < l.length), l.getD i 0 = l[i] := fun i h => by rw [List.getD_eq_getElem?_getD, List.getElem?_eq_getElem h, Option.getD_some]
  constructor
  · rintro ⟨j, hj, e⟩
    rw [← e]
    show l.getD j 0 ∈ l
    rw [getE j hj]
    exact List.getElem_mem hj
  · intro h
    obtain ⟨i, hi, rfl⟩ := List.getElem_of_mem h
    exact ⟨i, hi, getE i hi⟩

end Go.Proofs.YtebegmdbpapfgabGreat

namespace Go.Proofs.YtebegmdbpapfgabGreat
open Go.RowKit
set_option linter.unusedVariables false

/-- The slots that have been seen ahead of the j-th Kid of the root. -/
def seenL (p : PoolD) (rs : Int) (s : SlotD) (j : Nat) : List Int := rs :: slotsL (subUp p s j)
/-- .. and ahead of the i-th Kid of that. -/
def midS (p : PoolD) (rs : Int) (s : SlotD) (j i : Nat) : List Int := seenL p rs s j ++ (kidS s j :: slotsL (kidsUp (kidS (p.s (kidS s j).toNat)) (kidB (p.s (kidS s j).toNat)) i))

theorem sub_prefix (p : PoolD) (s : SlotD) (j : Nat) : ∀ m, j ≤ m → ∃ r, subUp p s m = subUp p s j ++ r
  | 0, h => ⟨[], by rw [show j = 0 by omega]; simp⟩
  | m + 1, h => by
    by_cases e : j = m + 1
    · subst e; exact ⟨[], by simp⟩
    · obtain ⟨r, hr⟩ := sub_prefix p s j m (by omega)
      exact ⟨r ++ midL p (kidS s m) (kidB s m), by rw [subUp, hr, List.append_assoc]⟩
theorem kids_prefix (ks kb : Nat → Int) (j : Nat) : ∀ m, j ≤ m → ∃ r, kidsUp ks kb m = kidsUp ks kb j ++ r
  | 0, h => ⟨[], by rw [show j = 0 by omega]; simp⟩
  | m + 1, h => by
    by_cases e : j = m + 1
    · subst e; exact ⟨[], by simp⟩
    · obtain ⟨r, hr⟩ := kids_prefix ks kb j m (by omega)
      exact ⟨r ++ one (ks m) (kb m), by rw [kidsUp, hr, List.append_assoc]⟩
theorem slotsL_append (l m : List (Int × Int)) : slotsL (l ++ m) = slotsL l ++ slotsL m := by simp [slotsL]
theorem snoc_nodup {l : List Int} {x : Int} : (l ++ [x]).Nodup ↔ l.Nodup ∧ x ∉ l := by
  rw [List.nodup_append]
  constructor
  · rintro ⟨h1, _, h3⟩
    exact ⟨h1, fun hx => h3 x hx x (by simp) rfl⟩
  · rintro ⟨h1, h2⟩
    refine ⟨h1, by simp, fun a ha b hb e => ?_⟩
    rw [List.mem_singleton] at hb
    subst hb
    subst e
    exact h2 ha
theorem tree_slots {p : PoolD} {rs rb : Int} (hz : ¬ Nil rs rb) : slotsL (treeL p rs rb) = seenL p rs (p.s rs.toNat) 8 := by
  unfold treeL seenL
  rw [if_neg hz]
  rfl
theorem midL_yes {p : PoolD} {s : SlotD} {j : Nat} (hn : ¬ Nil (kidS s j) (kidB s j)) : midL p (kidS s j) (kidB s j) = (kidS s j, kidB s j) :: lowL (p.s (kidS s j).toNat) := if_neg hn
theorem seen_next {p : PoolD} {rs : Int} {s : SlotD} {j : Nat} (hn : ¬ Nil (kidS s j) (kidB s j)) : seenL p rs s (j + 1) = midS p rs s j 8 := by
  unfold seenL midS seenL
  rw [subUp, slotsL_append, midL_yes hn]
  rfl
theorem seen_stay {p : PoolD} {rs : Int} {s : SlotD} {j : Nat} (hn : Nil (kidS s j) (kidB s j)) : seenL p rs s (j + 1) = seenL p rs s j := by
  unfold seenL
  rw [subUp, show midL p (kidS s j) (kidB s j) = [] from if_pos hn, List.append_nil]
theorem mid_start (p : PoolD) (rs : Int) (s : SlotD) (j : Nat) : midS p rs s j 0 = seenL p rs s j ++ [kidS s j] := rfl
theorem mid_stay {p : PoolD} {rs : Int} {s : SlotD} {j i : Nat} (hn : Nil (kidS (p.s (kidS s j).toNat) i) (kidB (p.s (kidS s j).toNat) i)) : midS p rs s j (i + 1) = midS p rs s j i := by
  unfold midS
  rw [kidsUp, show one (kidS (p.s (kidS s j).toNat) i) (kidB (p.s (kidS s j).toNat) i) = [] from if_pos hn, List.append_nil]
theorem mid_next {p : PoolD} {rs : Int} {s : SlotD} {j i : Nat} (hn : ¬ Nil (kidS (p.s (kidS s j).toNat) i) (kidB (p.s (kidS s j).toNat) i)) : midS p rs s j (i + 1) = midS p rs s j i ++ [kidS (p.s (kidS s j).toNat) i] := by
  unfold midS
  rw [kidsUp, show one (kidS (p.s (kidS s j).toNat) i) (kidB (p.s (kidS s j).toNat) i) = [(kidS (p.s (kidS s j).toNat) i, kidB (p.s (kidS s j).toNat) i)] from if_neg hn, slotsL_append, List.append_assoc]
  rfl
theorem seen_len (p : PoolD) (rs : Int) (s : SlotD) {j : Nat} (hj : j ≤ 8) : (seenL p rs s j).length ≤ 73 := by
  have := subUp_len p s j
  simp only [seenL, slotsL, List.length_cons, List.length_map]
  omega
theorem mid_len (p : PoolD) (rs : Int) (s : SlotD) {j i : Nat} (hj : j ≤ 8) (hi : i ≤ 8) : (midS p rs s j i).length ≤ 90 := by
  have h1 := seen_len p rs s hj
  have h2 := kidsUp_len (kidS (p.s (kidS s j).toNat)) (kidB (p.s (kidS s j).toNat)) i
  simp only [midS, slotsL, List.length_append, List.length_cons, List.length_map]
  omega
/-- In a tree whose slots are all different so are those seen, and the next one. -/
theorem nodup_low {p : PoolD} {rs rb : Int} (hz : ¬ Nil rs rb) (h : (slotsL (treeL p rs rb)).Nodup) {j i : Nat} (hj : j < 8) (hi : i ≤ 8) (hn : ¬ Nil (kidS (p.s rs.toNat) j) (kidB (p.s rs.toNat) j)) : (midS p rs (p.s rs.toNat) j i).Nodup := by
  rw [tree_slots hz] at h
  obtain ⟨r, hr⟩ := sub_prefix p (p.s rs.toNat) (j + 1) 8 (by omega)
  obtain ⟨r2, hr2⟩ := kids_prefix (kidS (p.s (kidS (p.s rs.toNat) j).toNat)) (kidB (p.s (kidS (p.s rs.toNat) j).toNat)) i 8 hi
  have e1 : seenL p rs (p.s rs.toNat) 8 = seenL p rs (p.s rs.toNat) (j + 1) ++ slotsL r := by unfold seenL; rw [hr, slotsL_append]; rfl
  have e2 : midS p rs (p.s rs.toNat) j 8 = midS p rs (p.s rs.toNat) j i ++ slotsL r2 := by
    unfold midS
    rw [hr2, slotsL_append, List.append_assoc]
    rfl
  rw [e1, seen_next hn, e2, List.append_assoc] at h
  exact (List.nodup_append.1 h).1


end Go.Proofs.YtebegmdbpapfgabGreat
