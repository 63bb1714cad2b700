/- What spec.WorldRight answers. -/
import Derived.Test.YtebegmdbpapfgaaGreatG12
import Derived.Test.YtebegmdbpapfgaaGreatG13
import Derived.Test.YtebegmdbpapfgaaGreatG14
import Derived.Test.YtebegmdbpapfgaaGreatG15
import Derived.Test.YtebegmdbpapfgaaGreatG16
import Derived.Test.YtebegmdbpapfgaaGreatG5
import Derived.Test.YtebegmdbpapfgaaGreatG10
import Derived.Deep.RegionHeld3
namespace Go.Proofs.YtebegmdbpapfgaaGreat
open Go.RowKit Go.Maps
set_option linter.unusedVariables false

def DeadOf (W : WorldD) (i : Nat) : Prop := PSameL (memOf W i).dn (memOf W i).ds (memOf W i).db (lack (oldM W (memOf W i)) (treeM W (memOf W i)))
/-- What the specification calls a right world. -/
structure SpecW (W : WorldD) : Prop where
  right : Right W.pool
  names : SpecNames W
  lines : ∀ i, i < W.sn → LineOk W (W.sets i).name (W.sets i).prev (W.sets i).origin
  snaps : ∀ i, i < W.pn → TreeOk W.pool (W.snaps i).rs (W.snaps i).rb
  sets : ∀ i, i < W.sn → TreeOk W.pool (W.sets i).rs (W.sets i).rb ∧ DeadOf W (W.pn + i)
  dead : ∀ i, i < W.pn → DeadOf W i
  reach : ReachEq W
  born : ∀ i, i < memN W → BornOf W i
  apart : ApartM W

theorem old_ok {W : WorldD} (h : ∀ k, k < W.pn → TreeOk W.pool (W.snaps k).rs (W.snaps k).rb) (x : Int) : TreeOk W.pool (aheadOf W x).rs (aheadOf W x).rb := by
  by_cases hx : ∃ k, SnapNo W x k
  · obtain ⟨k, hk⟩ := hx
    rw [aheadOf_at hk]
    exact h k hk.1
  · have : aheadOf W x = zeroSnap := by
      unfold aheadOf
      rw [dif_neg hx]
    rw [this]
    exact Or.inl ⟨rfl, rfl⟩
theorem trees_of {W : WorldD} (hR : Right W.pool) (hN : SpecNames W) (h1 : ∀ i, i < W.pn → TreeOk W.pool (W.snaps i).rs (W.snaps i).rb) (h2 : ∀ i, i < W.sn → TreeOk W.pool (W.sets i).rs (W.sets i).rb) : Trees W where
  right := hR
  ids := hN.prevOk.less
  tree := fun i hi => by
    by_cases hp : i < W.pn
    · rw [memOf_snap hp]; exact h1 i hp
    · have e := memOf_set W (i - W.pn)
      rw [show W.pn + (i - W.pn) = i by omega] at e
      rw [e]
      unfold memN at hi
      exact h2 _ (by omega)
  time := fun i hi => by
    by_cases hp : i < W.pn
    · rw [memOf_snap hp]
      have : 1 ≤ (W.snaps i).time := (hN.2.2.2.2.2 i hp).1.2.2.1
      show 0 ≤ (W.snaps i).time
      omega
    · have e := memOf_set W (i - W.pn)
      rw [show W.pn + (i - W.pn) = i by omega] at e
      rw [e]
      have : 1 ≤ W.time := hN.1.1
      show 0 ≤ W.time
      omega

theorem dead_snap {v0 v1 v2 v3 vd : Value} {lo hi : Nat} {W : WorldD} {w : World} (h : WorldAt w lo hi v0 v1 v2 v3 W) (hR : Right W.pool) (hO : ∀ k, k < W.pn → TreeOk W.pool (W.snaps k).rs (W.snaps k).rb) (hP : IdsPos W) {k : Nat} (hk : k < W.pn) (hD : PtrsAt w lo hi vd (W.snaps k).dn (W.snaps k).ds (W.snaps k).db) (w' : World) (hb : Below w.heap.size w w') :
    Calls Tryz.prog 62 #[worldV v0 v1 v2 v3 W, .int .i64 (W.snaps k).prev, .agg #[.int .i64 (W.snaps k).rs, .int .i64 (W.snaps k).rb], vd] w' fun e w'' => BoolIs (DeadOf W k) e ∧ Below w'.heap.size w' w'' := by
  unfold DeadOf
  rw [memOf_snap hk]
  exact l04Dead_any v0 v1 v2 v3 vd lo hi lo hi _ _ _ W _ _ _ _ _ w' (h.below hb) (hD.below hb) hR (hO k hk) (old_ok hO _) hP rfl rfl
theorem dead_set {v0 v1 v2 v3 vd : Value} {lo hi : Nat} {W : WorldD} {w : World} (h : WorldAt w lo hi v0 v1 v2 v3 W) (hR : Right W.pool) (hO : ∀ k, k < W.pn → TreeOk W.pool (W.snaps k).rs (W.snaps k).rb) (hP : IdsPos W) {k : Nat} (hT : TreeOk W.pool (W.sets k).rs (W.sets k).rb) (hD : PtrsAt w lo hi vd (W.sets k).dn (W.sets k).ds (W.sets k).db) (w' : World) (hb : Below w.heap.size w w') :
    Calls Tryz.prog 62 #[worldV v0 v1 v2 v3 W, .int .i64 (W.sets k).prev, .agg #[.int .i64 (W.sets k).rs, .int .i64 (W.sets k).rb], vd] w' fun e w'' => BoolIs (DeadOf W (W.pn + k)) e ∧ Below w'.heap.size w' w'' := by
  unfold DeadOf
  rw [memOf_set]
  exact l04Dead_any v0 v1 v2 v3 vd lo hi lo hi _ _ _ W _ _ _ _ _ w' (h.below hb) (hD.below hb) hR hT (old_ok hO _) hP rfl rfl

set_option maxRecDepth 20000 in
set_option maxHeartbeats 8000000 in
theorem specWorldRight_any (v0 v1 v2 v3 : Value) (lo hi : Nat) (W : WorldD) (w : World) (h : WorldAt w lo hi v0 v1 v2 v3 W) :
    Calls Tryz.prog 29 #[worldV v0 v1 v2 v3 W] w fun e w' => BoolIs (SpecW W) e ∧ Below w.heap.size w w' := by
  have Hp := hideW h
  obtain ⟨m1, a, c, rfl, mc, -⟩ := id h.snaps
  obtain ⟨m2, a', c', rfl, mc', -⟩ := id h.sets
  obtain ⟨m0, a0, c0, rfl, mc0, -⟩ := id h.pool.1
  obtain ⟨m3, a1, c1, rfl, mc1, -⟩ := id h.pool.2
  unfold maxLen at m0 m1 m2 m3
  clear h
  have ha := below_alloc w (.cells #[.slice a0 W.pool.n c0, .slice a1 W.pool.hn c1, .int .i64 W.time, .int .i64 W.next, .slice a' W.sn c', .slice a W.pn c] 38)
  have HB := hideW (Box6.new w (.slice a0 W.pool.n c0) (.slice a1 W.pool.hn c1) (.int .i64 W.time) (.int .i64 W.next) (.slice a' W.sn c') (.slice a W.pn c) 38)
  obtain ⟨⟨x0, -⟩, ⟨x2, -⟩, ⟨x4, -⟩, ⟨x6, -⟩, ⟨x8, -⟩, ⟨x10, -⟩⟩ := HB.out
  go_enter Tryz.func29, Tryz.ntmps29
  go_wp2_with fail
  clear x0 x2 x4 x6 x8 x10
  generalize w.alloc (.cells #[.slice a0 W.pool.n c0, .slice a1 W.pool.hn c1, .int .i64 W.time, .int .i64 W.next, .slice a' W.sn c', .slice a W.pn c] 38) = W0 at ha HB ⊢
  refine (specPoolRight_any _ _ lo hi W.pool W0 (Hp.out.pool.below ha)).mono ?_
  rintro e w1 ⟨⟨t1, rfl, ht1⟩, hb1⟩
  have HX1 := hideW (HB.out.below hb1)
  have hB1 := below_next ha hb1
  clear ha HB hb1
  by_cases hR : Right W.pool
  rotate_left
  · have HR := hideW hR
    obtain rfl : t1 = false := bool_no ht1 hR
    clear ht1 hR
    go_wp2
    go_ret
    exact ⟨BoolIs.no fun h => HR.out h.right, hB1⟩
  have HR := hideW hR
  obtain rfl : t1 = true := ht1.2 hR
  have hpn : W.pool.n ≤ 200 := hR.1
  clear ht1 hR
  obtain ⟨⟨x0, -⟩, ⟨x2, -⟩, ⟨x4, -⟩, ⟨x6, -⟩, ⟨x8, -⟩, ⟨x10, -⟩⟩ := HX1.out
  go_wp2_with fail
  clear x0 x2 x4 x6 x8 x10
  refine (l04Names_any _ _ _ _ lo hi W w1 (Hp.out.below hB1)).mono ?_
  rintro e w2 ⟨⟨t2, rfl, ht2⟩, hb2⟩
  have HX2 := hideW (HX1.out.below hb2)
  have hB2 := below_next hB1 hb2
  clear HX1 hB1 hb2
  by_cases hN : SpecNames W
  rotate_left
  · have HN := hideW hN
    obtain rfl : t2 = false := bool_no ht2 hN
    clear ht2 hN
    go_wp2
    go_ret
    exact ⟨BoolIs.no fun h => HN.out h.names, hB2⟩
  have HN := hideW hN
  obtain rfl : t2 = true := ht2.2 hN
  have hsn : W.sn ≤ 8 := hN.2.2.1
  have hsp : W.pn ≤ 20 := hN.2.2.2.1
  clear ht2 hN
  obtain ⟨⟨x0, -⟩, ⟨x2, -⟩, ⟨x4, -⟩, ⟨x6, -⟩, ⟨x8, -⟩, ⟨x10, -⟩⟩ := HX2.out
  go_wp2_with fail
  clear x0 x2 x4 x6 x8 x10
  refine (l04Chains_any _ _ _ _ lo hi W w2 (Hp.out.below hB2) HN.out.prevOk hsn hsp).mono ?_
  rintro e w3 ⟨⟨t3, rfl, ht3⟩, hb3⟩
  have HX3 := hideW (HX2.out.below hb3)
  have hB3 := below_next hB2 hb3
  clear HX2 hB2 hb3
  by_cases hL : ∀ i, i < W.sn → LineOk W (W.sets i).name (W.sets i).prev (W.sets i).origin
  rotate_left
  · have HL := hideW hL
    obtain rfl : t3 = false := bool_no ht3 hL
    clear ht3 hL
    go_wp2
    go_ret
    exact ⟨BoolIs.no fun h => HL.out h.lines, hB3⟩
  have HL := hideW hL
  obtain rfl : t3 = true := ht3.2 hL
  clear ht3 hL
  go_wp2
  go_loopw [3] (fun i wr => ∃ k : Nat, k ≤ W.pn ∧ i = .int .i64 k ∧ (∀ j, j < k → TreeOk W.pool (W.snaps j).rs (W.snaps j).rb) ∧ Box6 wr w.heap.size (.slice a0 W.pool.n c0) (.slice a1 W.pool.hn c1) (.int .i64 W.time) (.int .i64 W.next) (.slice a' W.sn c') (.slice a W.pn c) ∧ Below w.heap.size w wr) (fun i _ => W.pn - (intOf i).toNat)
  case atStart => exact ⟨0, Nat.zero_le _, rfl, fun j hj => absurd hj (Nat.not_lt_zero _), HX3.out, hB3⟩
  case round =>
    clear HX3 hB3
    obtain ⟨k, hk, rfl, hall, hX, hb⟩ := hrel
    have Hall := hideW hall
    have HX := hideW hX
    clear hall hX
    obtain ⟨⟨x0, -⟩, ⟨x2, -⟩, ⟨x4, -⟩, ⟨x6, -⟩, ⟨x8, -⟩, ⟨x10, -⟩⟩ := HX.out
    by_cases hlt : k < W.pn
    · have hlt' : (k : Int) < (W.pn : Int) := by omega
      obtain ⟨b, off, vd, rfl, hs⟩ := (Hp.out.snaps.below hb).cells hlt
      have q5 := hs.c5
      have q6 := hs.c6
      clear hs
      go_wp2_with fail
      go_region_held3 (fun w' => w'.cell? ⟨w.heap.size, 0, none⟩ = some (.slice a0 W.pool.n c0) ∧ w'.cell? ⟨w.heap.size, 1, none⟩ = some (.slice a1 W.pool.hn c1) ∧ w'.cell? ⟨w.heap.size, 2, none⟩ = some (.int .i64 W.time) ∧ w'.cell? ⟨w.heap.size, 3, none⟩ = some (.int .i64 W.next) ∧ w'.cell? ⟨w.heap.size, 4, none⟩ = some (.slice a' W.sn c') ∧ w'.cell? ⟨w.heap.size, 5, none⟩ = some (.slice (some ⟨b, off, none⟩) W.pn c) ∧ w'.cell? ⟨b, off + k * 8 + 5, none⟩ = some (.int .i64 (W.snaps k).rs) ∧ w'.cell? ⟨b, off + k * 8 + 6, none⟩ = some (.int .i64 (W.snaps k).rb)) (go_keep)
        (first | (go_at_call 61; refine (l02Right_any _ _ lo hi W.pool (W.snaps k).rs (W.snaps k).rb _ ?_ HR.out).mono ?_; (exact (Hp.out.pool.below hb).below (Below.refl _ _).drew); rintro e w6 ⟨⟨t6, rfl, ht6⟩, hb6⟩; obtain ⟨⟨y0, _⟩, ⟨y1, _⟩, ⟨y2, _⟩, ⟨y3, _⟩, ⟨y4, _⟩, ⟨y5, _⟩⟩ := HX.out.below (below_undrew hb6); have z5 := (hb6.cell (p := ⟨b, off + k * 8 + 5, none⟩) (lt_of_cell q5)).trans q5; have z6 := (hb6.cell (p := ⟨b, off + k * 8 + 6, none⟩) (lt_of_cell q6)).trans q6))
      have hb7 := below_call hb hb6
      have HX7 := hideW (HX.out.below (below_undrew hb6))
      have Ht := hideW ht6
      clear ht6 hb6 z5 z6 y0 y1 y2 y3 y4 y5 q5 q6 HX x0 x2 x4 x6 x8 x10
      cases t6
      · have Hn := hideW (show ¬ TreeOk W.pool (W.snaps k).rs (W.snaps k).rb from fun hA => absurd (Ht.out.2 hA) (by simp))
        clear Ht
        go_wp2
        go_ret
        exact ⟨BoolIs.no fun hA => Hn.out (hA.snaps k hlt), hb7⟩
      · have Hn := hideW (Ht.out.1 rfl)
        clear Ht
        go_wp2
        go_roundw
        case rel => exact ⟨k + 1, by omega, by go_num, relNext hlt Hall.out Hn.out, HX7.out, hb7⟩
        case measure => simp [intOf]; omega
    obtain rfl : k = W.pn := by omega
    have HTs := hideW Hall.out
    clear Hall
    go_wp2
    clear x0 x2 x4 x6 x8 x10
    go_loopw [4] (fun i wr => ∃ k : Nat, k ≤ W.sn ∧ i = .int .i64 k ∧ (∀ j, j < k → TreeOk W.pool (W.sets j).rs (W.sets j).rb ∧ DeadOf W (W.pn + j)) ∧ Box6 wr w.heap.size (.slice a0 W.pool.n c0) (.slice a1 W.pool.hn c1) (.int .i64 W.time) (.int .i64 W.next) (.slice a' W.sn c') (.slice a W.pn c) ∧ Below w.heap.size w wr) (fun i _ => W.sn - (intOf i).toNat)
    case atStart => exact ⟨0, Nat.zero_le _, rfl, fun j hj => absurd hj (Nat.not_lt_zero _), HX.out, hb⟩
    case round =>
      clear HX hb hlt hk
      obtain ⟨k, hk, rfl, hall, hX, hb⟩ := hrel
      have Hall := hideW hall
      have HX := hideW hX
      clear hall hX
      obtain ⟨⟨x0, -⟩, ⟨x2, -⟩, ⟨x4, -⟩, ⟨x6, -⟩, ⟨x8, -⟩, ⟨x10, -⟩⟩ := HX.out
      by_cases hlt : k < W.sn
      · have hlt' : (k : Int) < (W.sn : Int) := by omega
        obtain ⟨b, off, vd, rfl, hs⟩ := (Hp.out.sets.below hb).cells hlt
        have q3 := hs.c2
        have q5 := hs.c3
        have q6 := hs.c4
        have q7 := hs.c5
        have Hdd := hideW hs.dead
        clear hs
        by_cases htk : TreeOk W.pool (W.sets k).rs (W.sets k).rb
        rotate_left
        · have Htk := hideW htk
          clear htk
          go_wp2_with fail
          refine wp_region_held_drew (S := (fun w' => w'.cell? ⟨w.heap.size, 0, none⟩ = some (.slice a0 W.pool.n c0) ∧ w'.cell? ⟨w.heap.size, 1, none⟩ = some (.slice a1 W.pool.hn c1) ∧ w'.cell? ⟨w.heap.size, 2, none⟩ = some (.int .i64 W.time) ∧ w'.cell? ⟨w.heap.size, 3, none⟩ = some (.int .i64 W.next) ∧ w'.cell? ⟨w.heap.size, 4, none⟩ = some (.slice (some ⟨b, off, none⟩) W.sn c') ∧ w'.cell? ⟨w.heap.size, 5, none⟩ = some (.slice a W.pn c) ∧ w'.cell? ⟨b, off + k * 6 + 3, none⟩ = some (.int .i64 (W.sets k).rs) ∧ w'.cell? ⟨b, off + k * 6 + 4, none⟩ = some (.int .i64 (W.sets k).rb))) (by kernel_rfl) ?_ (fun hHeld => ?_)
          · (try dsimp only)
            go_keep
          refine wpAnyH_take (i := 0) (oi := ({ dst := some 46, op := Op.fieldAddr 38 (Operand.tmp 1) 0, type := 0, pos := "l04_world.go:133", after := #[], guard := none } : Oper)) (v := ?_) rfl (by kernel_rfl) (by kernel_rfl) (by kernel_rfl) (fun _ _ _ h => h) (Or.inl ⟨by rfl, ?_⟩) (by assumption) ?_
          rotate_left
          · (intro w hSw; (try dsimp only at hSw); go_simp; try with_reducible rfl)
          try simp only [Act.put, List.setIfInBounds_toArray, List.set_cons_zero, List.set_cons_succ]
          refine wpAnyH_take (i := 1) (oi := ({ dst := some 47, op := Op.load 34 (Operand.tmp 46), type := 34, pos := "l04_world.go:133", after := #[{ on := 0, ground := Ground.data }], guard := none } : Oper)) (v := ?_) rfl (by kernel_rfl) (by kernel_rfl) (by kernel_rfl) (fun _ _ _ h => h) (Or.inl ⟨by rfl, ?_⟩) (by assumption) ?_
          rotate_left
          · (intro w hSw; (try dsimp only at hSw); go_simp; try with_reducible rfl)
          try simp only [Act.put, List.setIfInBounds_toArray, List.set_cons_zero, List.set_cons_succ]
          refine wpAnyH_take (i := 2) (oi := ({ dst := some 48, op := Op.fieldAddr 38 (Operand.tmp 1) 3, type := 0, pos := "l04_world.go:133", after := #[], guard := none } : Oper)) (v := ?_) rfl (by kernel_rfl) (by kernel_rfl) (by kernel_rfl) (fun _ _ _ h => h) (Or.inl ⟨by rfl, ?_⟩) (by assumption) ?_
          rotate_left
          · (intro w hSw; (try dsimp only at hSw); go_simp; try with_reducible rfl)
          try simp only [Act.put, List.setIfInBounds_toArray, List.set_cons_zero, List.set_cons_succ]
          refine wpAnyH_take (i := 3) (oi := ({ dst := some 49, op := Op.load 35 (Operand.tmp 48), type := 35, pos := "l04_world.go:133", after := #[{ on := 2, ground := Ground.data }], guard := none } : Oper)) (v := ?_) rfl (by kernel_rfl) (by kernel_rfl) (by kernel_rfl) (fun _ _ _ h => h) (Or.inl ⟨by rfl, ?_⟩) (by assumption) ?_
          rotate_left
          · (intro w hSw; (try dsimp only at hSw); go_simp; try with_reducible rfl)
          try simp only [Act.put, List.setIfInBounds_toArray, List.set_cons_zero, List.set_cons_succ]
          refine wpAnyH_take (i := 4) (oi := ({ dst := some 50, op := Op.move (Operand.tmp 4), type := 3, pos := "l04_world.go:133", after := #[], guard := none } : Oper)) (v := ?_) rfl (by kernel_rfl) (by kernel_rfl) (by kernel_rfl) (fun _ _ _ h => h) (Or.inl ⟨by rfl, ?_⟩) (by assumption) ?_
          rotate_left
          · (intro w hSw; (try dsimp only at hSw); go_simp; try with_reducible rfl)
          try simp only [Act.put, List.setIfInBounds_toArray, List.set_cons_zero, List.set_cons_succ]
          refine wpAnyH_take (i := 5) (oi := ({ dst := some 51, op := Op.indexAddr 35 (Operand.tmp 49) (Operand.tmp 50), type := 0, pos := "l04_world.go:133", after := #[{ on := 3, ground := Ground.data }, { on := 4, ground := Ground.data }], guard := none } : Oper)) (v := ?_) rfl (by kernel_rfl) (by kernel_rfl) (by kernel_rfl) (fun _ _ _ h => h) (Or.inl ⟨by rfl, ?_⟩) (by assumption) ?_
          rotate_left
          · (intro w hSw; (try dsimp only at hSw); go_simp; try with_reducible rfl)
          try simp only [Act.put, List.setIfInBounds_toArray, List.set_cons_zero, List.set_cons_succ]
          refine wpAnyH_take (i := 6) (oi := ({ dst := some 52, op := Op.fieldAddr 60 (Operand.tmp 51) 3, type := 0, pos := "l04_world.go:133", after := #[{ on := 5, ground := Ground.data }], guard := none } : Oper)) (v := ?_) rfl (by kernel_rfl) (by kernel_rfl) (by kernel_rfl) (fun _ _ _ h => h) (Or.inl ⟨by rfl, ?_⟩) (by assumption) ?_
          rotate_left
          · (intro w hSw; (try dsimp only at hSw); go_simp; try with_reducible rfl)
          try simp only [Act.put, List.setIfInBounds_toArray, List.set_cons_zero, List.set_cons_succ]
          refine wpAnyH_take (i := 7) (oi := ({ dst := some 53, op := Op.load 58 (Operand.tmp 52), type := 58, pos := "l04_world.go:133", after := #[{ on := 6, ground := Ground.data }], guard := none } : Oper)) (v := ?_) rfl (by kernel_rfl) (by kernel_rfl) (by kernel_rfl) (fun _ _ _ h => h) (Or.inl ⟨by rfl, ?_⟩) (by assumption) ?_
          rotate_left
          · (intro w hSw; (try dsimp only at hSw); go_simp; try with_reducible rfl)
          try simp only [Act.put, List.setIfInBounds_toArray, List.set_cons_zero, List.set_cons_succ]
          refine wpAnyH_ready (rs := [8]) (by kernel_rfl) (by simp) ?_
          refine AllReadyH.cons (o := ({ dst := some 54, op := Op.call { callee := Callee.value (Operand.func 61), args := #[Operand.tmp 47, Operand.tmp 53], argTypes := #[34, 58] }, type := 4, pos := "l04_world.go:133", after := #[{ on := 1, ground := Ground.data }, { on := 7, ground := Ground.data }], guard := none } : Oper)) rfl (fun K hK => ?_) AllReadyH.nil
          go_simp
          go_at_call 61
          refine (l02Right_any _ _ lo hi W.pool (W.sets k).rs (W.sets k).rb _ ?_ HR.out).mono ?_
          · first | exact Hp.out.pool.below hb | exact Hp.out.pool.below hb.drew
          rintro e w6 ⟨⟨t6, rfl, ht6⟩, hb6⟩
          obtain rfl : t6 = false := bool_no ht6 Htk.out
          clear ht6
          have hC6 : Below wr.heap.size wr w6 := (by first | exact hb6 | exact below_undrew hb6)
          obtain ⟨⟨y0, _⟩, ⟨y1, _⟩, ⟨y2, _⟩, ⟨y3, _⟩, ⟨y4, _⟩, ⟨y5, _⟩⟩ := HX.out.below hC6
          have z5 := (hC6.cell (lt_of_cell q5)).trans q5
          have z6 := (hC6.cell (lt_of_cell q6)).trans q6
          (try go_wp2_with fail)
          refine hK.out _ _ ?_ (fun hHeldN => ?_)
          · (try dsimp only)
            go_keep
          clear hK K hHeld
          have hHeld := hHeldN
          clear hHeldN
          try simp only [Act.put, List.setIfInBounds_toArray, List.set_cons_zero, List.set_cons_succ]
          refine wpAnyH_take (i := 9) (oi := ({ dst := some 55, op := Op.unOp UnOp.not 4 (Operand.tmp 54), type := 4, pos := "l04_world.go:133", after := #[{ on := 8, ground := Ground.data }], guard := none } : Oper)) (v := ?_) rfl (by kernel_rfl) (by kernel_rfl) (by kernel_rfl) (fun _ _ _ h => h) (Or.inl ⟨by rfl, ?_⟩) (by assumption) ?_
          rotate_left
          · (intro w hSw; (try dsimp only at hSw); go_simp; try with_reducible rfl)
          try simp only [Act.put, List.setIfInBounds_toArray, List.set_cons_zero, List.set_cons_succ]
          refine wpAnyH_take (i := 10) (oi := ({ dst := some 56, op := Op.move (Operand.tmp 55), type := 4, pos := "l04_world.go:133", after := #[{ on := 9, ground := Ground.data }, { on := 8, ground := Ground.chain }], guard := none } : Oper)) (v := ?_) rfl (by kernel_rfl) (by kernel_rfl) (by kernel_rfl) (fun _ _ _ h => h) (Or.inl ⟨by rfl, ?_⟩) (by assumption) ?_
          rotate_left
          · (intro w hSw; (try dsimp only at hSw); go_simp; try with_reducible rfl)
          try simp only [Act.put, List.setIfInBounds_toArray, List.set_cons_zero, List.set_cons_succ]
          refine wpAnyH_take (i := 11) (oi := ({ dst := some 57, op := Op.load 38 (Operand.tmp 1), type := 38, pos := "l04_world.go:133", after := #[{ on := 10, ground := Ground.guard }], guard := some (10, false) } : Oper)) (v := undef) rfl (by kernel_rfl) (by kernel_rfl) (by kernel_rfl) (fun _ _ _ h => h) (Or.inr ⟨by rfl, rfl⟩) (by assumption) ?_
          try simp only [Act.put, List.setIfInBounds_toArray, List.set_cons_zero, List.set_cons_succ]
          refine wpAnyH_take (i := 12) (oi := ({ dst := some 58, op := Op.fieldAddr 38 (Operand.tmp 1) 3, type := 0, pos := "l04_world.go:133", after := #[{ on := 10, ground := Ground.guard }], guard := some (10, false) } : Oper)) (v := undef) rfl (by kernel_rfl) (by kernel_rfl) (by kernel_rfl) (fun _ _ _ h => h) (Or.inr ⟨by rfl, rfl⟩) (by assumption) ?_
          try simp only [Act.put, List.setIfInBounds_toArray, List.set_cons_zero, List.set_cons_succ]
          refine wpAnyH_take (i := 13) (oi := ({ dst := some 59, op := Op.load 35 (Operand.tmp 58), type := 35, pos := "l04_world.go:133", after := #[{ on := 12, ground := Ground.data }, { on := 10, ground := Ground.guard }], guard := some (10, false) } : Oper)) (v := undef) rfl (by kernel_rfl) (by kernel_rfl) (by kernel_rfl) (fun _ _ _ h => h) (Or.inr ⟨by rfl, rfl⟩) (by assumption) ?_
          try simp only [Act.put, List.setIfInBounds_toArray, List.set_cons_zero, List.set_cons_succ]
          refine wpAnyH_take (i := 14) (oi := ({ dst := some 60, op := Op.move (Operand.tmp 4), type := 3, pos := "l04_world.go:133", after := #[{ on := 10, ground := Ground.guard }], guard := some (10, false) } : Oper)) (v := undef) rfl (by kernel_rfl) (by kernel_rfl) (by kernel_rfl) (fun _ _ _ h => h) (Or.inr ⟨by rfl, rfl⟩) (by assumption) ?_
          try simp only [Act.put, List.setIfInBounds_toArray, List.set_cons_zero, List.set_cons_succ]
          refine wpAnyH_take (i := 15) (oi := ({ dst := some 61, op := Op.indexAddr 35 (Operand.tmp 59) (Operand.tmp 60), type := 0, pos := "l04_world.go:133", after := #[{ on := 13, ground := Ground.data }, { on := 14, ground := Ground.data }, { on := 10, ground := Ground.guard }], guard := some (10, false) } : Oper)) (v := undef) rfl (by kernel_rfl) (by kernel_rfl) (by kernel_rfl) (fun _ _ _ h => h) (Or.inr ⟨by rfl, rfl⟩) (by assumption) ?_
          try simp only [Act.put, List.setIfInBounds_toArray, List.set_cons_zero, List.set_cons_succ]
          refine wpAnyH_take (i := 16) (oi := ({ dst := some 62, op := Op.fieldAddr 60 (Operand.tmp 61) 2, type := 0, pos := "l04_world.go:133", after := #[{ on := 15, ground := Ground.data }, { on := 10, ground := Ground.guard }], guard := some (10, false) } : Oper)) (v := undef) rfl (by kernel_rfl) (by kernel_rfl) (by kernel_rfl) (fun _ _ _ h => h) (Or.inr ⟨by rfl, rfl⟩) (by assumption) ?_
          try simp only [Act.put, List.setIfInBounds_toArray, List.set_cons_zero, List.set_cons_succ]
          refine wpAnyH_take (i := 17) (oi := ({ dst := some 63, op := Op.load 2 (Operand.tmp 62), type := 2, pos := "l04_world.go:133", after := #[{ on := 16, ground := Ground.data }, { on := 10, ground := Ground.guard }], guard := some (10, false) } : Oper)) (v := undef) rfl (by kernel_rfl) (by kernel_rfl) (by kernel_rfl) (fun _ _ _ h => h) (Or.inr ⟨by rfl, rfl⟩) (by assumption) ?_
          try simp only [Act.put, List.setIfInBounds_toArray, List.set_cons_zero, List.set_cons_succ]
          refine wpAnyH_take (i := 18) (oi := ({ dst := some 64, op := Op.fieldAddr 38 (Operand.tmp 1) 3, type := 0, pos := "l04_world.go:133", after := #[{ on := 10, ground := Ground.guard }], guard := some (10, false) } : Oper)) (v := undef) rfl (by kernel_rfl) (by kernel_rfl) (by kernel_rfl) (fun _ _ _ h => h) (Or.inr ⟨by rfl, rfl⟩) (by assumption) ?_
          try simp only [Act.put, List.setIfInBounds_toArray, List.set_cons_zero, List.set_cons_succ]
          refine wpAnyH_take (i := 19) (oi := ({ dst := some 65, op := Op.load 35 (Operand.tmp 64), type := 35, pos := "l04_world.go:133", after := #[{ on := 18, ground := Ground.data }, { on := 10, ground := Ground.guard }], guard := some (10, false) } : Oper)) (v := undef) rfl (by kernel_rfl) (by kernel_rfl) (by kernel_rfl) (fun _ _ _ h => h) (Or.inr ⟨by rfl, rfl⟩) (by assumption) ?_
          try simp only [Act.put, List.setIfInBounds_toArray, List.set_cons_zero, List.set_cons_succ]
          refine wpAnyH_take (i := 20) (oi := ({ dst := some 66, op := Op.move (Operand.tmp 4), type := 3, pos := "l04_world.go:133", after := #[{ on := 10, ground := Ground.guard }], guard := some (10, false) } : Oper)) (v := undef) rfl (by kernel_rfl) (by kernel_rfl) (by kernel_rfl) (fun _ _ _ h => h) (Or.inr ⟨by rfl, rfl⟩) (by assumption) ?_
          try simp only [Act.put, List.setIfInBounds_toArray, List.set_cons_zero, List.set_cons_succ]
          refine wpAnyH_take (i := 21) (oi := ({ dst := some 67, op := Op.indexAddr 35 (Operand.tmp 65) (Operand.tmp 66), type := 0, pos := "l04_world.go:133", after := #[{ on := 19, ground := Ground.data }, { on := 20, ground := Ground.data }, { on := 10, ground := Ground.guard }], guard := some (10, false) } : Oper)) (v := undef) rfl (by kernel_rfl) (by kernel_rfl) (by kernel_rfl) (fun _ _ _ h => h) (Or.inr ⟨by rfl, rfl⟩) (by assumption) ?_
          try simp only [Act.put, List.setIfInBounds_toArray, List.set_cons_zero, List.set_cons_succ]
          refine wpAnyH_take (i := 22) (oi := ({ dst := some 68, op := Op.fieldAddr 60 (Operand.tmp 67) 3, type := 0, pos := "l04_world.go:133", after := #[{ on := 21, ground := Ground.data }, { on := 10, ground := Ground.guard }], guard := some (10, false) } : Oper)) (v := undef) rfl (by kernel_rfl) (by kernel_rfl) (by kernel_rfl) (fun _ _ _ h => h) (Or.inr ⟨by rfl, rfl⟩) (by assumption) ?_
          try simp only [Act.put, List.setIfInBounds_toArray, List.set_cons_zero, List.set_cons_succ]
          refine wpAnyH_take (i := 23) (oi := ({ dst := some 69, op := Op.load 58 (Operand.tmp 68), type := 58, pos := "l04_world.go:133", after := #[{ on := 22, ground := Ground.data }, { on := 10, ground := Ground.guard }], guard := some (10, false) } : Oper)) (v := undef) rfl (by kernel_rfl) (by kernel_rfl) (by kernel_rfl) (fun _ _ _ h => h) (Or.inr ⟨by rfl, rfl⟩) (by assumption) ?_
          try simp only [Act.put, List.setIfInBounds_toArray, List.set_cons_zero, List.set_cons_succ]
          refine wpAnyH_take (i := 24) (oi := ({ dst := some 70, op := Op.fieldAddr 38 (Operand.tmp 1) 3, type := 0, pos := "l04_world.go:133", after := #[{ on := 10, ground := Ground.guard }], guard := some (10, false) } : Oper)) (v := undef) rfl (by kernel_rfl) (by kernel_rfl) (by kernel_rfl) (fun _ _ _ h => h) (Or.inr ⟨by rfl, rfl⟩) (by assumption) ?_
          try simp only [Act.put, List.setIfInBounds_toArray, List.set_cons_zero, List.set_cons_succ]
          refine wpAnyH_take (i := 25) (oi := ({ dst := some 71, op := Op.load 35 (Operand.tmp 70), type := 35, pos := "l04_world.go:133", after := #[{ on := 24, ground := Ground.data }, { on := 10, ground := Ground.guard }], guard := some (10, false) } : Oper)) (v := undef) rfl (by kernel_rfl) (by kernel_rfl) (by kernel_rfl) (fun _ _ _ h => h) (Or.inr ⟨by rfl, rfl⟩) (by assumption) ?_
          try simp only [Act.put, List.setIfInBounds_toArray, List.set_cons_zero, List.set_cons_succ]
          refine wpAnyH_take (i := 26) (oi := ({ dst := some 72, op := Op.move (Operand.tmp 4), type := 3, pos := "l04_world.go:133", after := #[{ on := 10, ground := Ground.guard }], guard := some (10, false) } : Oper)) (v := undef) rfl (by kernel_rfl) (by kernel_rfl) (by kernel_rfl) (fun _ _ _ h => h) (Or.inr ⟨by rfl, rfl⟩) (by assumption) ?_
          try simp only [Act.put, List.setIfInBounds_toArray, List.set_cons_zero, List.set_cons_succ]
          refine wpAnyH_take (i := 27) (oi := ({ dst := some 73, op := Op.indexAddr 35 (Operand.tmp 71) (Operand.tmp 72), type := 0, pos := "l04_world.go:133", after := #[{ on := 25, ground := Ground.data }, { on := 26, ground := Ground.data }, { on := 10, ground := Ground.guard }], guard := some (10, false) } : Oper)) (v := undef) rfl (by kernel_rfl) (by kernel_rfl) (by kernel_rfl) (fun _ _ _ h => h) (Or.inr ⟨by rfl, rfl⟩) (by assumption) ?_
          try simp only [Act.put, List.setIfInBounds_toArray, List.set_cons_zero, List.set_cons_succ]
          refine wpAnyH_take (i := 28) (oi := ({ dst := some 74, op := Op.fieldAddr 60 (Operand.tmp 73) 4, type := 0, pos := "l04_world.go:133", after := #[{ on := 27, ground := Ground.data }, { on := 10, ground := Ground.guard }], guard := some (10, false) } : Oper)) (v := undef) rfl (by kernel_rfl) (by kernel_rfl) (by kernel_rfl) (fun _ _ _ h => h) (Or.inr ⟨by rfl, rfl⟩) (by assumption) ?_
          try simp only [Act.put, List.setIfInBounds_toArray, List.set_cons_zero, List.set_cons_succ]
          refine wpAnyH_take (i := 29) (oi := ({ dst := some 75, op := Op.load 55 (Operand.tmp 74), type := 55, pos := "l04_world.go:133", after := #[{ on := 28, ground := Ground.data }, { on := 10, ground := Ground.guard }], guard := some (10, false) } : Oper)) (v := undef) rfl (by kernel_rfl) (by kernel_rfl) (by kernel_rfl) (fun _ _ _ h => h) (Or.inr ⟨by rfl, rfl⟩) (by assumption) ?_
          try simp only [Act.put, List.setIfInBounds_toArray, List.set_cons_zero, List.set_cons_succ]
          refine wpAnyH_ready (rs := [30]) (by kernel_rfl) (by simp) ?_
          refine AllReadyH.cons (o := ({ dst := some 76, op := Op.call { callee := Callee.value (Operand.func 62), args := #[Operand.tmp 57, Operand.tmp 63, Operand.tmp 69, Operand.tmp 75], argTypes := #[38, 2, 58, 55] }, type := 4, pos := "l04_world.go:133", after := #[{ on := 11, ground := Ground.data }, { on := 17, ground := Ground.data }, { on := 23, ground := Ground.data }, { on := 29, ground := Ground.data }, { on := 10, ground := Ground.chain }, { on := 10, ground := Ground.guard }], guard := some (10, false) } : Oper)) rfl (fun K hK => ?_) AllReadyH.nil
          split
          · rename_i hwt
            exact absurd (show false = true from hwt) Bool.false_ne_true
          refine hK.out _ _ (by assumption) (fun hHeld => ?_)
          clear hK K
          try simp only [Act.put, List.setIfInBounds_toArray, List.set_cons_zero, List.set_cons_succ]
          refine wpAnyH_take (i := 31) (oi := ({ dst := some 77, op := Op.unOp UnOp.not 4 (Operand.tmp 76), type := 4, pos := "l04_world.go:133", after := #[{ on := 30, ground := Ground.data }, { on := 10, ground := Ground.guard }], guard := some (10, false) } : Oper)) (v := undef) rfl (by kernel_rfl) (by kernel_rfl) (by kernel_rfl) (fun _ _ _ h => h) (Or.inr ⟨by rfl, rfl⟩) (by assumption) ?_
          try simp only [Act.put, List.setIfInBounds_toArray, List.set_cons_zero, List.set_cons_succ]
          refine wpAnyH_take (i := 32) (oi := ({ dst := some 78, op := Op.pick (Operand.tmp 56) (Operand.const (Value.bool true)) (Operand.tmp 77), type := 4, pos := "l04_world.go:133", after := #[{ on := 10, ground := Ground.data }, { on := 31, ground := Ground.data }], guard := none } : Oper)) (v := ?_) rfl (by kernel_rfl) (by kernel_rfl) (by kernel_rfl) (fun _ _ _ h => h) (Or.inl ⟨by rfl, ?_⟩) (by assumption) ?_
          rotate_left
          · (intro w hSw; (try dsimp only at hSw); go_simp; try with_reducible rfl)
          try simp only [Act.put, List.setIfInBounds_toArray, List.set_cons_zero, List.set_cons_succ]
          refine wpAnyH_done (by kernel_rfl) ?_ _
          have hb7 := below_next hb hC6
          clear hC6 y0 y1 y2 y3 y4 y5 z5 z6
          go_wp2
          go_ret
          exact ⟨BoolIs.no fun hA => Htk.out (hA.sets k hlt).1, hb7⟩
        have Htk := hideW htk
        clear htk
        have Hc := hideW (dead_set (Hp.out.below hb) HR.out HTs.out HN.out.prevOk.pos Htk.out Hdd.out)
        go_wp2_with fail
        go_region_held3 (fun w' => w'.cell? ⟨w.heap.size, 0, none⟩ = some (.slice a0 W.pool.n c0) ∧ w'.cell? ⟨w.heap.size, 1, none⟩ = some (.slice a1 W.pool.hn c1) ∧ w'.cell? ⟨w.heap.size, 2, none⟩ = some (.int .i64 W.time) ∧ w'.cell? ⟨w.heap.size, 3, none⟩ = some (.int .i64 W.next) ∧ w'.cell? ⟨w.heap.size, 4, none⟩ = some (.slice (some ⟨b, off, none⟩) W.sn c') ∧ w'.cell? ⟨w.heap.size, 5, none⟩ = some (.slice a W.pn c) ∧ w'.cell? ⟨b, off + k * 6 + 2, none⟩ = some (.int .i64 (W.sets k).prev) ∧ w'.cell? ⟨b, off + k * 6 + 3, none⟩ = some (.int .i64 (W.sets k).rs) ∧ w'.cell? ⟨b, off + k * 6 + 4, none⟩ = some (.int .i64 (W.sets k).rb) ∧ w'.cell? ⟨b, off + k * 6 + 5, none⟩ = some vd) (go_keep)
          (first
            | (go_at_call 61; refine (l02Right_any _ _ lo hi W.pool (W.sets k).rs (W.sets k).rb _ ?_ HR.out).mono ?_; (exact (Hp.out.pool.below hb).below (Below.refl _ _).drew); rintro e w6 ⟨⟨t6, rfl, ht6⟩, hb6⟩; obtain rfl : t6 = true := ht6.2 Htk.out; clear ht6; obtain ⟨⟨y0, _⟩, ⟨y1, _⟩, ⟨y2, _⟩, ⟨y3, _⟩, ⟨y4, _⟩, ⟨y5, _⟩⟩ := HX.out.below (below_undrew hb6); have z3 := (hb6.cell (p := ⟨b, off + k * 6 + 2, none⟩) (lt_of_cell q3)).trans q3; have z5 := (hb6.cell (p := ⟨b, off + k * 6 + 3, none⟩) (lt_of_cell q5)).trans q5; have z6 := (hb6.cell (p := ⟨b, off + k * 6 + 4, none⟩) (lt_of_cell q6)).trans q6; have z7 := (hb6.cell (p := ⟨b, off + k * 6 + 5, none⟩) (lt_of_cell q7)).trans q7)
            | (go_at_call 62; refine (Hc.out _ (below_undrew hb6)).mono ?_; rintro e w7 ⟨⟨t7, rfl, ht7⟩, hb7⟩; obtain ⟨⟨g0, _⟩, ⟨g1, _⟩, ⟨g2, _⟩, ⟨g3, _⟩, ⟨g4, _⟩, ⟨g5, _⟩⟩ := (HX.out.below (below_undrew hb6)).below hb7; have j3 := (hb7.cell (lt_of_cell z3)).trans z3; have j5 := (hb7.cell (lt_of_cell z5)).trans z5; have j6 := (hb7.cell (lt_of_cell z6)).trans z6; have j7 := (hb7.cell (lt_of_cell z7)).trans z7))
        have hb8 := below_next (below_call hb hb6) hb7
        have HX8 := hideW ((HX.out.below (below_undrew hb6)).below hb7)
        have Ht := hideW ht7
        clear ht7 hb6 hb7 z3 z5 z6 z7 y0 y1 y2 y3 y4 y5 g0 g1 g2 g3 g4 g5 j3 j5 j6 j7 q3 q5 q6 q7 HX x0 x2 x4 x6 x8 x10 Hc
        cases t7
        · have Hn := hideW (show ¬ DeadOf W (W.pn + k) from fun hA => absurd (Ht.out.2 hA) (by simp))
          clear Ht
          go_wp2
          go_ret
          exact ⟨BoolIs.no fun hA => Hn.out (hA.sets k hlt).2, hb8⟩
        · have Hn := hideW (Ht.out.1 rfl)
          clear Ht
          go_wp2
          go_roundw
          case rel => exact ⟨k + 1, by omega, by go_num, relNext hlt Hall.out ⟨Htk.out, Hn.out⟩, HX8.out, hb8⟩
          case measure => simp [intOf]; omega
      obtain rfl : k = W.sn := by omega
      have HSt := hideW Hall.out
      clear Hall
      go_wp2
      clear x0 x2 x4 x6 x8 x10
      go_loopw [5] (fun i wr => ∃ k : Nat, k ≤ W.pn ∧ i = .int .i64 k ∧ (∀ j, j < k → DeadOf W j) ∧ Box6 wr w.heap.size (.slice a0 W.pool.n c0) (.slice a1 W.pool.hn c1) (.int .i64 W.time) (.int .i64 W.next) (.slice a' W.sn c') (.slice a W.pn c) ∧ Below w.heap.size w wr) (fun i _ => W.pn - (intOf i).toNat)
      case atStart => exact ⟨0, Nat.zero_le _, rfl, fun j hj => absurd hj (Nat.not_lt_zero _), HX.out, hb⟩
      case round =>
        clear HX hb hlt hk
        obtain ⟨k, hk, rfl, hall, hX, hb⟩ := hrel
        have Hall := hideW hall
        have HX := hideW hX
        clear hall hX
        obtain ⟨⟨x0, -⟩, ⟨x2, -⟩, ⟨x4, -⟩, ⟨x6, -⟩, ⟨x8, -⟩, ⟨x10, -⟩⟩ := HX.out
        by_cases hlt : k < W.pn
        · have hlt' : (k : Int) < (W.pn : Int) := by omega
          obtain ⟨b, off, vd, rfl, hs⟩ := (Hp.out.snaps.below hb).cells hlt
          have q3 := hs.c3
          have q5 := hs.c5
          have q6 := hs.c6
          have q7 := hs.c7
          have Hc := hideW (dead_snap (Hp.out.below hb) HR.out HTs.out HN.out.prevOk.pos hlt hs.dead)
          clear hs
          go_wp2_with fail
          go_region_held3 (fun w' => w'.cell? ⟨w.heap.size, 0, none⟩ = some (.slice a0 W.pool.n c0) ∧ w'.cell? ⟨w.heap.size, 1, none⟩ = some (.slice a1 W.pool.hn c1) ∧ w'.cell? ⟨w.heap.size, 2, none⟩ = some (.int .i64 W.time) ∧ w'.cell? ⟨w.heap.size, 3, none⟩ = some (.int .i64 W.next) ∧ w'.cell? ⟨w.heap.size, 4, none⟩ = some (.slice a' W.sn c') ∧ w'.cell? ⟨w.heap.size, 5, none⟩ = some (.slice (some ⟨b, off, none⟩) W.pn c) ∧ w'.cell? ⟨b, off + k * 8 + 3, none⟩ = some (.int .i64 (W.snaps k).prev) ∧ w'.cell? ⟨b, off + k * 8 + 5, none⟩ = some (.int .i64 (W.snaps k).rs) ∧ w'.cell? ⟨b, off + k * 8 + 6, none⟩ = some (.int .i64 (W.snaps k).rb) ∧ w'.cell? ⟨b, off + k * 8 + 7, none⟩ = some vd) (go_keep)
            (first | (go_at_call 62; refine (Hc.out _ ?_).mono ?_; (exact (Below.refl _ _).drew); rintro e w6 ⟨⟨t6, rfl, ht6⟩, hb6⟩; obtain ⟨⟨y0, _⟩, ⟨y1, _⟩, ⟨y2, _⟩, ⟨y3, _⟩, ⟨y4, _⟩, ⟨y5, _⟩⟩ := HX.out.below (below_undrew hb6); have z3 := (hb6.cell (p := ⟨b, off + k * 8 + 3, none⟩) (lt_of_cell q3)).trans q3; have z5 := (hb6.cell (p := ⟨b, off + k * 8 + 5, none⟩) (lt_of_cell q5)).trans q5; have z6 := (hb6.cell (p := ⟨b, off + k * 8 + 6, none⟩) (lt_of_cell q6)).trans q6; have z7 := (hb6.cell (p := ⟨b, off + k * 8 + 7, none⟩) (lt_of_cell q7)).trans q7))
          have hb7 := below_call hb hb6
          have HX7 := hideW (HX.out.below (below_undrew hb6))
          have Ht := hideW ht6
          clear ht6 hb6 z3 z5 z6 z7 y0 y1 y2 y3 y4 y5 q3 q5 q6 q7 HX x0 x2 x4 x6 x8 x10 Hc
          cases t6
          · have Hn := hideW (show ¬ DeadOf W k from fun hA => absurd (Ht.out.2 hA) (by simp))
            clear Ht
            go_wp2
            go_ret
            exact ⟨BoolIs.no fun hA => Hn.out (hA.dead k hlt), hb7⟩
          · have Hn := hideW (Ht.out.1 rfl)
            clear Ht
            go_wp2
            go_roundw
            case rel => exact ⟨k + 1, by omega, by go_num, relNext hlt Hall.out Hn.out, HX7.out, hb7⟩
            case measure => simp [intOf]; omega
        obtain rfl : k = W.pn := by omega
        have HDs := hideW Hall.out
        have HTr := hideW (trees_of HR.out HN.out HTs.out (fun i hi => (HSt.out i hi).1))
        clear Hall
        go_wp2_with fail
        clear x0 x2 x4 x6 x8 x10
        refine (l04Reach_any _ _ _ _ lo hi W _ (Hp.out.below hb) HTr.out hsn hsp).mono ?_
        rintro e w4 ⟨R, f, rfl, hRl, hRb, hRf, hb4⟩
        have HX4 := hideW (HX.out.below hb4)
        have HRb := hideW hRb
        have HRf := hideW hRf
        have hB4 := below_next hb hb4
        have hRw : w.heap.size ≤ R := by have := hb.size; omega
        clear HX hb hb4 hRb hRf hlt hk hRl
        go_wp2
        go_loopw [7] (fun i wr => ∃ k : Nat, k ≤ W.pool.n ∧ i = .int .i64 k ∧ (∀ j, j < k → (InSome W j ↔ (¬ Free (W.pool.s j) ∧ ¬ Has W.pool.hn W.pool.h j))) ∧ Box6 wr w.heap.size (.slice a0 W.pool.n c0) (.slice a1 W.pool.hn c1) (.int .i64 W.time) (.int .i64 W.next) (.slice a' W.sn c') (.slice a W.pn c) ∧ BoolsC wr R W.pool.n f ∧ Below w.heap.size w wr) (fun i _ => W.pool.n - (intOf i).toNat)
        case atStart => exact ⟨0, Nat.zero_le _, rfl, fun j hj => absurd hj (Nat.not_lt_zero _), HX4.out, HRb.out, hB4⟩
        case round =>
          clear HX4 HRb hB4
          obtain ⟨k, hk, rfl, hall, hX, hRb, hb⟩ := hrel
          have Hall := hideW hall
          have HX := hideW hX
          have HRb := hideW hRb
          clear hall hX hRb
          obtain ⟨⟨x0, -⟩, ⟨x2, -⟩, ⟨x4, -⟩, ⟨x6, -⟩, ⟨x8, -⟩, ⟨x10, -⟩⟩ := HX.out
          by_cases hlt : k < W.pool.n
          · have hlt' : (k : Int) < (W.pool.n : Int) := by omega
            obtain ⟨b, off, ka, kc, rfl, hsc⟩ := (Hp.out.pool.1.below hb).cells hlt
            have q0 := hsc.c0
            have q1 := hsc.c1
            have q2 := hsc.c2
            have Hsl := hideW hsc.slot
            have qr := (HRb.out k hlt).1
            clear hsc
            have HHd := hideW (Hp.out.pool.2.below hb)
            have Hrk := hideW (HRf.out k)
            by_cases hfr : Free (W.pool.s k)
            · have Hfr := hideW hfr
              clear hfr
              go_wp2_with fail
              refine wp_region_held_drew (S := (fun w' => w'.cell? ⟨w.heap.size, 0, none⟩ = some (.slice (some ⟨b, off, none⟩) W.pool.n c0) ∧ w'.cell? ⟨w.heap.size, 1, none⟩ = some (.slice a1 W.pool.hn c1) ∧ w'.cell? ⟨w.heap.size, 2, none⟩ = some (.int .i64 W.time) ∧ w'.cell? ⟨w.heap.size, 3, none⟩ = some (.int .i64 W.next) ∧ w'.cell? ⟨w.heap.size, 4, none⟩ = some (.slice a' W.sn c') ∧ w'.cell? ⟨w.heap.size, 5, none⟩ = some (.slice a W.pn c) ∧ w'.cell? ⟨R, k, none⟩ = some (.bool (f k)) ∧ w'.cell? ⟨b, off + k * 3, none⟩ = some (.int .i64 (W.pool.s k).birth) ∧ w'.cell? ⟨b, off + k * 3 + 1, none⟩ = some (.slice ka (W.pool.s k).kn kc) ∧ w'.cell? ⟨b, off + k * 3 + 2, none⟩ = some (.string (W.pool.s k).data))) (by kernel_rfl) ?_ (fun hHeld => ?_)
              · (try dsimp only)
                go_keep
              refine wpAnyH_take (i := 0) (oi := ({ dst := some 115, op := Op.move (Operand.tmp 6), type := 71, pos := "l04_world.go:144", after := #[], guard := none } : Oper)) (v := ?_) rfl (by kernel_rfl) (by kernel_rfl) (by kernel_rfl) (fun _ _ _ h => h) (Or.inl ⟨by rfl, ?_⟩) (by assumption) ?_
              rotate_left
              · (intro w hSw; (try dsimp only at hSw); go_simp; try with_reducible rfl)
              try simp only [Act.put, List.setIfInBounds_toArray, List.set_cons_zero, List.set_cons_succ]
              refine wpAnyH_take (i := 1) (oi := ({ dst := some 116, op := Op.move (Operand.tmp 7), type := 3, pos := "l04_world.go:144", after := #[], guard := none } : Oper)) (v := ?_) rfl (by kernel_rfl) (by kernel_rfl) (by kernel_rfl) (fun _ _ _ h => h) (Or.inl ⟨by rfl, ?_⟩) (by assumption) ?_
              rotate_left
              · (intro w hSw; (try dsimp only at hSw); go_simp; try with_reducible rfl)
              try simp only [Act.put, List.setIfInBounds_toArray, List.set_cons_zero, List.set_cons_succ]
              refine wpAnyH_take (i := 2) (oi := ({ dst := some 117, op := Op.indexAddr 71 (Operand.tmp 115) (Operand.tmp 116), type := 0, pos := "l04_world.go:144", after := #[{ on := 0, ground := Ground.data }, { on := 1, ground := Ground.data }], guard := none } : Oper)) (v := ?_) rfl (by kernel_rfl) (by kernel_rfl) (by kernel_rfl) (fun _ _ _ h => h) (Or.inl ⟨by rfl, ?_⟩) (by assumption) ?_
              rotate_left
              · (intro w hSw; (try dsimp only at hSw); go_simp; try with_reducible rfl)
              try simp only [Act.put, List.setIfInBounds_toArray, List.set_cons_zero, List.set_cons_succ]
              refine wpAnyH_take (i := 3) (oi := ({ dst := some 118, op := Op.load 4 (Operand.tmp 117), type := 4, pos := "l04_world.go:144", after := #[{ on := 2, ground := Ground.data }], guard := none } : Oper)) (v := ?_) rfl (by kernel_rfl) (by kernel_rfl) (by kernel_rfl) (fun _ _ _ h => h) (Or.inl ⟨by rfl, ?_⟩) (by assumption) ?_
              rotate_left
              · (intro w hSw; (try dsimp only at hSw); go_simp; try with_reducible rfl)
              try simp only [Act.put, List.setIfInBounds_toArray, List.set_cons_zero, List.set_cons_succ]
              refine wpAnyH_take (i := 4) (oi := ({ dst := some 119, op := Op.fieldAddr 38 (Operand.tmp 1) 0, type := 0, pos := "l04_world.go:144", after := #[], guard := none } : Oper)) (v := ?_) rfl (by kernel_rfl) (by kernel_rfl) (by kernel_rfl) (fun _ _ _ h => h) (Or.inl ⟨by rfl, ?_⟩) (by assumption) ?_
              rotate_left
              · (intro w hSw; (try dsimp only at hSw); go_simp; try with_reducible rfl)
              try simp only [Act.put, List.setIfInBounds_toArray, List.set_cons_zero, List.set_cons_succ]
              refine wpAnyH_take (i := 5) (oi := ({ dst := some 120, op := Op.fieldAddr 34 (Operand.tmp 119) 0, type := 0, pos := "l04_world.go:144", after := #[{ on := 4, ground := Ground.data }], guard := none } : Oper)) (v := ?_) rfl (by kernel_rfl) (by kernel_rfl) (by kernel_rfl) (fun _ _ _ h => h) (Or.inl ⟨by rfl, ?_⟩) (by assumption) ?_
              rotate_left
              · (intro w hSw; (try dsimp only at hSw); go_simp; try with_reducible rfl)
              try simp only [Act.put, List.setIfInBounds_toArray, List.set_cons_zero, List.set_cons_succ]
              refine wpAnyH_take (i := 6) (oi := ({ dst := some 121, op := Op.load 32 (Operand.tmp 120), type := 32, pos := "l04_world.go:144", after := #[{ on := 5, ground := Ground.data }], guard := none } : Oper)) (v := ?_) rfl (by kernel_rfl) (by kernel_rfl) (by kernel_rfl) (fun _ _ _ h => h) (Or.inl ⟨by rfl, ?_⟩) (by assumption) ?_
              rotate_left
              · (intro w hSw; (try dsimp only at hSw); go_simp; try with_reducible rfl)
              try simp only [Act.put, List.setIfInBounds_toArray, List.set_cons_zero, List.set_cons_succ]
              refine wpAnyH_take (i := 7) (oi := ({ dst := some 122, op := Op.move (Operand.tmp 7), type := 3, pos := "l04_world.go:144", after := #[], guard := none } : Oper)) (v := ?_) rfl (by kernel_rfl) (by kernel_rfl) (by kernel_rfl) (fun _ _ _ h => h) (Or.inl ⟨by rfl, ?_⟩) (by assumption) ?_
              rotate_left
              · (intro w hSw; (try dsimp only at hSw); go_simp; try with_reducible rfl)
              try simp only [Act.put, List.setIfInBounds_toArray, List.set_cons_zero, List.set_cons_succ]
              refine wpAnyH_take (i := 8) (oi := ({ dst := some 123, op := Op.indexAddr 32 (Operand.tmp 121) (Operand.tmp 122), type := 0, pos := "l04_world.go:144", after := #[{ on := 6, ground := Ground.data }, { on := 7, ground := Ground.data }], guard := none } : Oper)) (v := ?_) rfl (by kernel_rfl) (by kernel_rfl) (by kernel_rfl) (fun _ _ _ h => h) (Or.inl ⟨by rfl, ?_⟩) (by assumption) ?_
              rotate_left
              · (intro w hSw; (try dsimp only at hSw); go_simp; try with_reducible rfl)
              try simp only [Act.put, List.setIfInBounds_toArray, List.set_cons_zero, List.set_cons_succ]
              refine wpAnyH_take (i := 9) (oi := ({ dst := some 124, op := Op.load 105 (Operand.tmp 123), type := 105, pos := "l04_world.go:144", after := #[{ on := 8, ground := Ground.data }], guard := none } : Oper)) (v := ?_) rfl (by kernel_rfl) (by kernel_rfl) (by kernel_rfl) (fun _ _ _ h => h) (Or.inl ⟨by rfl, ?_⟩) (by assumption) ?_
              rotate_left
              · (intro w hSw; (try dsimp only at hSw); go_simp; try with_reducible rfl)
              try simp only [Act.put, List.setIfInBounds_toArray, List.set_cons_zero, List.set_cons_succ]
              refine wpAnyH_ready (rs := [10]) (by kernel_rfl) (by simp) ?_
              refine AllReadyH.cons (o := ({ dst := some 125, op := Op.call { callee := Callee.value (Operand.func 63), args := #[Operand.tmp 124], argTypes := #[105] }, type := 4, pos := "l04_world.go:144", after := #[{ on := 9, ground := Ground.data }], guard := none } : Oper)) rfl (fun K hK => ?_) AllReadyH.nil
              go_simp
              go_at_call 63
              refine (l01Free_any _ _ _ lo hi (W.pool.s k) _ ?_).mono ?_
              · exact Hsl.out.below (below_drewN (Below.refl _ _) 1)
              rintro e w6 ⟨⟨t6, rfl, ht6⟩, hb6⟩
              obtain rfl : t6 = true := ht6.2 Hfr.out
              clear ht6
              have hC6 : Below wr.heap.size wr w6 := (by first | exact hb6 | exact below_undrew hb6)
              obtain ⟨⟨y0, _⟩, ⟨y1, _⟩, ⟨y2, _⟩, ⟨y3, _⟩, ⟨y4, _⟩, ⟨y5, _⟩⟩ := HX.out.below hC6
              have z0 := (hC6.cell (lt_of_cell q0)).trans q0
              have z1 := (hC6.cell (lt_of_cell q1)).trans q1
              have z2 := (hC6.cell (lt_of_cell q2)).trans q2
              have z3 := (hC6.cell (lt_of_cell qr)).trans qr
              (try go_wp2_with fail)
              refine hK.out _ _ ?_ (fun hHeldN => ?_)
              · (try dsimp only)
                go_keep
              clear hK K hHeld
              have hHeld := hHeldN
              clear hHeldN
              try simp only [Act.put, List.setIfInBounds_toArray, List.set_cons_zero, List.set_cons_succ]
              refine wpAnyH_take (i := 11) (oi := ({ dst := some 126, op := Op.unOp UnOp.not 4 (Operand.tmp 125), type := 4, pos := "l04_world.go:144", after := #[{ on := 10, ground := Ground.data }], guard := none } : Oper)) (v := ?_) rfl (by kernel_rfl) (by kernel_rfl) (by kernel_rfl) (fun _ _ _ h => h) (Or.inl ⟨by rfl, ?_⟩) (by assumption) ?_
              rotate_left
              · (intro w hSw; (try dsimp only at hSw); go_simp; try with_reducible rfl)
              try simp only [Act.put, List.setIfInBounds_toArray, List.set_cons_zero, List.set_cons_succ]
              refine wpAnyH_take (i := 12) (oi := ({ dst := some 127, op := Op.move (Operand.tmp 126), type := 4, pos := "l04_world.go:144", after := #[{ on := 11, ground := Ground.data }, { on := 10, ground := Ground.chain }], guard := none } : Oper)) (v := ?_) rfl (by kernel_rfl) (by kernel_rfl) (by kernel_rfl) (fun _ _ _ h => h) (Or.inl ⟨by rfl, ?_⟩) (by assumption) ?_
              rotate_left
              · (intro w hSw; (try dsimp only at hSw); go_simp; try with_reducible rfl)
              try simp only [Act.put, List.setIfInBounds_toArray, List.set_cons_zero, List.set_cons_succ]
              refine wpAnyH_take (i := 13) (oi := ({ dst := some 128, op := Op.fieldAddr 38 (Operand.tmp 1) 0, type := 0, pos := "l04_world.go:144", after := #[{ on := 12, ground := Ground.guard }], guard := some (12, true) } : Oper)) (v := undef) rfl (by kernel_rfl) (by kernel_rfl) (by kernel_rfl) (fun _ _ _ h => h) (Or.inr ⟨by rfl, rfl⟩) (by assumption) ?_
              try simp only [Act.put, List.setIfInBounds_toArray, List.set_cons_zero, List.set_cons_succ]
              refine wpAnyH_take (i := 14) (oi := ({ dst := some 129, op := Op.fieldAddr 34 (Operand.tmp 128) 1, type := 0, pos := "l04_world.go:144", after := #[{ on := 13, ground := Ground.data }, { on := 12, ground := Ground.guard }], guard := some (12, true) } : Oper)) (v := undef) rfl (by kernel_rfl) (by kernel_rfl) (by kernel_rfl) (fun _ _ _ h => h) (Or.inr ⟨by rfl, rfl⟩) (by assumption) ?_
              try simp only [Act.put, List.setIfInBounds_toArray, List.set_cons_zero, List.set_cons_succ]
              refine wpAnyH_take (i := 15) (oi := ({ dst := some 130, op := Op.load 23 (Operand.tmp 129), type := 23, pos := "l04_world.go:144", after := #[{ on := 14, ground := Ground.data }, { on := 12, ground := Ground.guard }], guard := some (12, true) } : Oper)) (v := undef) rfl (by kernel_rfl) (by kernel_rfl) (by kernel_rfl) (fun _ _ _ h => h) (Or.inr ⟨by rfl, rfl⟩) (by assumption) ?_
              try simp only [Act.put, List.setIfInBounds_toArray, List.set_cons_zero, List.set_cons_succ]
              refine wpAnyH_take (i := 16) (oi := ({ dst := some 131, op := Op.move (Operand.tmp 7), type := 3, pos := "l04_world.go:144", after := #[{ on := 12, ground := Ground.guard }], guard := some (12, true) } : Oper)) (v := undef) rfl (by kernel_rfl) (by kernel_rfl) (by kernel_rfl) (fun _ _ _ h => h) (Or.inr ⟨by rfl, rfl⟩) (by assumption) ?_
              try simp only [Act.put, List.setIfInBounds_toArray, List.set_cons_zero, List.set_cons_succ]
              refine wpAnyH_ready (rs := [17]) (by kernel_rfl) (by simp) ?_
              refine AllReadyH.cons (o := ({ dst := some 132, op := Op.call { callee := Callee.value (Operand.func 64), args := #[Operand.tmp 130, Operand.tmp 131], argTypes := #[23, 2] }, type := 4, pos := "l04_world.go:144", after := #[{ on := 15, ground := Ground.data }, { on := 16, ground := Ground.data }, { on := 12, ground := Ground.chain }, { on := 12, ground := Ground.guard }], guard := some (12, true) } : Oper)) rfl (fun K hK => ?_) AllReadyH.nil
              split
              · rename_i hwt
                exact absurd (show false = true from hwt) Bool.false_ne_true
              refine hK.out _ _ (by assumption) (fun hHeld => ?_)
              clear hK K
              try simp only [Act.put, List.setIfInBounds_toArray, List.set_cons_zero, List.set_cons_succ]
              refine wpAnyH_take (i := 18) (oi := ({ dst := some 133, op := Op.unOp UnOp.not 4 (Operand.tmp 132), type := 4, pos := "l04_world.go:144", after := #[{ on := 17, ground := Ground.data }, { on := 12, ground := Ground.guard }], guard := some (12, true) } : Oper)) (v := undef) rfl (by kernel_rfl) (by kernel_rfl) (by kernel_rfl) (fun _ _ _ h => h) (Or.inr ⟨by rfl, rfl⟩) (by assumption) ?_
              try simp only [Act.put, List.setIfInBounds_toArray, List.set_cons_zero, List.set_cons_succ]
              refine wpAnyH_take (i := 19) (oi := ({ dst := some 134, op := Op.pick (Operand.tmp 127) (Operand.tmp 133) (Operand.const (Value.bool false)), type := 4, pos := "l04_world.go:144", after := #[{ on := 12, ground := Ground.data }, { on := 18, ground := Ground.data }], guard := none } : Oper)) (v := ?_) rfl (by kernel_rfl) (by kernel_rfl) (by kernel_rfl) (fun _ _ _ h => h) (Or.inl ⟨by rfl, ?_⟩) (by assumption) ?_
              rotate_left
              · (intro w hSw; (try dsimp only at hSw); go_simp; try with_reducible rfl)
              try simp only [Act.put, List.setIfInBounds_toArray, List.set_cons_zero, List.set_cons_succ]
              refine wpAnyH_take (i := 20) (oi := ({ dst := some 135, op := Op.binOp BinOp.neq 4 (Operand.tmp 118) (Operand.tmp 134) 4, type := 4, pos := "l04_world.go:144", after := #[{ on := 3, ground := Ground.data }, { on := 19, ground := Ground.data }], guard := none } : Oper)) (v := ?_) rfl (by kernel_rfl) (by kernel_rfl) (by kernel_rfl) (fun _ _ _ h => h) (Or.inl ⟨by rfl, ?_⟩) (by assumption) ?_
              rotate_left
              · (intro w hSw; (try dsimp only at hSw); go_simp; try with_reducible rfl)
              try simp only [Act.put, List.setIfInBounds_toArray, List.set_cons_zero, List.set_cons_succ]
              refine wpAnyH_done (by kernel_rfl) ?_ _
              have hb7 := below_next hb hC6
              have HX7 := hideW (HX.out.below hC6)
              have HR7 := hideW (HRb.out.below hC6)
              clear hC6 y0 y1 y2 y3 y4 y5 z0 z1 z2 z3
              cases hfk : f k
              · have Hok := hideW (show InSome W k ↔ (¬ Free (W.pool.s k) ∧ ¬ Has W.pool.hn W.pool.h k) from ⟨fun h => absurd (Hrk.out.2 h) (by simp [hfk]), fun h => absurd Hfr.out h.1⟩)
                rw [hfk] at *
                go_wp2
                go_roundw
                case rel => exact ⟨k + 1, by omega, by go_num, relNext hlt Hall.out Hok.out, HX7.out, HR7.out, hb7⟩
                case measure => simp [intOf]; omega
              · have Hno := hideW (show ¬ ReachEq W from fun h => ((h k hlt).1 (Hrk.out.1 hfk)).1 Hfr.out)
                rw [hfk] at *
                go_wp2
                go_ret
                exact ⟨BoolIs.no fun hA => Hno.out hA.reach, hb7⟩
            · have Hfr := hideW hfr
              clear hfr
              by_cases hhd : Has W.pool.hn W.pool.h k
              · have Hhd := hideW hhd
                clear hhd
                go_wp2_with fail
                go_region_held3 (fun w' => w'.cell? ⟨w.heap.size, 0, none⟩ = some (.slice (some ⟨b, off, none⟩) W.pool.n c0) ∧ w'.cell? ⟨w.heap.size, 1, none⟩ = some (.slice a1 W.pool.hn c1) ∧ w'.cell? ⟨w.heap.size, 2, none⟩ = some (.int .i64 W.time) ∧ w'.cell? ⟨w.heap.size, 3, none⟩ = some (.int .i64 W.next) ∧ w'.cell? ⟨w.heap.size, 4, none⟩ = some (.slice a' W.sn c') ∧ w'.cell? ⟨w.heap.size, 5, none⟩ = some (.slice a W.pn c) ∧ w'.cell? ⟨R, k, none⟩ = some (.bool (f k)) ∧ w'.cell? ⟨b, off + k * 3, none⟩ = some (.int .i64 (W.pool.s k).birth) ∧ w'.cell? ⟨b, off + k * 3 + 1, none⟩ = some (.slice ka (W.pool.s k).kn kc) ∧ w'.cell? ⟨b, off + k * 3 + 2, none⟩ = some (.string (W.pool.s k).data)) (go_keep)
                  (first
                    | (go_at_call 63; refine (l01Free_any _ _ _ lo hi (W.pool.s k) _ ?_).mono ?_; (exact Hsl.out.below (Below.refl _ _).drew); rintro e w6 ⟨⟨t6, rfl, ht6⟩, hb6⟩; obtain rfl : t6 = false := bool_no ht6 Hfr.out; clear ht6; have hC6 := below_undrew hb6; obtain ⟨⟨y0, _⟩, ⟨y1, _⟩, ⟨y2, _⟩, ⟨y3, _⟩, ⟨y4, _⟩, ⟨y5, _⟩⟩ := HX.out.below hC6; have z0 := (hC6.cell (lt_of_cell q0)).trans q0; have z1 := (hC6.cell (lt_of_cell q1)).trans q1; have z2 := (hC6.cell (lt_of_cell q2)).trans q2; have z3 := (hC6.cell (lt_of_cell qr)).trans qr)
                    | (go_at_call 64; refine (l01Has_any _ W.pool.hn lo hi W.pool.h k _ (HHd.out.below hC6)).mono ?_; rintro e w8 ⟨⟨t8, rfl, ht8⟩, rfl⟩; obtain rfl : t8 = true := ht8.2 Hhd.out; clear ht8))
                have hb7 := below_next hb hC6
                have HX7 := hideW (HX.out.below hC6)
                have HR7 := hideW (HRb.out.below hC6)
                clear hC6 y0 y1 y2 y3 y4 y5 z0 z1 z2 z3
                cases hfk : f k
                · have Hok := hideW (show InSome W k ↔ (¬ Free (W.pool.s k) ∧ ¬ Has W.pool.hn W.pool.h k) from ⟨fun h => absurd (Hrk.out.2 h) (by simp [hfk]), fun h => absurd Hhd.out h.2⟩)
                  rw [hfk] at *
                  go_wp2
                  go_roundw
                  case rel => exact ⟨k + 1, by omega, by go_num, relNext hlt Hall.out Hok.out, HX7.out, HR7.out, hb7⟩
                  case measure => simp [intOf]; omega
                · have Hno := hideW (show ¬ ReachEq W from fun h => ((h k hlt).1 (Hrk.out.1 hfk)).2 Hhd.out)
                  rw [hfk] at *
                  go_wp2
                  go_ret
                  exact ⟨BoolIs.no fun hA => Hno.out hA.reach, hb7⟩
              · have Hhd := hideW hhd
                clear hhd
                go_wp2_with fail
                go_region_held3 (fun w' => w'.cell? ⟨w.heap.size, 0, none⟩ = some (.slice (some ⟨b, off, none⟩) W.pool.n c0) ∧ w'.cell? ⟨w.heap.size, 1, none⟩ = some (.slice a1 W.pool.hn c1) ∧ w'.cell? ⟨w.heap.size, 2, none⟩ = some (.int .i64 W.time) ∧ w'.cell? ⟨w.heap.size, 3, none⟩ = some (.int .i64 W.next) ∧ w'.cell? ⟨w.heap.size, 4, none⟩ = some (.slice a' W.sn c') ∧ w'.cell? ⟨w.heap.size, 5, none⟩ = some (.slice a W.pn c) ∧ w'.cell? ⟨R, k, none⟩ = some (.bool (f k)) ∧ w'.cell? ⟨b, off + k * 3, none⟩ = some (.int .i64 (W.pool.s k).birth) ∧ w'.cell? ⟨b, off + k * 3 + 1, none⟩ = some (.slice ka (W.pool.s k).kn kc) ∧ w'.cell? ⟨b, off + k * 3 + 2, none⟩ = some (.string (W.pool.s k).data)) (go_keep)
                  (first
                    | (go_at_call 63; refine (l01Free_any _ _ _ lo hi (W.pool.s k) _ ?_).mono ?_; (exact Hsl.out.below (Below.refl _ _).drew); rintro e w6 ⟨⟨t6, rfl, ht6⟩, hb6⟩; obtain rfl : t6 = false := bool_no ht6 Hfr.out; clear ht6; have hC6 := below_undrew hb6; obtain ⟨⟨y0, _⟩, ⟨y1, _⟩, ⟨y2, _⟩, ⟨y3, _⟩, ⟨y4, _⟩, ⟨y5, _⟩⟩ := HX.out.below hC6; have z0 := (hC6.cell (lt_of_cell q0)).trans q0; have z1 := (hC6.cell (lt_of_cell q1)).trans q1; have z2 := (hC6.cell (lt_of_cell q2)).trans q2; have z3 := (hC6.cell (lt_of_cell qr)).trans qr)
                    | (go_at_call 64; refine (l01Has_any _ W.pool.hn lo hi W.pool.h k _ (HHd.out.below hC6)).mono ?_; rintro e w8 ⟨⟨t8, rfl, ht8⟩, rfl⟩; obtain rfl : t8 = false := bool_no ht8 Hhd.out; clear ht8))
                have hb7 := below_next hb hC6
                have HX7 := hideW (HX.out.below hC6)
                have HR7 := hideW (HRb.out.below hC6)
                clear hC6 y0 y1 y2 y3 y4 y5 z0 z1 z2 z3
                cases hfk : f k
                · have Hno := hideW (show ¬ ReachEq W from fun h => absurd (Hrk.out.2 ((h k hlt).2 ⟨Hfr.out, Hhd.out⟩)) (by simp [hfk]))
                  rw [hfk] at *
                  go_wp2
                  go_ret
                  exact ⟨BoolIs.no fun hA => Hno.out hA.reach, hb7⟩
                · have Hok := hideW (show InSome W k ↔ (¬ Free (W.pool.s k) ∧ ¬ Has W.pool.hn W.pool.h k) from ⟨fun _ => ⟨Hfr.out, Hhd.out⟩, fun _ => Hrk.out.1 hfk⟩)
                  rw [hfk] at *
                  go_wp2
                  go_roundw
                  case rel => exact ⟨k + 1, by omega, by go_num, relNext hlt Hall.out Hok.out, HX7.out, HR7.out, hb7⟩
                  case measure => simp [intOf]; omega
          · obtain rfl : k = W.pool.n := by omega
            have HRe := hideW (show ReachEq W from Hall.out)
            clear Hall
            go_wp2_with fail
            clear x0 x2 x4 x6 x8 x10
            refine (l04Born_any _ _ _ _ lo hi W _ (Hp.out.below hb) HTr.out HN.out.prevOk.pos).mono ?_
            rintro e w5 ⟨⟨t5, rfl, ht5⟩, hb5⟩
            have HX5 := hideW (HX.out.below hb5)
            have hB5 := below_next hb hb5
            clear HX hb hb5
            by_cases hbn : ∀ i, i < memN W → BornOf W i
            rotate_left
            · have Hbn := hideW hbn
              obtain rfl : t5 = false := bool_no ht5 hbn
              clear ht5 hbn
              go_wp2
              go_ret
              exact ⟨BoolIs.no fun hA => Hbn.out hA.born, hB5⟩
            have Hbn := hideW hbn
            obtain rfl : t5 = true := ht5.2 hbn
            clear ht5 hbn
            obtain ⟨⟨x0, -⟩, ⟨x2, -⟩, ⟨x4, -⟩, ⟨x6, -⟩, ⟨x8, -⟩, ⟨x10, -⟩⟩ := HX5.out
            go_wp2_with fail
            clear x0 x2 x4 x6 x8 x10
            refine (l04Apart_any _ _ _ _ lo hi W _ (Hp.out.below hB5) HTr.out HN.out.prevOk.pos hsn hsp).mono ?_
            rintro e w6 ⟨⟨t6, rfl, ht6⟩, hb6⟩
            have Ht := hideW ht6
            clear ht6
            go_wp2
            go_ret
            exact ⟨⟨t6, rfl, Ht.out.trans ⟨fun hA => ⟨HR.out, HN.out, HL.out, HTs.out, HSt.out, HDs.out, HRe.out, Hbn.out, hA⟩, fun hA => hA.apart⟩⟩, below_next hB5 hb6⟩

end Go.Proofs.YtebegmdbpapfgaaGreat
