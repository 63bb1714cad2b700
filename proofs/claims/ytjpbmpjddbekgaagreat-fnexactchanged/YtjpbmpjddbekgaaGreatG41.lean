/- What impl.pagesApart answers. -/
import Derived.Test.YtjpbmpjddbekgaaGreatG40
import Derived.Test.YtjpbmpjddbekgaaGreatG1
import Derived.Test.YtjpbmpjddbekgaaGreatG39
import Derived.Deep.DeepCutAuto
import Derived.Deep.RegionHeld3
import Derived.Deep.AppendLies
namespace Go.Proofs.YtjpbmpjddbekgaaGreat
open Go.RowKit Go.Shelf Go.Maps
set_option linter.unusedVariables false

/-- The cells of a row of 64 pointers, under a name of their own. -/
structure PgIs (cs : Array Value) (f : Nat → Int × Int) : Prop where
  eq : cs = pgC f
theorem PgIs.size {cs : Array Value} {f : Nat → Int × Int} (h : PgIs cs f) : cs.size = 128 := by rw [h.eq, pgC_size]
theorem PgIs.one {cs : Array Value} {f : Nat → Int × Int} (h : PgIs cs f) : cs.all (·.oneCell') = true := by rw [h.eq, pgC_one]
theorem pgC_at (f : Nat → Int × Int) {j : Nat} (hj : j < 128) : (pgC f)[j]? = some (pgV f j) := by simp [pgC, hj]
theorem PgIs.pg {cs : Array Value} {f : Nat → Int × Int} (h : PgIs cs f) {X : World} {V : Nat} (hb : Blk X V cs) : PgAt X V f := fun n hn => by
  have h1 := cell_of_block hb (by rw [h.eq]; exact pgC_at f (show n * 2 < 128 by omega))
  have h2 := cell_of_block hb (by rw [h.eq]; exact pgC_at f (show n * 2 + 1 < 128 by omega))
  unfold pgV at h1 h2
  rw [if_pos (by omega), show n * 2 / 2 = n by omega] at h1
  rw [if_neg (by omega), show (n * 2 + 1) / 2 = n by omega] at h2
  exact ⟨h1, h2⟩
theorem run_storeBlk (X : World) (V : Nat) (cs zs : Array Value) (i1 : Blk X V zs) (hz : zs.size = 128) (hs : cs.size = 128) (h1 : cs.all (·.oneCell') = true) : (storeCells ⟨V, 0, none⟩ cs.toList).run Tryz.prog X = .ok () (X.setRow V cs) := by
  have h1 := run_storeVar_row (P := Tryz.prog) X V 173 173 zs cs i1 (by rw [hs]; exact pgI) (by rw [hz, hs]) h1
  cases hq : Tryz.prog.info? 173 with
  | none => have := pgI; simp [hq] at this
  | some i =>
    have hs' : i.size = 128 := by have := pgI; simpa [hq] using this
    simpa [storeVar, sizeOf, typeInfo, hq, Value.cells, hs', hs] using h1
theorem Blk.setRow {X : World} {V : Nat} {zs : Array Value} (cs : Array Value) (h : Blk X V zs) : Blk (X.setRow V cs) V cs := setRow_heap X V _ cs 173 (0, 0) h
theorem Blk.setRowOther {X : World} {V V' : Nat} {zs : Array Value} (cs : Array Value) (h : Blk X V' zs) (hne : V' ≠ V) : Blk (X.setRow V cs) V' zs := (setRow_other X V V' cs hne).trans h


set_option maxRecDepth 20000 in
set_option maxHeartbeats 400000 in
theorem pagesApart_any (v0 v1 v2 v3 : Value) (lo hi : Nat) (W : WorldD) (a b c d : Int) (w : World) (h : WorldAt w lo hi v0 v1 v2 v3 W) (hh : hi ≤ w.heap.size) (hR : Right W.pool) (hT : TreeOk W.pool a b) (hT2 : TreeOk W.pool c d) :
    Calls Tryz.prog 100 #[worldV v0 v1 v2 v3 W, .agg #[.int .i64 a, .int .i64 b], .agg #[.int .i64 c, .int .i64 d]] w (NewInts (apartL W.pool a b c d 64) w) := by
  have Hp := hideQ h
  have HR := hideQ hR
  have HT := hideQ hT
  have HT2 := hideQ hT2
  clear h hR hT hT2
  have hst : ∀ A B C : World, A = w.alloc (.cells #[v0, v1, .int .i64 W.time, .int .i64 W.next, v2, v3] 38) → B = A.alloc (.cells #[.int .i64 a, .int .i64 b] 43) → C = B.alloc (.cells #[.int .i64 c, .int .i64 d] 43) →
      Box6 C w.heap.size v0 v1 (.int .i64 W.time) (.int .i64 W.next) v2 v3 ∧ Box2 C (w.heap.size + 1) (.int .i64 a) (.int .i64 b) ∧ Box2 C (w.heap.size + 1 + 1) (.int .i64 c) (.int .i64 d) ∧ Below w.heap.size w C ∧ C.heap.size = w.heap.size + 3 := by
    rintro A B C ea eb ec
    have b1 := below_alloc w (.cells #[v0, v1, .int .i64 W.time, .int .i64 W.next, v2, v3] 38)
    have x1 := Box6.new w v0 v1 (.int .i64 W.time) (.int .i64 W.next) v2 v3 38
    have z1 : A.heap.size = w.heap.size + 1 := by rw [ea]; exact World.size_alloc _ _
    rw [← ea] at b1 x1
    have b2 := below_alloc A (.cells #[.int .i64 a, .int .i64 b] 43)
    have x2 := Box2.new A (.int .i64 a) (.int .i64 b) 43
    have z2 : B.heap.size = w.heap.size + 1 + 1 := by rw [eb, World.size_alloc, z1]
    rw [← eb] at b2 x2
    rw [z1] at x2
    have b3 := below_alloc B (.cells #[.int .i64 c, .int .i64 d] 43)
    have x3 := Box2.new B (.int .i64 c) (.int .i64 d) 43
    have z3 : C.heap.size = w.heap.size + 3 := by rw [ec, World.size_alloc, z2]
    rw [← ec] at b3 x3
    rw [z2] at x3
    exact ⟨(x1.below b2).below b3, x2.below b3, x3, below_next (below_next b1 b2) b3, z3⟩
  obtain ⟨hx, hy, hz, hb, hsz⟩ := hst _ _ _ rfl rfl rfl
  have HX := hideQ hx
  have HY := hideQ hy
  have HZ := hideQ hz
  have HSZ := hideQ hsz
  clear hst hx hy hz hsz
  go_enter Tryz.func100, Tryz.ntmps100
  go_upto_region 1 with fail
  generalize ((w.alloc (.cells #[v0, v1, .int .i64 W.time, .int .i64 W.next, v2, v3] 38)).alloc (.cells #[.int .i64 a, .int .i64 b] 43)).alloc (.cells #[.int .i64 c, .int .i64 d] 43) = W3 at HX HY HZ HSZ hb ⊢
  go_cut [7, 8] (fun va vb wc => ∃ A B : Nat, va = .pointer (some ⟨A, 0, none⟩) ∧ vb = .pointer (some ⟨B, 0, none⟩) ∧ PgAt wc A (fillQ (treeQ W.pool a b)) ∧ PgAt wc B (fillQ (treeQ W.pool c d)) ∧ Below w.heap.size w wc)
  case first =>
    obtain ⟨⟨x0, -⟩, ⟨x1, -⟩, ⟨x2, -⟩, ⟨x3, -⟩, ⟨x4, -⟩, ⟨x5, -⟩⟩ := HX.out
    obtain ⟨⟨y0, -⟩, ⟨y1, -⟩⟩ := HY.out
    obtain ⟨⟨z0, -⟩, ⟨z1, -⟩⟩ := HZ.out
    obtain ⟨cA, hA⟩ : ∃ cA, Hid (PgIs cA (fillQ (treeQ W.pool a b))) := ⟨_, ⟨rfl⟩⟩
    obtain ⟨cB, hB⟩ : ∃ cB, Hid (PgIs cB (fillQ (treeQ W.pool c d))) := ⟨_, ⟨rfl⟩⟩
    have sA := hA.out.size
    have sB := hB.out.size
    refine wp_region_held_drew (S := (fun w' => w'.cell? ⟨w.heap.size, 0, none⟩ = some v0 ∧ w'.cell? ⟨w.heap.size, 1, none⟩ = some v1 ∧ w'.cell? ⟨w.heap.size, 2, none⟩ = some (.int .i64 W.time) ∧ w'.cell? ⟨w.heap.size, 3, none⟩ = some (.int .i64 W.next) ∧ w'.cell? ⟨w.heap.size, 4, none⟩ = some v2 ∧ w'.cell? ⟨w.heap.size, 5, none⟩ = some v3 ∧ w'.cell? ⟨w.heap.size + 1, 0, none⟩ = some (.int .i64 a) ∧ w'.cell? ⟨w.heap.size + 1, 1, none⟩ = some (.int .i64 b) ∧ w'.cell? ⟨w.heap.size + 1 + 1, 0, none⟩ = some (.int .i64 c) ∧ w'.cell? ⟨w.heap.size + 1 + 1, 1, none⟩ = some (.int .i64 d))) (by kernel_rfl) ?_ (fun hHeld => ?_)
    · (try dsimp only)
      go_keep
    have hb0 : Below W3.heap.size W3 W3.drew := (Below.refl _ _).drew
    clear x0 x1 x2 x3 x4 x5 y0 y1 z0 z1
    generalize W3.drew = w0 at hb0 hHeld ⊢
    refine tk 0 (h := tk 1 (h := tk 3 (h := tk 4 (h := ?_))))
    refine rd [2, 6, 7] (rc (fun K hK => ?_) (rc (fun K hK => ?_) (rc (fun K hK => ?_) .nil)))
    · go_simp
      go_at_call 138
      refine (pagesAt_any v0 v1 v2 v3 lo hi W _ _ _ ((Hp.out.below hb).below hb0) (by have := hb.size; have := hb0.size; omega) HR.out HT.out).mono ?_
      rintro e w1 ⟨rfl, hc1⟩
      rw [← hA.out.eq]
      have hb1 : Below W3.heap.size W3 w1 := below_next hb0 hc1
      obtain ⟨⟨x0, -⟩, ⟨x1, -⟩, ⟨x2, -⟩, ⟨x3, -⟩, ⟨x4, -⟩, ⟨x5, -⟩⟩ := HX.out.below hb1
      obtain ⟨⟨y0, -⟩, ⟨y1, -⟩⟩ := HY.out.below hb1
      obtain ⟨⟨z0, -⟩, ⟨z1, -⟩⟩ := HZ.out.below hb1
      (try go_wp2_with fail)
      refine hK.out _ _ (by (try dsimp only); go_keep) ?_
      clear hK K hHeld
      intro hHeld
      try simp only [Act.put, s1, s2, s3]
      clear x0 x1 x2 x3 x4 x5 y0 y1 z0 z1
      refine rd [5, 6, 7] (rc (fun K hK => ?_) (rc (fun K hK => ?_) (rc (fun K hK => ?_) .nil)))
      · go_simp
        go_at_call 138
        refine (pagesAt_any v0 v1 v2 v3 lo hi W _ _ _ ((Hp.out.below hb).below hb1) (by have := hb.size; have := hb1.size; omega) HR.out HT2.out).mono ?_
        rintro e w2 ⟨rfl, hc2⟩
        rw [← hB.out.eq]
        have hb2 : Below W3.heap.size W3 w2 := below_next hb1 hc2
        obtain ⟨⟨x0, -⟩, ⟨x1, -⟩, ⟨x2, -⟩, ⟨x3, -⟩, ⟨x4, -⟩, ⟨x5, -⟩⟩ := HX.out.below hb2
        obtain ⟨⟨y0, -⟩, ⟨y1, -⟩⟩ := HY.out.below hb2
        obtain ⟨⟨z0, -⟩, ⟨z1, -⟩⟩ := HZ.out.below hb2
        (try go_wp2_with fail)
        refine hK.out _ _ (by (try dsimp only); go_keep) ?_
        clear hK K hHeld
        intro hHeld
        try simp only [Act.put, s1, s2, s3]
        clear x0 x1 x2 x3 x4 x5 y0 y1 z0 z1
        refine rd [6, 7] (rc (fun K hK => ?_) (rc (fun K hK => ?_) .nil))
        · go_simp
          have hc3 := below_alloc w2 (.cells Tryz.zeroCells173 173)
          have hb3 : Below W3.heap.size W3 (w2.alloc (.cells Tryz.zeroCells173 173)) := below_next hb2 hc3
          have kA3 : Blk (w2.alloc (.cells Tryz.zeroCells173 173)) w2.heap.size Tryz.zeroCells173 := heap_alloc_new _ _
          obtain ⟨⟨x0, -⟩, ⟨x1, -⟩, ⟨x2, -⟩, ⟨x3, -⟩, ⟨x4, -⟩, ⟨x5, -⟩⟩ := HX.out.below hb3
          obtain ⟨⟨y0, -⟩, ⟨y1, -⟩⟩ := HY.out.below hb3
          obtain ⟨⟨z0, -⟩, ⟨z1, -⟩⟩ := HZ.out.below hb3
          (try go_wp2_with fail)
          refine hK.out _ _ (by (try dsimp only); go_keep) ?_
          clear hK K hHeld
          intro hHeld
          try simp only [Act.put, s1, s2, s3]
          clear x0 x1 x2 x3 x4 x5 y0 y1 z0 z1
          generalize w2.alloc (.cells Tryz.zeroCells173 173) = w3 at hb3 kA3 hHeld hc3 ⊢
          refine rd [7] (rc (fun K hK => ?_) .nil)
          go_simp
          have hc4 := below_alloc w3 (.cells Tryz.zeroCells173 173)
          have hb4 : Below W3.heap.size W3 (w3.alloc (.cells Tryz.zeroCells173 173)) := below_next hb3 hc4
          have kB4 : Blk (w3.alloc (.cells Tryz.zeroCells173 173)) w3.heap.size Tryz.zeroCells173 := heap_alloc_new _ _
          have hne : w2.heap.size ≠ w3.heap.size := by have := kA3.lt; omega
          have kA4 := kA3.below hc4
          obtain ⟨⟨x0, -⟩, ⟨x1, -⟩, ⟨x2, -⟩, ⟨x3, -⟩, ⟨x4, -⟩, ⟨x5, -⟩⟩ := HX.out.below hb4
          obtain ⟨⟨y0, -⟩, ⟨y1, -⟩⟩ := HY.out.below hb4
          obtain ⟨⟨z0, -⟩, ⟨z1, -⟩⟩ := HZ.out.below hb4
          (try go_wp2_with fail)
          refine hK.out _ _ (by (try dsimp only); go_keep) ?_
          clear hK K hHeld
          intro hHeld
          try simp only [Act.put, s1, s2, s3]
          clear x0 x1 x2 x3 x4 x5 y0 y1 z0 z1
          generalize w3.alloc (.cells Tryz.zeroCells173 173) = w4 at hb4 kB4 kA4 hHeld hc4 ⊢
          have hst := run_storeBlk _ _ cA _ kA4 zero_size hA.out.size hA.out.one
          have p1 := Blk.setRow cA kA4
          have p2 := Blk.setRowOther cA kB4 (Ne.symm hne)
          have hs8 := below_setRow (g := w2.heap.size) hb4 (by have := hb2.size; omega) cA
          obtain ⟨⟨x0, -⟩, ⟨x1, -⟩, ⟨x2, -⟩, ⟨x3, -⟩, ⟨x4, -⟩, ⟨x5, -⟩⟩ := HX.out.below hs8
          obtain ⟨⟨y0, -⟩, ⟨y1, -⟩⟩ := HY.out.below hs8
          obtain ⟨⟨z0, -⟩, ⟨z1, -⟩⟩ := HZ.out.below hs8
          refine rd [8] (rc (fun K hK => ?_) .nil)
          go_simp
          (try go_wp2_with fail)
          refine hK.out _ _ (by (try dsimp only); go_keep) ?_
          clear hK K hHeld
          intro hHeld
          try simp only [Act.put, s1, s2, s3]
          clear hst
          clear x0 x1 x2 x3 x4 x5 y0 y1 z0 z1
          have hst := run_storeBlk _ _ cB _ p2 zero_size hB.out.size hB.out.one
          have p3 := Blk.setRowOther cB p1 hne
          have p4 := Blk.setRow cB p2
          have hs9 := below_setRow (g := w3.heap.size) hs8 (by have := hb3.size; omega) cB
          obtain ⟨⟨x0, -⟩, ⟨x1, -⟩, ⟨x2, -⟩, ⟨x3, -⟩, ⟨x4, -⟩, ⟨x5, -⟩⟩ := HX.out.below hs9
          obtain ⟨⟨y0, -⟩, ⟨y1, -⟩⟩ := HY.out.below hs9
          obtain ⟨⟨z0, -⟩, ⟨z1, -⟩⟩ := HZ.out.below hs9
          refine rd [9] (rc (fun K hK => ?_) .nil)
          go_simp
          (try go_wp2_with fail)
          refine hK.out _ _ (by (try dsimp only); go_keep) ?_
          clear hK K hHeld
          intro hHeld
          try simp only [Act.put, s1, s2, s3]
          refine wpAnyH_done (by kernel_rfl) ?_ _
          go_wp2_with fail
          go_meet
          case rel => exact ⟨_, _, rfl, rfl, hA.out.pg p3, hB.out.pg p4, below_next hb hs9⟩
        · go_simp
          have hc5 := below_alloc w2 (.cells Tryz.zeroCells173 173)
          have hb5 : Below W3.heap.size W3 (w2.alloc (.cells Tryz.zeroCells173 173)) := below_next hb2 hc5
          have kB5 : Blk (w2.alloc (.cells Tryz.zeroCells173 173)) w2.heap.size Tryz.zeroCells173 := heap_alloc_new _ _
          obtain ⟨⟨x0, -⟩, ⟨x1, -⟩, ⟨x2, -⟩, ⟨x3, -⟩, ⟨x4, -⟩, ⟨x5, -⟩⟩ := HX.out.below hb5
          obtain ⟨⟨y0, -⟩, ⟨y1, -⟩⟩ := HY.out.below hb5
          obtain ⟨⟨z0, -⟩, ⟨z1, -⟩⟩ := HZ.out.below hb5
          (try go_wp2_with fail)
          refine hK.out _ _ (by (try dsimp only); go_keep) ?_
          clear hK K hHeld
          intro hHeld
          try simp only [Act.put, s1, s2, s3]
          clear x0 x1 x2 x3 x4 x5 y0 y1 z0 z1
          generalize w2.alloc (.cells Tryz.zeroCells173 173) = w5 at hb5 kB5 hHeld hc5 ⊢
          refine rd [6] (rc (fun K hK => ?_) .nil)
          go_simp
          have hc6 := below_alloc w5 (.cells Tryz.zeroCells173 173)
          have hb6 : Below W3.heap.size W3 (w5.alloc (.cells Tryz.zeroCells173 173)) := below_next hb5 hc6
          have kA6 : Blk (w5.alloc (.cells Tryz.zeroCells173 173)) w5.heap.size Tryz.zeroCells173 := heap_alloc_new _ _
          have hne : w5.heap.size ≠ w2.heap.size := by have := kB5.lt; omega
          have kB6 := kB5.below hc6
          obtain ⟨⟨x0, -⟩, ⟨x1, -⟩, ⟨x2, -⟩, ⟨x3, -⟩, ⟨x4, -⟩, ⟨x5, -⟩⟩ := HX.out.below hb6
          obtain ⟨⟨y0, -⟩, ⟨y1, -⟩⟩ := HY.out.below hb6
          obtain ⟨⟨z0, -⟩, ⟨z1, -⟩⟩ := HZ.out.below hb6
          (try go_wp2_with fail)
          refine hK.out _ _ (by (try dsimp only); go_keep) ?_
          clear hK K hHeld
          intro hHeld
          try simp only [Act.put, s1, s2, s3]
          clear x0 x1 x2 x3 x4 x5 y0 y1 z0 z1
          generalize w5.alloc (.cells Tryz.zeroCells173 173) = w6 at hb6 kA6 kB6 hHeld hc6 ⊢
          have hst := run_storeBlk _ _ cA _ kA6 zero_size hA.out.size hA.out.one
          have p1 := Blk.setRow cA kA6
          have p2 := Blk.setRowOther cA kB6 (Ne.symm hne)
          have hs8 := below_setRow (g := w5.heap.size) hb6 (by have := hb5.size; omega) cA
          obtain ⟨⟨x0, -⟩, ⟨x1, -⟩, ⟨x2, -⟩, ⟨x3, -⟩, ⟨x4, -⟩, ⟨x5, -⟩⟩ := HX.out.below hs8
          obtain ⟨⟨y0, -⟩, ⟨y1, -⟩⟩ := HY.out.below hs8
          obtain ⟨⟨z0, -⟩, ⟨z1, -⟩⟩ := HZ.out.below hs8
          refine rd [8] (rc (fun K hK => ?_) .nil)
          go_simp
          (try go_wp2_with fail)
          refine hK.out _ _ (by (try dsimp only); go_keep) ?_
          clear hK K hHeld
          intro hHeld
          try simp only [Act.put, s1, s2, s3]
          clear hst
          clear x0 x1 x2 x3 x4 x5 y0 y1 z0 z1
          have hst := run_storeBlk _ _ cB _ p2 zero_size hB.out.size hB.out.one
          have p3 := Blk.setRowOther cB p1 hne
          have p4 := Blk.setRow cB p2
          have hs9 := below_setRow (g := w2.heap.size) hs8 (by have := hb2.size; omega) cB
          obtain ⟨⟨x0, -⟩, ⟨x1, -⟩, ⟨x2, -⟩, ⟨x3, -⟩, ⟨x4, -⟩, ⟨x5, -⟩⟩ := HX.out.below hs9
          obtain ⟨⟨y0, -⟩, ⟨y1, -⟩⟩ := HY.out.below hs9
          obtain ⟨⟨z0, -⟩, ⟨z1, -⟩⟩ := HZ.out.below hs9
          refine rd [9] (rc (fun K hK => ?_) .nil)
          go_simp
          (try go_wp2_with fail)
          refine hK.out _ _ (by (try dsimp only); go_keep) ?_
          clear hK K hHeld
          intro hHeld
          try simp only [Act.put, s1, s2, s3]
          refine wpAnyH_done (by kernel_rfl) ?_ _
          go_wp2_with fail
          go_meet
          case rel => exact ⟨_, _, rfl, rfl, hA.out.pg p3, hB.out.pg p4, below_next hb hs9⟩
      · go_simp
        have hc7 := below_alloc w1 (.cells Tryz.zeroCells173 173)
        have hb7 : Below W3.heap.size W3 (w1.alloc (.cells Tryz.zeroCells173 173)) := below_next hb1 hc7
        have kA7 : Blk (w1.alloc (.cells Tryz.zeroCells173 173)) w1.heap.size Tryz.zeroCells173 := heap_alloc_new _ _
        obtain ⟨⟨x0, -⟩, ⟨x1, -⟩, ⟨x2, -⟩, ⟨x3, -⟩, ⟨x4, -⟩, ⟨x5, -⟩⟩ := HX.out.below hb7
        obtain ⟨⟨y0, -⟩, ⟨y1, -⟩⟩ := HY.out.below hb7
        obtain ⟨⟨z0, -⟩, ⟨z1, -⟩⟩ := HZ.out.below hb7
        (try go_wp2_with fail)
        refine hK.out _ _ (by (try dsimp only); go_keep) ?_
        clear hK K hHeld
        intro hHeld
        try simp only [Act.put, s1, s2, s3]
        clear x0 x1 x2 x3 x4 x5 y0 y1 z0 z1
        generalize w1.alloc (.cells Tryz.zeroCells173 173) = w7 at hb7 kA7 hHeld hc7 ⊢
        refine rd [5, 7] (rc (fun K hK => ?_) (rc (fun K hK => ?_) .nil))
        · go_simp
          go_at_call 138
          refine (pagesAt_any v0 v1 v2 v3 lo hi W _ _ _ ((Hp.out.below hb).below hb7) (by have := hb.size; have := hb7.size; omega) HR.out HT2.out).mono ?_
          rintro e w8 ⟨rfl, hc8⟩
          rw [← hB.out.eq]
          have hb8 : Below W3.heap.size W3 w8 := below_next hb7 hc8
          have kA8 := kA7.below hc8
          obtain ⟨⟨x0, -⟩, ⟨x1, -⟩, ⟨x2, -⟩, ⟨x3, -⟩, ⟨x4, -⟩, ⟨x5, -⟩⟩ := HX.out.below hb8
          obtain ⟨⟨y0, -⟩, ⟨y1, -⟩⟩ := HY.out.below hb8
          obtain ⟨⟨z0, -⟩, ⟨z1, -⟩⟩ := HZ.out.below hb8
          (try go_wp2_with fail)
          refine hK.out _ _ (by (try dsimp only); go_keep) ?_
          clear hK K hHeld
          intro hHeld
          try simp only [Act.put, s1, s2, s3]
          clear x0 x1 x2 x3 x4 x5 y0 y1 z0 z1
          refine rd [7] (rc (fun K hK => ?_) .nil)
          go_simp
          have hc9 := below_alloc w8 (.cells Tryz.zeroCells173 173)
          have hb9 : Below W3.heap.size W3 (w8.alloc (.cells Tryz.zeroCells173 173)) := below_next hb8 hc9
          have kB9 : Blk (w8.alloc (.cells Tryz.zeroCells173 173)) w8.heap.size Tryz.zeroCells173 := heap_alloc_new _ _
          have hne : w1.heap.size ≠ w8.heap.size := by have := kA8.lt; omega
          have kA9 := kA8.below hc9
          obtain ⟨⟨x0, -⟩, ⟨x1, -⟩, ⟨x2, -⟩, ⟨x3, -⟩, ⟨x4, -⟩, ⟨x5, -⟩⟩ := HX.out.below hb9
          obtain ⟨⟨y0, -⟩, ⟨y1, -⟩⟩ := HY.out.below hb9
          obtain ⟨⟨z0, -⟩, ⟨z1, -⟩⟩ := HZ.out.below hb9
          (try go_wp2_with fail)
          refine hK.out _ _ (by (try dsimp only); go_keep) ?_
          clear hK K hHeld
          intro hHeld
          try simp only [Act.put, s1, s2, s3]
          clear x0 x1 x2 x3 x4 x5 y0 y1 z0 z1
          generalize w8.alloc (.cells Tryz.zeroCells173 173) = w9 at hb9 kB9 kA9 hHeld hc9 ⊢
          have hst := run_storeBlk _ _ cA _ kA9 zero_size hA.out.size hA.out.one
          have p1 := Blk.setRow cA kA9
          have p2 := Blk.setRowOther cA kB9 (Ne.symm hne)
          have hs8 := below_setRow (g := w1.heap.size) hb9 (by have := hb1.size; omega) cA
          obtain ⟨⟨x0, -⟩, ⟨x1, -⟩, ⟨x2, -⟩, ⟨x3, -⟩, ⟨x4, -⟩, ⟨x5, -⟩⟩ := HX.out.below hs8
          obtain ⟨⟨y0, -⟩, ⟨y1, -⟩⟩ := HY.out.below hs8
          obtain ⟨⟨z0, -⟩, ⟨z1, -⟩⟩ := HZ.out.below hs8
          refine rd [8] (rc (fun K hK => ?_) .nil)
          go_simp
          (try go_wp2_with fail)
          refine hK.out _ _ (by (try dsimp only); go_keep) ?_
          clear hK K hHeld
          intro hHeld
          try simp only [Act.put, s1, s2, s3]
          clear hst
          clear x0 x1 x2 x3 x4 x5 y0 y1 z0 z1
          have hst := run_storeBlk _ _ cB _ p2 zero_size hB.out.size hB.out.one
          have p3 := Blk.setRowOther cB p1 hne
          have p4 := Blk.setRow cB p2
          have hs9 := below_setRow (g := w8.heap.size) hs8 (by have := hb8.size; omega) cB
          obtain ⟨⟨x0, -⟩, ⟨x1, -⟩, ⟨x2, -⟩, ⟨x3, -⟩, ⟨x4, -⟩, ⟨x5, -⟩⟩ := HX.out.below hs9
          obtain ⟨⟨y0, -⟩, ⟨y1, -⟩⟩ := HY.out.below hs9
          obtain ⟨⟨z0, -⟩, ⟨z1, -⟩⟩ := HZ.out.below hs9
          refine rd [9] (rc (fun K hK => ?_) .nil)
          go_simp
          (try go_wp2_with fail)
          refine hK.out _ _ (by (try dsimp only); go_keep) ?_
          clear hK K hHeld
          intro hHeld
          try simp only [Act.put, s1, s2, s3]
          refine wpAnyH_done (by kernel_rfl) ?_ _
          go_wp2_with fail
          go_meet
          case rel => exact ⟨_, _, rfl, rfl, hA.out.pg p3, hB.out.pg p4, below_next hb hs9⟩
        · go_simp
          have hc10 := below_alloc w7 (.cells Tryz.zeroCells173 173)
          have hb10 : Below W3.heap.size W3 (w7.alloc (.cells Tryz.zeroCells173 173)) := below_next hb7 hc10
          have kB10 : Blk (w7.alloc (.cells Tryz.zeroCells173 173)) w7.heap.size Tryz.zeroCells173 := heap_alloc_new _ _
          have hne : w1.heap.size ≠ w7.heap.size := by have := kA7.lt; omega
          have kA10 := kA7.below hc10
          obtain ⟨⟨x0, -⟩, ⟨x1, -⟩, ⟨x2, -⟩, ⟨x3, -⟩, ⟨x4, -⟩, ⟨x5, -⟩⟩ := HX.out.below hb10
          obtain ⟨⟨y0, -⟩, ⟨y1, -⟩⟩ := HY.out.below hb10
          obtain ⟨⟨z0, -⟩, ⟨z1, -⟩⟩ := HZ.out.below hb10
          (try go_wp2_with fail)
          refine hK.out _ _ (by (try dsimp only); go_keep) ?_
          clear hK K hHeld
          intro hHeld
          try simp only [Act.put, s1, s2, s3]
          clear x0 x1 x2 x3 x4 x5 y0 y1 z0 z1
          generalize w7.alloc (.cells Tryz.zeroCells173 173) = w10 at hb10 kB10 kA10 hHeld hc10 ⊢
          refine rd [5] (rc (fun K hK => ?_) .nil)
          go_simp
          go_at_call 138
          refine (pagesAt_any v0 v1 v2 v3 lo hi W _ _ _ ((Hp.out.below hb).below hb10) (by have := hb.size; have := hb10.size; omega) HR.out HT2.out).mono ?_
          rintro e w11 ⟨rfl, hc11⟩
          rw [← hB.out.eq]
          have hb11 : Below W3.heap.size W3 w11 := below_next hb10 hc11
          have kA11 := kA10.below hc11
          have kB11 := kB10.below hc11
          obtain ⟨⟨x0, -⟩, ⟨x1, -⟩, ⟨x2, -⟩, ⟨x3, -⟩, ⟨x4, -⟩, ⟨x5, -⟩⟩ := HX.out.below hb11
          obtain ⟨⟨y0, -⟩, ⟨y1, -⟩⟩ := HY.out.below hb11
          obtain ⟨⟨z0, -⟩, ⟨z1, -⟩⟩ := HZ.out.below hb11
          (try go_wp2_with fail)
          refine hK.out _ _ (by (try dsimp only); go_keep) ?_
          clear hK K hHeld
          intro hHeld
          try simp only [Act.put, s1, s2, s3]
          clear x0 x1 x2 x3 x4 x5 y0 y1 z0 z1
          have hst := run_storeBlk _ _ cA _ kA11 zero_size hA.out.size hA.out.one
          have p1 := Blk.setRow cA kA11
          have p2 := Blk.setRowOther cA kB11 (Ne.symm hne)
          have hs8 := below_setRow (g := w1.heap.size) hb11 (by have := hb1.size; omega) cA
          obtain ⟨⟨x0, -⟩, ⟨x1, -⟩, ⟨x2, -⟩, ⟨x3, -⟩, ⟨x4, -⟩, ⟨x5, -⟩⟩ := HX.out.below hs8
          obtain ⟨⟨y0, -⟩, ⟨y1, -⟩⟩ := HY.out.below hs8
          obtain ⟨⟨z0, -⟩, ⟨z1, -⟩⟩ := HZ.out.below hs8
          refine rd [8] (rc (fun K hK => ?_) .nil)
          go_simp
          (try go_wp2_with fail)
          refine hK.out _ _ (by (try dsimp only); go_keep) ?_
          clear hK K hHeld
          intro hHeld
          try simp only [Act.put, s1, s2, s3]
          clear hst
          clear x0 x1 x2 x3 x4 x5 y0 y1 z0 z1
          have hst := run_storeBlk _ _ cB _ p2 zero_size hB.out.size hB.out.one
          have p3 := Blk.setRowOther cB p1 hne
          have p4 := Blk.setRow cB p2
          have hs9 := below_setRow (g := w7.heap.size) hs8 (by have := hb7.size; omega) cB
          obtain ⟨⟨x0, -⟩, ⟨x1, -⟩, ⟨x2, -⟩, ⟨x3, -⟩, ⟨x4, -⟩, ⟨x5, -⟩⟩ := HX.out.below hs9
          obtain ⟨⟨y0, -⟩, ⟨y1, -⟩⟩ := HY.out.below hs9
          obtain ⟨⟨z0, -⟩, ⟨z1, -⟩⟩ := HZ.out.below hs9
          refine rd [9] (rc (fun K hK => ?_) .nil)
          go_simp
          (try go_wp2_with fail)
          refine hK.out _ _ (by (try dsimp only); go_keep) ?_
          clear hK K hHeld
          intro hHeld
          try simp only [Act.put, s1, s2, s3]
          refine wpAnyH_done (by kernel_rfl) ?_ _
          go_wp2_with fail
          go_meet
          case rel => exact ⟨_, _, rfl, rfl, hA.out.pg p3, hB.out.pg p4, below_next hb hs9⟩
      · go_simp
        have hc12 := below_alloc w1 (.cells Tryz.zeroCells173 173)
        have hb12 : Below W3.heap.size W3 (w1.alloc (.cells Tryz.zeroCells173 173)) := below_next hb1 hc12
        have kB12 : Blk (w1.alloc (.cells Tryz.zeroCells173 173)) w1.heap.size Tryz.zeroCells173 := heap_alloc_new _ _
        obtain ⟨⟨x0, -⟩, ⟨x1, -⟩, ⟨x2, -⟩, ⟨x3, -⟩, ⟨x4, -⟩, ⟨x5, -⟩⟩ := HX.out.below hb12
        obtain ⟨⟨y0, -⟩, ⟨y1, -⟩⟩ := HY.out.below hb12
        obtain ⟨⟨z0, -⟩, ⟨z1, -⟩⟩ := HZ.out.below hb12
        (try go_wp2_with fail)
        refine hK.out _ _ (by (try dsimp only); go_keep) ?_
        clear hK K hHeld
        intro hHeld
        try simp only [Act.put, s1, s2, s3]
        clear x0 x1 x2 x3 x4 x5 y0 y1 z0 z1
        generalize w1.alloc (.cells Tryz.zeroCells173 173) = w12 at hb12 kB12 hHeld hc12 ⊢
        refine rd [5, 6] (rc (fun K hK => ?_) (rc (fun K hK => ?_) .nil))
        · go_simp
          go_at_call 138
          refine (pagesAt_any v0 v1 v2 v3 lo hi W _ _ _ ((Hp.out.below hb).below hb12) (by have := hb.size; have := hb12.size; omega) HR.out HT2.out).mono ?_
          rintro e w13 ⟨rfl, hc13⟩
          rw [← hB.out.eq]
          have hb13 : Below W3.heap.size W3 w13 := below_next hb12 hc13
          have kB13 := kB12.below hc13
          obtain ⟨⟨x0, -⟩, ⟨x1, -⟩, ⟨x2, -⟩, ⟨x3, -⟩, ⟨x4, -⟩, ⟨x5, -⟩⟩ := HX.out.below hb13
          obtain ⟨⟨y0, -⟩, ⟨y1, -⟩⟩ := HY.out.below hb13
          obtain ⟨⟨z0, -⟩, ⟨z1, -⟩⟩ := HZ.out.below hb13
          (try go_wp2_with fail)
          refine hK.out _ _ (by (try dsimp only); go_keep) ?_
          clear hK K hHeld
          intro hHeld
          try simp only [Act.put, s1, s2, s3]
          clear x0 x1 x2 x3 x4 x5 y0 y1 z0 z1
          refine rd [6] (rc (fun K hK => ?_) .nil)
          go_simp
          have hc14 := below_alloc w13 (.cells Tryz.zeroCells173 173)
          have hb14 : Below W3.heap.size W3 (w13.alloc (.cells Tryz.zeroCells173 173)) := below_next hb13 hc14
          have kA14 : Blk (w13.alloc (.cells Tryz.zeroCells173 173)) w13.heap.size Tryz.zeroCells173 := heap_alloc_new _ _
          have hne : w13.heap.size ≠ w1.heap.size := by have := kB13.lt; omega
          have kB14 := kB13.below hc14
          obtain ⟨⟨x0, -⟩, ⟨x1, -⟩, ⟨x2, -⟩, ⟨x3, -⟩, ⟨x4, -⟩, ⟨x5, -⟩⟩ := HX.out.below hb14
          obtain ⟨⟨y0, -⟩, ⟨y1, -⟩⟩ := HY.out.below hb14
          obtain ⟨⟨z0, -⟩, ⟨z1, -⟩⟩ := HZ.out.below hb14
          (try go_wp2_with fail)
          refine hK.out _ _ (by (try dsimp only); go_keep) ?_
          clear hK K hHeld
          intro hHeld
          try simp only [Act.put, s1, s2, s3]
          clear x0 x1 x2 x3 x4 x5 y0 y1 z0 z1
          generalize w13.alloc (.cells Tryz.zeroCells173 173) = w14 at hb14 kA14 kB14 hHeld hc14 ⊢
          have hst := run_storeBlk _ _ cA _ kA14 zero_size hA.out.size hA.out.one
          have p1 := Blk.setRow cA kA14
          have p2 := Blk.setRowOther cA kB14 (Ne.symm hne)
          have hs8 := below_setRow (g := w13.heap.size) hb14 (by have := hb13.size; omega) cA
          obtain ⟨⟨x0, -⟩, ⟨x1, -⟩, ⟨x2, -⟩, ⟨x3, -⟩, ⟨x4, -⟩, ⟨x5, -⟩⟩ := HX.out.below hs8
          obtain ⟨⟨y0, -⟩, ⟨y1, -⟩⟩ := HY.out.below hs8
          obtain ⟨⟨z0, -⟩, ⟨z1, -⟩⟩ := HZ.out.below hs8
          refine rd [8] (rc (fun K hK => ?_) .nil)
          go_simp
          (try go_wp2_with fail)
          refine hK.out _ _ (by (try dsimp only); go_keep) ?_
          clear hK K hHeld
          intro hHeld
          try simp only [Act.put, s1, s2, s3]
          clear hst
          clear x0 x1 x2 x3 x4 x5 y0 y1 z0 z1
          have hst := run_storeBlk _ _ cB _ p2 zero_size hB.out.size hB.out.one
          have p3 := Blk.setRowOther cB p1 hne
          have p4 := Blk.setRow cB p2
          have hs9 := below_setRow (g := w1.heap.size) hs8 (by have := hb1.size; omega) cB
          obtain ⟨⟨x0, -⟩, ⟨x1, -⟩, ⟨x2, -⟩, ⟨x3, -⟩, ⟨x4, -⟩, ⟨x5, -⟩⟩ := HX.out.below hs9
          obtain ⟨⟨y0, -⟩, ⟨y1, -⟩⟩ := HY.out.below hs9
          obtain ⟨⟨z0, -⟩, ⟨z1, -⟩⟩ := HZ.out.below hs9
          refine rd [9] (rc (fun K hK => ?_) .nil)
          go_simp
          (try go_wp2_with fail)
          refine hK.out _ _ (by (try dsimp only); go_keep) ?_
          clear hK K hHeld
          intro hHeld
          try simp only [Act.put, s1, s2, s3]
          refine wpAnyH_done (by kernel_rfl) ?_ _
          go_wp2_with fail
          go_meet
          case rel => exact ⟨_, _, rfl, rfl, hA.out.pg p3, hB.out.pg p4, below_next hb hs9⟩
        · go_simp
          have hc15 := below_alloc w12 (.cells Tryz.zeroCells173 173)
          have hb15 : Below W3.heap.size W3 (w12.alloc (.cells Tryz.zeroCells173 173)) := below_next hb12 hc15
          have kA15 : Blk (w12.alloc (.cells Tryz.zeroCells173 173)) w12.heap.size Tryz.zeroCells173 := heap_alloc_new _ _
          have hne : w12.heap.size ≠ w1.heap.size := by have := kB12.lt; omega
          have kB15 := kB12.below hc15
          obtain ⟨⟨x0, -⟩, ⟨x1, -⟩, ⟨x2, -⟩, ⟨x3, -⟩, ⟨x4, -⟩, ⟨x5, -⟩⟩ := HX.out.below hb15
          obtain ⟨⟨y0, -⟩, ⟨y1, -⟩⟩ := HY.out.below hb15
          obtain ⟨⟨z0, -⟩, ⟨z1, -⟩⟩ := HZ.out.below hb15
          (try go_wp2_with fail)
          refine hK.out _ _ (by (try dsimp only); go_keep) ?_
          clear hK K hHeld
          intro hHeld
          try simp only [Act.put, s1, s2, s3]
          clear x0 x1 x2 x3 x4 x5 y0 y1 z0 z1
          generalize w12.alloc (.cells Tryz.zeroCells173 173) = w15 at hb15 kA15 kB15 hHeld hc15 ⊢
          refine rd [5] (rc (fun K hK => ?_) .nil)
          go_simp
          go_at_call 138
          refine (pagesAt_any v0 v1 v2 v3 lo hi W _ _ _ ((Hp.out.below hb).below hb15) (by have := hb.size; have := hb15.size; omega) HR.out HT2.out).mono ?_
          rintro e w16 ⟨rfl, hc16⟩
          rw [← hB.out.eq]
          have hb16 : Below W3.heap.size W3 w16 := below_next hb15 hc16
          have kA16 := kA15.below hc16
          have kB16 := kB15.below hc16
          obtain ⟨⟨x0, -⟩, ⟨x1, -⟩, ⟨x2, -⟩, ⟨x3, -⟩, ⟨x4, -⟩, ⟨x5, -⟩⟩ := HX.out.below hb16
          obtain ⟨⟨y0, -⟩, ⟨y1, -⟩⟩ := HY.out.below hb16
          obtain ⟨⟨z0, -⟩, ⟨z1, -⟩⟩ := HZ.out.below hb16
          (try go_wp2_with fail)
          refine hK.out _ _ (by (try dsimp only); go_keep) ?_
          clear hK K hHeld
          intro hHeld
          try simp only [Act.put, s1, s2, s3]
          clear x0 x1 x2 x3 x4 x5 y0 y1 z0 z1
          have hst := run_storeBlk _ _ cA _ kA16 zero_size hA.out.size hA.out.one
          have p1 := Blk.setRow cA kA16
          have p2 := Blk.setRowOther cA kB16 (Ne.symm hne)
          have hs8 := below_setRow (g := w12.heap.size) hb16 (by have := hb12.size; omega) cA
          obtain ⟨⟨x0, -⟩, ⟨x1, -⟩, ⟨x2, -⟩, ⟨x3, -⟩, ⟨x4, -⟩, ⟨x5, -⟩⟩ := HX.out.below hs8
          obtain ⟨⟨y0, -⟩, ⟨y1, -⟩⟩ := HY.out.below hs8
          obtain ⟨⟨z0, -⟩, ⟨z1, -⟩⟩ := HZ.out.below hs8
          refine rd [8] (rc (fun K hK => ?_) .nil)
          go_simp
          (try go_wp2_with fail)
          refine hK.out _ _ (by (try dsimp only); go_keep) ?_
          clear hK K hHeld
          intro hHeld
          try simp only [Act.put, s1, s2, s3]
          clear hst
          clear x0 x1 x2 x3 x4 x5 y0 y1 z0 z1
          have hst := run_storeBlk _ _ cB _ p2 zero_size hB.out.size hB.out.one
          have p3 := Blk.setRowOther cB p1 hne
          have p4 := Blk.setRow cB p2
          have hs9 := below_setRow (g := w1.heap.size) hs8 (by have := hb1.size; omega) cB
          obtain ⟨⟨x0, -⟩, ⟨x1, -⟩, ⟨x2, -⟩, ⟨x3, -⟩, ⟨x4, -⟩, ⟨x5, -⟩⟩ := HX.out.below hs9
          obtain ⟨⟨y0, -⟩, ⟨y1, -⟩⟩ := HY.out.below hs9
          obtain ⟨⟨z0, -⟩, ⟨z1, -⟩⟩ := HZ.out.below hs9
          refine rd [9] (rc (fun K hK => ?_) .nil)
          go_simp
          (try go_wp2_with fail)
          refine hK.out _ _ (by (try dsimp only); go_keep) ?_
          clear hK K hHeld
          intro hHeld
          try simp only [Act.put, s1, s2, s3]
          refine wpAnyH_done (by kernel_rfl) ?_ _
          go_wp2_with fail
          go_meet
          case rel => exact ⟨_, _, rfl, rfl, hA.out.pg p3, hB.out.pg p4, below_next hb hs9⟩
    · go_simp
      have hc17 := below_alloc w0 (.cells Tryz.zeroCells173 173)
      have hb17 : Below W3.heap.size W3 (w0.alloc (.cells Tryz.zeroCells173 173)) := below_next hb0 hc17
      have kA17 : Blk (w0.alloc (.cells Tryz.zeroCells173 173)) w0.heap.size Tryz.zeroCells173 := heap_alloc_new _ _
      obtain ⟨⟨x0, -⟩, ⟨x1, -⟩, ⟨x2, -⟩, ⟨x3, -⟩, ⟨x4, -⟩, ⟨x5, -⟩⟩ := HX.out.below hb17
      obtain ⟨⟨y0, -⟩, ⟨y1, -⟩⟩ := HY.out.below hb17
      obtain ⟨⟨z0, -⟩, ⟨z1, -⟩⟩ := HZ.out.below hb17
      (try go_wp2_with fail)
      refine hK.out _ _ (by (try dsimp only); go_keep) ?_
      clear hK K hHeld
      intro hHeld
      try simp only [Act.put, s1, s2, s3]
      clear x0 x1 x2 x3 x4 x5 y0 y1 z0 z1
      generalize w0.alloc (.cells Tryz.zeroCells173 173) = w17 at hb17 kA17 hHeld hc17 ⊢
      refine rd [2, 7] (rc (fun K hK => ?_) (rc (fun K hK => ?_) .nil))
      · go_simp
        go_at_call 138
        refine (pagesAt_any v0 v1 v2 v3 lo hi W _ _ _ ((Hp.out.below hb).below hb17) (by have := hb.size; have := hb17.size; omega) HR.out HT.out).mono ?_
        rintro e w18 ⟨rfl, hc18⟩
        rw [← hA.out.eq]
        have hb18 : Below W3.heap.size W3 w18 := below_next hb17 hc18
        have kA18 := kA17.below hc18
        obtain ⟨⟨x0, -⟩, ⟨x1, -⟩, ⟨x2, -⟩, ⟨x3, -⟩, ⟨x4, -⟩, ⟨x5, -⟩⟩ := HX.out.below hb18
        obtain ⟨⟨y0, -⟩, ⟨y1, -⟩⟩ := HY.out.below hb18
        obtain ⟨⟨z0, -⟩, ⟨z1, -⟩⟩ := HZ.out.below hb18
        (try go_wp2_with fail)
        refine hK.out _ _ (by (try dsimp only); go_keep) ?_
        clear hK K hHeld
        intro hHeld
        try simp only [Act.put, s1, s2, s3]
        clear x0 x1 x2 x3 x4 x5 y0 y1 z0 z1
        refine rd [5, 7] (rc (fun K hK => ?_) (rc (fun K hK => ?_) .nil))
        · go_simp
          go_at_call 138
          refine (pagesAt_any v0 v1 v2 v3 lo hi W _ _ _ ((Hp.out.below hb).below hb18) (by have := hb.size; have := hb18.size; omega) HR.out HT2.out).mono ?_
          rintro e w19 ⟨rfl, hc19⟩
          rw [← hB.out.eq]
          have hb19 : Below W3.heap.size W3 w19 := below_next hb18 hc19
          have kA19 := kA18.below hc19
          obtain ⟨⟨x0, -⟩, ⟨x1, -⟩, ⟨x2, -⟩, ⟨x3, -⟩, ⟨x4, -⟩, ⟨x5, -⟩⟩ := HX.out.below hb19
          obtain ⟨⟨y0, -⟩, ⟨y1, -⟩⟩ := HY.out.below hb19
          obtain ⟨⟨z0, -⟩, ⟨z1, -⟩⟩ := HZ.out.below hb19
          (try go_wp2_with fail)
          refine hK.out _ _ (by (try dsimp only); go_keep) ?_
          clear hK K hHeld
          intro hHeld
          try simp only [Act.put, s1, s2, s3]
          clear x0 x1 x2 x3 x4 x5 y0 y1 z0 z1
          refine rd [7] (rc (fun K hK => ?_) .nil)
          go_simp
          have hc20 := below_alloc w19 (.cells Tryz.zeroCells173 173)
          have hb20 : Below W3.heap.size W3 (w19.alloc (.cells Tryz.zeroCells173 173)) := below_next hb19 hc20
          have kB20 : Blk (w19.alloc (.cells Tryz.zeroCells173 173)) w19.heap.size Tryz.zeroCells173 := heap_alloc_new _ _
          have hne : w0.heap.size ≠ w19.heap.size := by have := kA19.lt; omega
          have kA20 := kA19.below hc20
          obtain ⟨⟨x0, -⟩, ⟨x1, -⟩, ⟨x2, -⟩, ⟨x3, -⟩, ⟨x4, -⟩, ⟨x5, -⟩⟩ := HX.out.below hb20
          obtain ⟨⟨y0, -⟩, ⟨y1, -⟩⟩ := HY.out.below hb20
          obtain ⟨⟨z0, -⟩, ⟨z1, -⟩⟩ := HZ.out.below hb20
          (try go_wp2_with fail)
          refine hK.out _ _ (by (try dsimp only); go_keep) ?_
          clear hK K hHeld
          intro hHeld
          try simp only [Act.put, s1, s2, s3]
          clear x0 x1 x2 x3 x4 x5 y0 y1 z0 z1
          generalize w19.alloc (.cells Tryz.zeroCells173 173) = w20 at hb20 kB20 kA20 hHeld hc20 ⊢
          have hst := run_storeBlk _ _ cA _ kA20 zero_size hA.out.size hA.out.one
          have p1 := Blk.setRow cA kA20
          have p2 := Blk.setRowOther cA kB20 (Ne.symm hne)
          have hs8 := below_setRow (g := w0.heap.size) hb20 (by have := hb0.size; omega) cA
          obtain ⟨⟨x0, -⟩, ⟨x1, -⟩, ⟨x2, -⟩, ⟨x3, -⟩, ⟨x4, -⟩, ⟨x5, -⟩⟩ := HX.out.below hs8
          obtain ⟨⟨y0, -⟩, ⟨y1, -⟩⟩ := HY.out.below hs8
          obtain ⟨⟨z0, -⟩, ⟨z1, -⟩⟩ := HZ.out.below hs8
          refine rd [8] (rc (fun K hK => ?_) .nil)
          go_simp
          (try go_wp2_with fail)
          refine hK.out _ _ (by (try dsimp only); go_keep) ?_
          clear hK K hHeld
          intro hHeld
          try simp only [Act.put, s1, s2, s3]
          clear hst
          clear x0 x1 x2 x3 x4 x5 y0 y1 z0 z1
          have hst := run_storeBlk _ _ cB _ p2 zero_size hB.out.size hB.out.one
          have p3 := Blk.setRowOther cB p1 hne
          have p4 := Blk.setRow cB p2
          have hs9 := below_setRow (g := w19.heap.size) hs8 (by have := hb19.size; omega) cB
          obtain ⟨⟨x0, -⟩, ⟨x1, -⟩, ⟨x2, -⟩, ⟨x3, -⟩, ⟨x4, -⟩, ⟨x5, -⟩⟩ := HX.out.below hs9
          obtain ⟨⟨y0, -⟩, ⟨y1, -⟩⟩ := HY.out.below hs9
          obtain ⟨⟨z0, -⟩, ⟨z1, -⟩⟩ := HZ.out.below hs9
          refine rd [9] (rc (fun K hK => ?_) .nil)
          go_simp
          (try go_wp2_with fail)
          refine hK.out _ _ (by (try dsimp only); go_keep) ?_
          clear hK K hHeld
          intro hHeld
          try simp only [Act.put, s1, s2, s3]
          refine wpAnyH_done (by kernel_rfl) ?_ _
          go_wp2_with fail
          go_meet
          case rel => exact ⟨_, _, rfl, rfl, hA.out.pg p3, hB.out.pg p4, below_next hb hs9⟩
        · go_simp
          have hc21 := below_alloc w18 (.cells Tryz.zeroCells173 173)
          have hb21 : Below W3.heap.size W3 (w18.alloc (.cells Tryz.zeroCells173 173)) := below_next hb18 hc21
          have kB21 : Blk (w18.alloc (.cells Tryz.zeroCells173 173)) w18.heap.size Tryz.zeroCells173 := heap_alloc_new _ _
          have hne : w0.heap.size ≠ w18.heap.size := by have := kA18.lt; omega
          have kA21 := kA18.below hc21
          obtain ⟨⟨x0, -⟩, ⟨x1, -⟩, ⟨x2, -⟩, ⟨x3, -⟩, ⟨x4, -⟩, ⟨x5, -⟩⟩ := HX.out.below hb21
          obtain ⟨⟨y0, -⟩, ⟨y1, -⟩⟩ := HY.out.below hb21
          obtain ⟨⟨z0, -⟩, ⟨z1, -⟩⟩ := HZ.out.below hb21
          (try go_wp2_with fail)
          refine hK.out _ _ (by (try dsimp only); go_keep) ?_
          clear hK K hHeld
          intro hHeld
          try simp only [Act.put, s1, s2, s3]
          clear x0 x1 x2 x3 x4 x5 y0 y1 z0 z1
          generalize w18.alloc (.cells Tryz.zeroCells173 173) = w21 at hb21 kB21 kA21 hHeld hc21 ⊢
          refine rd [5] (rc (fun K hK => ?_) .nil)
          go_simp
          go_at_call 138
          refine (pagesAt_any v0 v1 v2 v3 lo hi W _ _ _ ((Hp.out.below hb).below hb21) (by have := hb.size; have := hb21.size; omega) HR.out HT2.out).mono ?_
          rintro e w22 ⟨rfl, hc22⟩
          rw [← hB.out.eq]
          have hb22 : Below W3.heap.size W3 w22 := below_next hb21 hc22
          have kA22 := kA21.below hc22
          have kB22 := kB21.below hc22
          obtain ⟨⟨x0, -⟩, ⟨x1, -⟩, ⟨x2, -⟩, ⟨x3, -⟩, ⟨x4, -⟩, ⟨x5, -⟩⟩ := HX.out.below hb22
          obtain ⟨⟨y0, -⟩, ⟨y1, -⟩⟩ := HY.out.below hb22
          obtain ⟨⟨z0, -⟩, ⟨z1, -⟩⟩ := HZ.out.below hb22
          (try go_wp2_with fail)
          refine hK.out _ _ (by (try dsimp only); go_keep) ?_
          clear hK K hHeld
          intro hHeld
          try simp only [Act.put, s1, s2, s3]
          clear x0 x1 x2 x3 x4 x5 y0 y1 z0 z1
          have hst := run_storeBlk _ _ cA _ kA22 zero_size hA.out.size hA.out.one
          have p1 := Blk.setRow cA kA22
          have p2 := Blk.setRowOther cA kB22 (Ne.symm hne)
          have hs8 := below_setRow (g := w0.heap.size) hb22 (by have := hb0.size; omega) cA
          obtain ⟨⟨x0, -⟩, ⟨x1, -⟩, ⟨x2, -⟩, ⟨x3, -⟩, ⟨x4, -⟩, ⟨x5, -⟩⟩ := HX.out.below hs8
          obtain ⟨⟨y0, -⟩, ⟨y1, -⟩⟩ := HY.out.below hs8
          obtain ⟨⟨z0, -⟩, ⟨z1, -⟩⟩ := HZ.out.below hs8
          refine rd [8] (rc (fun K hK => ?_) .nil)
          go_simp
          (try go_wp2_with fail)
          refine hK.out _ _ (by (try dsimp only); go_keep) ?_
          clear hK K hHeld
          intro hHeld
          try simp only [Act.put, s1, s2, s3]
          clear hst
          clear x0 x1 x2 x3 x4 x5 y0 y1 z0 z1
          have hst := run_storeBlk _ _ cB _ p2 zero_size hB.out.size hB.out.one
          have p3 := Blk.setRowOther cB p1 hne
          have p4 := Blk.setRow cB p2
          have hs9 := below_setRow (g := w18.heap.size) hs8 (by have := hb18.size; omega) cB
          obtain ⟨⟨x0, -⟩, ⟨x1, -⟩, ⟨x2, -⟩, ⟨x3, -⟩, ⟨x4, -⟩, ⟨x5, -⟩⟩ := HX.out.below hs9
          obtain ⟨⟨y0, -⟩, ⟨y1, -⟩⟩ := HY.out.below hs9
          obtain ⟨⟨z0, -⟩, ⟨z1, -⟩⟩ := HZ.out.below hs9
          refine rd [9] (rc (fun K hK => ?_) .nil)
          go_simp
          (try go_wp2_with fail)
          refine hK.out _ _ (by (try dsimp only); go_keep) ?_
          clear hK K hHeld
          intro hHeld
          try simp only [Act.put, s1, s2, s3]
          refine wpAnyH_done (by kernel_rfl) ?_ _
          go_wp2_with fail
          go_meet
          case rel => exact ⟨_, _, rfl, rfl, hA.out.pg p3, hB.out.pg p4, below_next hb hs9⟩
      · go_simp
        have hc23 := below_alloc w17 (.cells Tryz.zeroCells173 173)
        have hb23 : Below W3.heap.size W3 (w17.alloc (.cells Tryz.zeroCells173 173)) := below_next hb17 hc23
        have kB23 : Blk (w17.alloc (.cells Tryz.zeroCells173 173)) w17.heap.size Tryz.zeroCells173 := heap_alloc_new _ _
        have hne : w0.heap.size ≠ w17.heap.size := by have := kA17.lt; omega
        have kA23 := kA17.below hc23
        obtain ⟨⟨x0, -⟩, ⟨x1, -⟩, ⟨x2, -⟩, ⟨x3, -⟩, ⟨x4, -⟩, ⟨x5, -⟩⟩ := HX.out.below hb23
        obtain ⟨⟨y0, -⟩, ⟨y1, -⟩⟩ := HY.out.below hb23
        obtain ⟨⟨z0, -⟩, ⟨z1, -⟩⟩ := HZ.out.below hb23
        (try go_wp2_with fail)
        refine hK.out _ _ (by (try dsimp only); go_keep) ?_
        clear hK K hHeld
        intro hHeld
        try simp only [Act.put, s1, s2, s3]
        clear x0 x1 x2 x3 x4 x5 y0 y1 z0 z1
        generalize w17.alloc (.cells Tryz.zeroCells173 173) = w23 at hb23 kB23 kA23 hHeld hc23 ⊢
        refine rd [2] (rc (fun K hK => ?_) .nil)
        go_simp
        go_at_call 138
        refine (pagesAt_any v0 v1 v2 v3 lo hi W _ _ _ ((Hp.out.below hb).below hb23) (by have := hb.size; have := hb23.size; omega) HR.out HT.out).mono ?_
        rintro e w24 ⟨rfl, hc24⟩
        rw [← hA.out.eq]
        have hb24 : Below W3.heap.size W3 w24 := below_next hb23 hc24
        have kA24 := kA23.below hc24
        have kB24 := kB23.below hc24
        obtain ⟨⟨x0, -⟩, ⟨x1, -⟩, ⟨x2, -⟩, ⟨x3, -⟩, ⟨x4, -⟩, ⟨x5, -⟩⟩ := HX.out.below hb24
        obtain ⟨⟨y0, -⟩, ⟨y1, -⟩⟩ := HY.out.below hb24
        obtain ⟨⟨z0, -⟩, ⟨z1, -⟩⟩ := HZ.out.below hb24
        (try go_wp2_with fail)
        refine hK.out _ _ (by (try dsimp only); go_keep) ?_
        clear hK K hHeld
        intro hHeld
        try simp only [Act.put, s1, s2, s3]
        clear x0 x1 x2 x3 x4 x5 y0 y1 z0 z1
        refine rd [5] (rc (fun K hK => ?_) .nil)
        go_simp
        go_at_call 138
        refine (pagesAt_any v0 v1 v2 v3 lo hi W _ _ _ ((Hp.out.below hb).below hb24) (by have := hb.size; have := hb24.size; omega) HR.out HT2.out).mono ?_
        rintro e w25 ⟨rfl, hc25⟩
        rw [← hB.out.eq]
        have hb25 : Below W3.heap.size W3 w25 := below_next hb24 hc25
        have kA25 := kA24.below hc25
        have kB25 := kB24.below hc25
        obtain ⟨⟨x0, -⟩, ⟨x1, -⟩, ⟨x2, -⟩, ⟨x3, -⟩, ⟨x4, -⟩, ⟨x5, -⟩⟩ := HX.out.below hb25
        obtain ⟨⟨y0, -⟩, ⟨y1, -⟩⟩ := HY.out.below hb25
        obtain ⟨⟨z0, -⟩, ⟨z1, -⟩⟩ := HZ.out.below hb25
        (try go_wp2_with fail)
        refine hK.out _ _ (by (try dsimp only); go_keep) ?_
        clear hK K hHeld
        intro hHeld
        try simp only [Act.put, s1, s2, s3]
        clear x0 x1 x2 x3 x4 x5 y0 y1 z0 z1
        have hst := run_storeBlk _ _ cA _ kA25 zero_size hA.out.size hA.out.one
        have p1 := Blk.setRow cA kA25
        have p2 := Blk.setRowOther cA kB25 (Ne.symm hne)
        have hs8 := below_setRow (g := w0.heap.size) hb25 (by have := hb0.size; omega) cA
        obtain ⟨⟨x0, -⟩, ⟨x1, -⟩, ⟨x2, -⟩, ⟨x3, -⟩, ⟨x4, -⟩, ⟨x5, -⟩⟩ := HX.out.below hs8
        obtain ⟨⟨y0, -⟩, ⟨y1, -⟩⟩ := HY.out.below hs8
        obtain ⟨⟨z0, -⟩, ⟨z1, -⟩⟩ := HZ.out.below hs8
        refine rd [8] (rc (fun K hK => ?_) .nil)
        go_simp
        (try go_wp2_with fail)
        refine hK.out _ _ (by (try dsimp only); go_keep) ?_
        clear hK K hHeld
        intro hHeld
        try simp only [Act.put, s1, s2, s3]
        clear hst
        clear x0 x1 x2 x3 x4 x5 y0 y1 z0 z1
        have hst := run_storeBlk _ _ cB _ p2 zero_size hB.out.size hB.out.one
        have p3 := Blk.setRowOther cB p1 hne
        have p4 := Blk.setRow cB p2
        have hs9 := below_setRow (g := w17.heap.size) hs8 (by have := hb17.size; omega) cB
        obtain ⟨⟨x0, -⟩, ⟨x1, -⟩, ⟨x2, -⟩, ⟨x3, -⟩, ⟨x4, -⟩, ⟨x5, -⟩⟩ := HX.out.below hs9
        obtain ⟨⟨y0, -⟩, ⟨y1, -⟩⟩ := HY.out.below hs9
        obtain ⟨⟨z0, -⟩, ⟨z1, -⟩⟩ := HZ.out.below hs9
        refine rd [9] (rc (fun K hK => ?_) .nil)
        go_simp
        (try go_wp2_with fail)
        refine hK.out _ _ (by (try dsimp only); go_keep) ?_
        clear hK K hHeld
        intro hHeld
        try simp only [Act.put, s1, s2, s3]
        refine wpAnyH_done (by kernel_rfl) ?_ _
        go_wp2_with fail
        go_meet
        case rel => exact ⟨_, _, rfl, rfl, hA.out.pg p3, hB.out.pg p4, below_next hb hs9⟩
    · go_simp
      have hc26 := below_alloc w0 (.cells Tryz.zeroCells173 173)
      have hb26 : Below W3.heap.size W3 (w0.alloc (.cells Tryz.zeroCells173 173)) := below_next hb0 hc26
      have kB26 : Blk (w0.alloc (.cells Tryz.zeroCells173 173)) w0.heap.size Tryz.zeroCells173 := heap_alloc_new _ _
      obtain ⟨⟨x0, -⟩, ⟨x1, -⟩, ⟨x2, -⟩, ⟨x3, -⟩, ⟨x4, -⟩, ⟨x5, -⟩⟩ := HX.out.below hb26
      obtain ⟨⟨y0, -⟩, ⟨y1, -⟩⟩ := HY.out.below hb26
      obtain ⟨⟨z0, -⟩, ⟨z1, -⟩⟩ := HZ.out.below hb26
      (try go_wp2_with fail)
      refine hK.out _ _ (by (try dsimp only); go_keep) ?_
      clear hK K hHeld
      intro hHeld
      try simp only [Act.put, s1, s2, s3]
      clear x0 x1 x2 x3 x4 x5 y0 y1 z0 z1
      generalize w0.alloc (.cells Tryz.zeroCells173 173) = w26 at hb26 kB26 hHeld hc26 ⊢
      refine rd [2, 6] (rc (fun K hK => ?_) (rc (fun K hK => ?_) .nil))
      · go_simp
        go_at_call 138
        refine (pagesAt_any v0 v1 v2 v3 lo hi W _ _ _ ((Hp.out.below hb).below hb26) (by have := hb.size; have := hb26.size; omega) HR.out HT.out).mono ?_
        rintro e w27 ⟨rfl, hc27⟩
        rw [← hA.out.eq]
        have hb27 : Below W3.heap.size W3 w27 := below_next hb26 hc27
        have kB27 := kB26.below hc27
        obtain ⟨⟨x0, -⟩, ⟨x1, -⟩, ⟨x2, -⟩, ⟨x3, -⟩, ⟨x4, -⟩, ⟨x5, -⟩⟩ := HX.out.below hb27
        obtain ⟨⟨y0, -⟩, ⟨y1, -⟩⟩ := HY.out.below hb27
        obtain ⟨⟨z0, -⟩, ⟨z1, -⟩⟩ := HZ.out.below hb27
        (try go_wp2_with fail)
        refine hK.out _ _ (by (try dsimp only); go_keep) ?_
        clear hK K hHeld
        intro hHeld
        try simp only [Act.put, s1, s2, s3]
        clear x0 x1 x2 x3 x4 x5 y0 y1 z0 z1
        refine rd [5, 6] (rc (fun K hK => ?_) (rc (fun K hK => ?_) .nil))
        · go_simp
          go_at_call 138
          refine (pagesAt_any v0 v1 v2 v3 lo hi W _ _ _ ((Hp.out.below hb).below hb27) (by have := hb.size; have := hb27.size; omega) HR.out HT2.out).mono ?_
          rintro e w28 ⟨rfl, hc28⟩
          rw [← hB.out.eq]
          have hb28 : Below W3.heap.size W3 w28 := below_next hb27 hc28
          have kB28 := kB27.below hc28
          obtain ⟨⟨x0, -⟩, ⟨x1, -⟩, ⟨x2, -⟩, ⟨x3, -⟩, ⟨x4, -⟩, ⟨x5, -⟩⟩ := HX.out.below hb28
          obtain ⟨⟨y0, -⟩, ⟨y1, -⟩⟩ := HY.out.below hb28
          obtain ⟨⟨z0, -⟩, ⟨z1, -⟩⟩ := HZ.out.below hb28
          (try go_wp2_with fail)
          refine hK.out _ _ (by (try dsimp only); go_keep) ?_
          clear hK K hHeld
          intro hHeld
          try simp only [Act.put, s1, s2, s3]
          clear x0 x1 x2 x3 x4 x5 y0 y1 z0 z1
          refine rd [6] (rc (fun K hK => ?_) .nil)
          go_simp
          have hc29 := below_alloc w28 (.cells Tryz.zeroCells173 173)
          have hb29 : Below W3.heap.size W3 (w28.alloc (.cells Tryz.zeroCells173 173)) := below_next hb28 hc29
          have kA29 : Blk (w28.alloc (.cells Tryz.zeroCells173 173)) w28.heap.size Tryz.zeroCells173 := heap_alloc_new _ _
          have hne : w28.heap.size ≠ w0.heap.size := by have := kB28.lt; omega
          have kB29 := kB28.below hc29
          obtain ⟨⟨x0, -⟩, ⟨x1, -⟩, ⟨x2, -⟩, ⟨x3, -⟩, ⟨x4, -⟩, ⟨x5, -⟩⟩ := HX.out.below hb29
          obtain ⟨⟨y0, -⟩, ⟨y1, -⟩⟩ := HY.out.below hb29
          obtain ⟨⟨z0, -⟩, ⟨z1, -⟩⟩ := HZ.out.below hb29
          (try go_wp2_with fail)
          refine hK.out _ _ (by (try dsimp only); go_keep) ?_
          clear hK K hHeld
          intro hHeld
          try simp only [Act.put, s1, s2, s3]
          clear x0 x1 x2 x3 x4 x5 y0 y1 z0 z1
          generalize w28.alloc (.cells Tryz.zeroCells173 173) = w29 at hb29 kA29 kB29 hHeld hc29 ⊢
          have hst := run_storeBlk _ _ cA _ kA29 zero_size hA.out.size hA.out.one
          have p1 := Blk.setRow cA kA29
          have p2 := Blk.setRowOther cA kB29 (Ne.symm hne)
          have hs8 := below_setRow (g := w28.heap.size) hb29 (by have := hb28.size; omega) cA
          obtain ⟨⟨x0, -⟩, ⟨x1, -⟩, ⟨x2, -⟩, ⟨x3, -⟩, ⟨x4, -⟩, ⟨x5, -⟩⟩ := HX.out.below hs8
          obtain ⟨⟨y0, -⟩, ⟨y1, -⟩⟩ := HY.out.below hs8
          obtain ⟨⟨z0, -⟩, ⟨z1, -⟩⟩ := HZ.out.below hs8
          refine rd [8] (rc (fun K hK => ?_) .nil)
          go_simp
          (try go_wp2_with fail)
          refine hK.out _ _ (by (try dsimp only); go_keep) ?_
          clear hK K hHeld
          intro hHeld
          try simp only [Act.put, s1, s2, s3]
          clear hst
          clear x0 x1 x2 x3 x4 x5 y0 y1 z0 z1
          have hst := run_storeBlk _ _ cB _ p2 zero_size hB.out.size hB.out.one
          have p3 := Blk.setRowOther cB p1 hne
          have p4 := Blk.setRow cB p2
          have hs9 := below_setRow (g := w0.heap.size) hs8 (by have := hb0.size; omega) cB
          obtain ⟨⟨x0, -⟩, ⟨x1, -⟩, ⟨x2, -⟩, ⟨x3, -⟩, ⟨x4, -⟩, ⟨x5, -⟩⟩ := HX.out.below hs9
          obtain ⟨⟨y0, -⟩, ⟨y1, -⟩⟩ := HY.out.below hs9
          obtain ⟨⟨z0, -⟩, ⟨z1, -⟩⟩ := HZ.out.below hs9
          refine rd [9] (rc (fun K hK => ?_) .nil)
          go_simp
          (try go_wp2_with fail)
          refine hK.out _ _ (by (try dsimp only); go_keep) ?_
          clear hK K hHeld
          intro hHeld
          try simp only [Act.put, s1, s2, s3]
          refine wpAnyH_done (by kernel_rfl) ?_ _
          go_wp2_with fail
          go_meet
          case rel => exact ⟨_, _, rfl, rfl, hA.out.pg p3, hB.out.pg p4, below_next hb hs9⟩
        · go_simp
          have hc30 := below_alloc w27 (.cells Tryz.zeroCells173 173)
          have hb30 : Below W3.heap.size W3 (w27.alloc (.cells Tryz.zeroCells173 173)) := below_next hb27 hc30
          have kA30 : Blk (w27.alloc (.cells Tryz.zeroCells173 173)) w27.heap.size Tryz.zeroCells173 := heap_alloc_new _ _
          have hne : w27.heap.size ≠ w0.heap.size := by have := kB27.lt; omega
          have kB30 := kB27.below hc30
          obtain ⟨⟨x0, -⟩, ⟨x1, -⟩, ⟨x2, -⟩, ⟨x3, -⟩, ⟨x4, -⟩, ⟨x5, -⟩⟩ := HX.out.below hb30
          obtain ⟨⟨y0, -⟩, ⟨y1, -⟩⟩ := HY.out.below hb30
          obtain ⟨⟨z0, -⟩, ⟨z1, -⟩⟩ := HZ.out.below hb30
          (try go_wp2_with fail)
          refine hK.out _ _ (by (try dsimp only); go_keep) ?_
          clear hK K hHeld
          intro hHeld
          try simp only [Act.put, s1, s2, s3]
          clear x0 x1 x2 x3 x4 x5 y0 y1 z0 z1
          generalize w27.alloc (.cells Tryz.zeroCells173 173) = w30 at hb30 kA30 kB30 hHeld hc30 ⊢
          refine rd [5] (rc (fun K hK => ?_) .nil)
          go_simp
          go_at_call 138
          refine (pagesAt_any v0 v1 v2 v3 lo hi W _ _ _ ((Hp.out.below hb).below hb30) (by have := hb.size; have := hb30.size; omega) HR.out HT2.out).mono ?_
          rintro e w31 ⟨rfl, hc31⟩
          rw [← hB.out.eq]
          have hb31 : Below W3.heap.size W3 w31 := below_next hb30 hc31
          have kA31 := kA30.below hc31
          have kB31 := kB30.below hc31
          obtain ⟨⟨x0, -⟩, ⟨x1, -⟩, ⟨x2, -⟩, ⟨x3, -⟩, ⟨x4, -⟩, ⟨x5, -⟩⟩ := HX.out.below hb31
          obtain ⟨⟨y0, -⟩, ⟨y1, -⟩⟩ := HY.out.below hb31
          obtain ⟨⟨z0, -⟩, ⟨z1, -⟩⟩ := HZ.out.below hb31
          (try go_wp2_with fail)
          refine hK.out _ _ (by (try dsimp only); go_keep) ?_
          clear hK K hHeld
          intro hHeld
          try simp only [Act.put, s1, s2, s3]
          clear x0 x1 x2 x3 x4 x5 y0 y1 z0 z1
          have hst := run_storeBlk _ _ cA _ kA31 zero_size hA.out.size hA.out.one
          have p1 := Blk.setRow cA kA31
          have p2 := Blk.setRowOther cA kB31 (Ne.symm hne)
          have hs8 := below_setRow (g := w27.heap.size) hb31 (by have := hb27.size; omega) cA
          obtain ⟨⟨x0, -⟩, ⟨x1, -⟩, ⟨x2, -⟩, ⟨x3, -⟩, ⟨x4, -⟩, ⟨x5, -⟩⟩ := HX.out.below hs8
          obtain ⟨⟨y0, -⟩, ⟨y1, -⟩⟩ := HY.out.below hs8
          obtain ⟨⟨z0, -⟩, ⟨z1, -⟩⟩ := HZ.out.below hs8
          refine rd [8] (rc (fun K hK => ?_) .nil)
          go_simp
          (try go_wp2_with fail)
          refine hK.out _ _ (by (try dsimp only); go_keep) ?_
          clear hK K hHeld
          intro hHeld
          try simp only [Act.put, s1, s2, s3]
          clear hst
          clear x0 x1 x2 x3 x4 x5 y0 y1 z0 z1
          have hst := run_storeBlk _ _ cB _ p2 zero_size hB.out.size hB.out.one
          have p3 := Blk.setRowOther cB p1 hne
          have p4 := Blk.setRow cB p2
          have hs9 := below_setRow (g := w0.heap.size) hs8 (by have := hb0.size; omega) cB
          obtain ⟨⟨x0, -⟩, ⟨x1, -⟩, ⟨x2, -⟩, ⟨x3, -⟩, ⟨x4, -⟩, ⟨x5, -⟩⟩ := HX.out.below hs9
          obtain ⟨⟨y0, -⟩, ⟨y1, -⟩⟩ := HY.out.below hs9
          obtain ⟨⟨z0, -⟩, ⟨z1, -⟩⟩ := HZ.out.below hs9
          refine rd [9] (rc (fun K hK => ?_) .nil)
          go_simp
          (try go_wp2_with fail)
          refine hK.out _ _ (by (try dsimp only); go_keep) ?_
          clear hK K hHeld
          intro hHeld
          try simp only [Act.put, s1, s2, s3]
          refine wpAnyH_done (by kernel_rfl) ?_ _
          go_wp2_with fail
          go_meet
          case rel => exact ⟨_, _, rfl, rfl, hA.out.pg p3, hB.out.pg p4, below_next hb hs9⟩
      · go_simp
        have hc32 := below_alloc w26 (.cells Tryz.zeroCells173 173)
        have hb32 : Below W3.heap.size W3 (w26.alloc (.cells Tryz.zeroCells173 173)) := below_next hb26 hc32
        have kA32 : Blk (w26.alloc (.cells Tryz.zeroCells173 173)) w26.heap.size Tryz.zeroCells173 := heap_alloc_new _ _
        have hne : w26.heap.size ≠ w0.heap.size := by have := kB26.lt; omega
        have kB32 := kB26.below hc32
        obtain ⟨⟨x0, -⟩, ⟨x1, -⟩, ⟨x2, -⟩, ⟨x3, -⟩, ⟨x4, -⟩, ⟨x5, -⟩⟩ := HX.out.below hb32
        obtain ⟨⟨y0, -⟩, ⟨y1, -⟩⟩ := HY.out.below hb32
        obtain ⟨⟨z0, -⟩, ⟨z1, -⟩⟩ := HZ.out.below hb32
        (try go_wp2_with fail)
        refine hK.out _ _ (by (try dsimp only); go_keep) ?_
        clear hK K hHeld
        intro hHeld
        try simp only [Act.put, s1, s2, s3]
        clear x0 x1 x2 x3 x4 x5 y0 y1 z0 z1
        generalize w26.alloc (.cells Tryz.zeroCells173 173) = w32 at hb32 kA32 kB32 hHeld hc32 ⊢
        refine rd [2] (rc (fun K hK => ?_) .nil)
        go_simp
        go_at_call 138
        refine (pagesAt_any v0 v1 v2 v3 lo hi W _ _ _ ((Hp.out.below hb).below hb32) (by have := hb.size; have := hb32.size; omega) HR.out HT.out).mono ?_
        rintro e w33 ⟨rfl, hc33⟩
        rw [← hA.out.eq]
        have hb33 : Below W3.heap.size W3 w33 := below_next hb32 hc33
        have kA33 := kA32.below hc33
        have kB33 := kB32.below hc33
        obtain ⟨⟨x0, -⟩, ⟨x1, -⟩, ⟨x2, -⟩, ⟨x3, -⟩, ⟨x4, -⟩, ⟨x5, -⟩⟩ := HX.out.below hb33
        obtain ⟨⟨y0, -⟩, ⟨y1, -⟩⟩ := HY.out.below hb33
        obtain ⟨⟨z0, -⟩, ⟨z1, -⟩⟩ := HZ.out.below hb33
        (try go_wp2_with fail)
        refine hK.out _ _ (by (try dsimp only); go_keep) ?_
        clear hK K hHeld
        intro hHeld
        try simp only [Act.put, s1, s2, s3]
        clear x0 x1 x2 x3 x4 x5 y0 y1 z0 z1
        refine rd [5] (rc (fun K hK => ?_) .nil)
        go_simp
        go_at_call 138
        refine (pagesAt_any v0 v1 v2 v3 lo hi W _ _ _ ((Hp.out.below hb).below hb33) (by have := hb.size; have := hb33.size; omega) HR.out HT2.out).mono ?_
        rintro e w34 ⟨rfl, hc34⟩
        rw [← hB.out.eq]
        have hb34 : Below W3.heap.size W3 w34 := below_next hb33 hc34
        have kA34 := kA33.below hc34
        have kB34 := kB33.below hc34
        obtain ⟨⟨x0, -⟩, ⟨x1, -⟩, ⟨x2, -⟩, ⟨x3, -⟩, ⟨x4, -⟩, ⟨x5, -⟩⟩ := HX.out.below hb34
        obtain ⟨⟨y0, -⟩, ⟨y1, -⟩⟩ := HY.out.below hb34
        obtain ⟨⟨z0, -⟩, ⟨z1, -⟩⟩ := HZ.out.below hb34
        (try go_wp2_with fail)
        refine hK.out _ _ (by (try dsimp only); go_keep) ?_
        clear hK K hHeld
        intro hHeld
        try simp only [Act.put, s1, s2, s3]
        clear x0 x1 x2 x3 x4 x5 y0 y1 z0 z1
        have hst := run_storeBlk _ _ cA _ kA34 zero_size hA.out.size hA.out.one
        have p1 := Blk.setRow cA kA34
        have p2 := Blk.setRowOther cA kB34 (Ne.symm hne)
        have hs8 := below_setRow (g := w26.heap.size) hb34 (by have := hb26.size; omega) cA
        obtain ⟨⟨x0, -⟩, ⟨x1, -⟩, ⟨x2, -⟩, ⟨x3, -⟩, ⟨x4, -⟩, ⟨x5, -⟩⟩ := HX.out.below hs8
        obtain ⟨⟨y0, -⟩, ⟨y1, -⟩⟩ := HY.out.below hs8
        obtain ⟨⟨z0, -⟩, ⟨z1, -⟩⟩ := HZ.out.below hs8
        refine rd [8] (rc (fun K hK => ?_) .nil)
        go_simp
        (try go_wp2_with fail)
        refine hK.out _ _ (by (try dsimp only); go_keep) ?_
        clear hK K hHeld
        intro hHeld
        try simp only [Act.put, s1, s2, s3]
        clear hst
        clear x0 x1 x2 x3 x4 x5 y0 y1 z0 z1
        have hst := run_storeBlk _ _ cB _ p2 zero_size hB.out.size hB.out.one
        have p3 := Blk.setRowOther cB p1 hne
        have p4 := Blk.setRow cB p2
        have hs9 := below_setRow (g := w0.heap.size) hs8 (by have := hb0.size; omega) cB
        obtain ⟨⟨x0, -⟩, ⟨x1, -⟩, ⟨x2, -⟩, ⟨x3, -⟩, ⟨x4, -⟩, ⟨x5, -⟩⟩ := HX.out.below hs9
        obtain ⟨⟨y0, -⟩, ⟨y1, -⟩⟩ := HY.out.below hs9
        obtain ⟨⟨z0, -⟩, ⟨z1, -⟩⟩ := HZ.out.below hs9
        refine rd [9] (rc (fun K hK => ?_) .nil)
        go_simp
        (try go_wp2_with fail)
        refine hK.out _ _ (by (try dsimp only); go_keep) ?_
        clear hK K hHeld
        intro hHeld
        try simp only [Act.put, s1, s2, s3]
        refine wpAnyH_done (by kernel_rfl) ?_ _
        go_wp2_with fail
        go_meet
        case rel => exact ⟨_, _, rfl, rfl, hA.out.pg p3, hB.out.pg p4, below_next hb hs9⟩
  case rest =>
    obtain ⟨A, B, rfl, rfl, hPA, hPB, hbc⟩ := hcut
    have HPA := hideQ hPA
    have HPB := hideQ hPB
    clear hPA hPB
    obtain ⟨i0, hi0, hzz⟩ := Option.map_eq_some_iff.1 infoIntP
    simp only [Prod.mk.injEq] at hzz
    have HI := hideQ (And.intro hi0 hzz)
    clear hi0 hzz
    go_wp2
    go_loopw [9, 17] (fun vo i wr => ∃ j : Nat, j ≤ 64 ∧ i = .int .i64 j ∧ RowP wr wc.heap.size vo (apartL W.pool a b c d j) ∧ Below wc.heap.size wc wr) (fun _ i _ => 64 - (intOf i).toNat)
    case atStart => exact ⟨0, Nat.zero_le _, rfl, RowP.nil _ _, Below.refl _ _⟩
    case round =>
      obtain ⟨j, hj, rfl, hrow, hb'⟩ := hrel
      have Hrow := hideQ hrow
      clear hrow
      by_cases hlt : j < 64
      · have hlt' : (j : Int) < 64 := by omega
        obtain ⟨⟨x0, -⟩, ⟨x1, -⟩⟩ := (HPA.out.below hb') j hlt
        obtain ⟨⟨y0, -⟩, ⟨y1, -⟩⟩ := (HPB.out.below hb') j hlt
        rw [fill_tree W.pool a b hlt] at x0 x1
        rw [fill_tree W.pool c d hlt] at y0 y1
        have hlen := apartL_len W.pool a b c d j
        have HN := hideQ (fun (h : PageNe W.pool a b c d j) => apartL_yes h)
        have HE := hideQ (fun (h : ¬ PageNe W.pool a b c d j) => apartL_no h)
        unfold PageNe at HN HE
        generalize pageS W.pool a b j = pa at *
        generalize pageB W.pool a b j = pb at *
        generalize pageS W.pool c d j = pc at *
        generalize pageB W.pool c d j = pd at *
        go_wp2_with fail
        by_cases h1 : pa = pc
        · subst h1
          by_cases h2 : pb = pd
          · subst h2
            have HC := hideQ (HE.out (fun h => h ⟨rfl, rfl⟩))
            clear HN HE
            go_region_held3 (fun w' => w'.cell? ⟨A, j * 2, none⟩ = some (.int .i64 pa) ∧ w'.cell? ⟨A, j * 2 + 1, none⟩ = some (.int .i64 pb) ∧ w'.cell? ⟨B, j * 2, none⟩ = some (.int .i64 pa) ∧ w'.cell? ⟨B, j * 2 + 1, none⟩ = some (.int .i64 pb)) (go_keep)
              (fail)
            go_wp2
            go_roundw
            case rel => exact ⟨j + 1, by omega, by go_num, by rw [HC.out]; exact Hrow.out.below (Below.refl _ _).drew, hb'.drew⟩
            case measure => simp [intOf]; omega
          have HC := hideQ (HN.out (fun h => h2 h.2))
          have e1 : (pb == pd) = false := by simp [h2]
          have e2 : (pb != pd) = true := by simp [h2]
          have e3 : decide (pb = pd) = false := by simp [h2]
          clear HN HE h2
          go_region_held3 (fun w' => w'.cell? ⟨A, j * 2, none⟩ = some (.int .i64 pa) ∧ w'.cell? ⟨A, j * 2 + 1, none⟩ = some (.int .i64 pb) ∧ w'.cell? ⟨B, j * 2, none⟩ = some (.int .i64 pa) ∧ w'.cell? ⟨B, j * 2 + 1, none⟩ = some (.int .i64 pd)) (go_keep)
            (fail)
          have hbq := hb'.drew
          have Hrowq := hideQ (Hrow.out.below (Below.refl _ _).drew)
          clear x0 x1 y0 y1
          generalize wr.drew = wq at hbq Hrowq ⊢
          have hba := below_alloc wq (.cells #[.int .i64 (j : Int)] 2)
          have Hrow7 := hideQ (Hrowq.out.below hba)
          have hB3 := below_next hbq hba
          have hz2 := hbq.size
          have hz1 := hbc.size
          have HNW := hideQ (World.news_of_block (heap_alloc_last wq (.cells #[.int .i64 (j : Int)] 2)))
          have HZZ := hideQ (show (wq.alloc (.cells #[.int .i64 (j : Int)] 2)).heap.size = wq.heap.size + 1 from World.size_alloc _ _)
          clear hba Hrow Hrowq
          go_wp2_with (first
            | (at_builtin; refine wpList_append_lies _ rfl _ _ 23 rfl wc.heap.size 2 i0 (.int .i64 0) 1 8 (by kernel_rfl) HI.out.1 HI.out.2.1 HI.out.2.2.1 HI.out.2.2.2 rfl (by decide) _ _ _ rfl Hrow7.out.1 ⟨wq.heap.size, 0, none⟩ 1 1 [.int .i64 (j : Int)] rfl rfl HNW.out (by simp [Value.oneCell']) (by decide) (by unfold maxLen; omega) (by omega) (by rw [HZZ.out]; omega) _ rfl ?_; intro g' cap' w8 hown8 hgrow8 hat8 hlt8)
            | go_in)
          go_roundw
          case rel => exact ⟨j + 1, by omega, by go_num, by rw [HC.out]; exact RowP.next hown8, hB3.grown hgrow8 hB3.size (fun q hq => (Hrow7.out.lt hq).1)⟩
          case measure => simp [intOf]; omega
        · have HC := hideQ (HN.out (fun h => h1 h.1))
          have e1 : (pa == pc) = false := by simp [h1]
          have e2 : (pa != pc) = true := by simp [h1]
          have e3 : decide (pa = pc) = false := by simp [h1]
          clear HN HE h1
          go_region_held3 (fun w' => w'.cell? ⟨A, j * 2, none⟩ = some (.int .i64 pa) ∧ w'.cell? ⟨A, j * 2 + 1, none⟩ = some (.int .i64 pb) ∧ w'.cell? ⟨B, j * 2, none⟩ = some (.int .i64 pc) ∧ w'.cell? ⟨B, j * 2 + 1, none⟩ = some (.int .i64 pd)) (go_keep)
            (fail)
          have hbq := hb'.drew
          have Hrowq := hideQ (Hrow.out.below (Below.refl _ _).drew)
          clear x0 x1 y0 y1
          generalize wr.drew = wq at hbq Hrowq ⊢
          have hba := below_alloc wq (.cells #[.int .i64 (j : Int)] 2)
          have Hrow7 := hideQ (Hrowq.out.below hba)
          have hB3 := below_next hbq hba
          have hz2 := hbq.size
          have hz1 := hbc.size
          have HNW := hideQ (World.news_of_block (heap_alloc_last wq (.cells #[.int .i64 (j : Int)] 2)))
          have HZZ := hideQ (show (wq.alloc (.cells #[.int .i64 (j : Int)] 2)).heap.size = wq.heap.size + 1 from World.size_alloc _ _)
          clear hba Hrow Hrowq
          go_wp2_with (first
            | (at_builtin; refine wpList_append_lies _ rfl _ _ 23 rfl wc.heap.size 2 i0 (.int .i64 0) 1 8 (by kernel_rfl) HI.out.1 HI.out.2.1 HI.out.2.2.1 HI.out.2.2.2 rfl (by decide) _ _ _ rfl Hrow7.out.1 ⟨wq.heap.size, 0, none⟩ 1 1 [.int .i64 (j : Int)] rfl rfl HNW.out (by simp [Value.oneCell']) (by decide) (by unfold maxLen; omega) (by omega) (by rw [HZZ.out]; omega) _ rfl ?_; intro g' cap' w8 hown8 hgrow8 hat8 hlt8)
            | go_in)
          go_roundw
          case rel => exact ⟨j + 1, by omega, by go_num, by rw [HC.out]; exact RowP.next hown8, hB3.grown hgrow8 hB3.size (fun q hq => (Hrow7.out.lt hq).1)⟩
          case measure => simp [intOf]; omega
      · obtain rfl : j = 64 := by omega
        go_wp2
        go_ret
        exact ⟨_, rfl, Hrow.out.mono hbc.size, below_next hbc hb'⟩

end Go.Proofs.YtjpbmpjddbekgaaGreat
