/- What impl.pagesAt answers. -/
import Derived.Test.YtjpbmpjddbekgaaGreatG39
namespace Go.Proofs.YtjpbmpjddbekgaaGreat
open Go.RowKit Go.Shelf Go.Maps
set_option linter.unusedVariables false
attribute [local go_sem] Oper.semAt_some

theorem pgC_size (f : Nat → Int × Int) : (pgC f).size = 128 := by simp [pgC]
theorem pgC_one (f : Nat → Int × Int) : (pgC f).all (·.oneCell') = true := by
  rw [Array.all_eq_true_iff_forall_mem]
  intro v hv
  unfold pgC at hv
  obtain ⟨j, -, rfl⟩ := List.mem_map.1 (List.mem_toArray.1 hv)
  rfl
theorem zero_size : Tryz.zeroCells173.size = 128 := by rw [zero_eq]; simp
def Blk (X : World) (V : Nat) (cs : Array Value) : Prop := X.heap[V]? = some (.cells cs 173)
theorem Blk.lt {X : World} {V : Nat} {cs : Array Value} (h : Blk X V cs) : V < X.heap.size := (Array.getElem?_eq_some_iff.1 h).1
theorem Blk.below {X Y : World} {V : Nat} {cs : Array Value} (h : Blk X V cs) (t : Below X.heap.size X Y) : Blk Y V cs := (t.block V h.lt).trans h
theorem Blk.own {B : Nat} {X Y : World} {row : Option Nat} {V : Nat} {cs : Array Value} (h : Blk X V cs) (hg : X.grownBy Y row) (hr : ∀ r, row = some r → B ≤ r ∧ ∃ ob : Obj, X.heap[r]? = some ob ∧ ob.isCells = false) : Blk Y V cs := by
  have hne : some V ≠ row := fun e => by
    obtain ⟨_, ob, h3, h4⟩ := hr V e.symm
    rw [show X.heap[V]? = _ from h] at h3
    cases h3
    exact absurd h4 (by simp [Obj.isCells])
  exact (hg.block V h.lt hne).trans h
theorem Blk.other {X : World} {V b o : Nat} {cs : Array Value} {u : Value} (h : Blk X V cs) (hne : V ≠ b) : Blk (X.setCell ⟨b, o, none⟩ u) V cs := (Below.heap_setCell X ⟨b, o, none⟩ u V (by simpa using hne)).trans h

def quads (l : List Spot) : List Quad := l.map (fun y => y.1)

set_option maxRecDepth 20000 in
set_option maxHeartbeats 2000000 in
theorem pagesAt_any (v0 v1 v2 v3 : Value) (lo hi : Nat) (W : WorldD) (rs rb : Int) (w : World) (h : WorldAt w lo hi v0 v1 v2 v3 W) (hh : hi ≤ w.heap.size) (hR : Right W.pool) (hT : TreeOk W.pool rs rb) :
    Calls Tryz.prog 138 #[worldV v0 v1 v2 v3 W, .agg #[.int .i64 rs, .int .i64 rb]] w fun e w' => e = .returned (.agg (pgC (fillQ (treeQ W.pool rs rb)))) ∧ Below w.heap.size w w' := by
  have Hp := hideQ h
  clear h
  have hst : ∀ A B C D : World, A = w.alloc (.cells #[v0, v1, .int .i64 W.time, .int .i64 W.next, v2, v3] 38) → B = A.alloc (.cells #[.int .i64 rs, .int .i64 rb] 43) → C = B.alloc (.cells Tryz.zeroCells173 173) → D = C.alloc (.cells Tryz.zeroCells173 173) →
      Box6 D w.heap.size v0 v1 (.int .i64 W.time) (.int .i64 W.next) v2 v3 ∧ Box2 D (w.heap.size + 1) (.int .i64 rs) (.int .i64 rb) ∧ Blk D (w.heap.size + 1 + 1) Tryz.zeroCells173 ∧ PgAt D (w.heap.size + 1 + 1 + 1) (fun _ => (0, 0)) ∧ Below w.heap.size w D ∧ D.heap.size = w.heap.size + 4 := by
    rintro A B C D ea eb ec ed
    have b1 := below_alloc w (.cells #[v0, v1, .int .i64 W.time, .int .i64 W.next, v2, v3] 38)
    have x1 := Box6.new w v0 v1 (.int .i64 W.time) (.int .i64 W.next) v2 v3 38
    have z1 : A.heap.size = w.heap.size + 1 := by rw [ea]; exact World.size_alloc _ _
    rw [← ea] at b1 x1
    have b2 := below_alloc A (.cells #[.int .i64 rs, .int .i64 rb] 43)
    have x2 := Box2.new A (.int .i64 rs) (.int .i64 rb) 43
    have z2 : B.heap.size = w.heap.size + 1 + 1 := by rw [eb, World.size_alloc, z1]
    rw [← eb] at b2 x2
    rw [z1] at x2
    have b3 := below_alloc B (.cells Tryz.zeroCells173 173)
    have x3 : Blk C B.heap.size Tryz.zeroCells173 := by rw [ec]; exact heap_alloc_new _ _
    have z3 : C.heap.size = w.heap.size + 1 + 1 + 1 := by rw [ec, World.size_alloc, z2]
    rw [← ec] at b3
    rw [z2] at x3
    have b4 := below_alloc C (.cells Tryz.zeroCells173 173)
    have x4 := PgAt.new C
    have z4 : D.heap.size = w.heap.size + 4 := by rw [ed, World.size_alloc, z3]
    rw [← ed] at b4 x4
    rw [z3] at x4
    exact ⟨((x1.below b2).below b3).below b4, (x2.below b3).below b4, x3.below b4, x4, below_next (below_next (below_next b1 b2) b3) b4, z4⟩
  obtain ⟨hx, hy, hk4, hk5, hb, hz⟩ := hst _ _ _ _ rfl rfl rfl rfl
  have HX := hideQ hx
  have HY := hideQ hy
  have H4 := hideQ hk4
  have H5 := hideQ hk5
  have HB := hideQ hb
  have HZ := hideQ hz
  clear hst hx hy hk4 hk5 hb hz
  obtain ⟨⟨x0, -⟩, ⟨x1, -⟩, ⟨x2, -⟩, ⟨x3, -⟩, ⟨x4, -⟩, ⟨x5, -⟩⟩ := HX.out
  obtain ⟨⟨y0, -⟩, ⟨y1, -⟩⟩ := HY.out
  refine (callsIn_wide (n := 3)).1 ?_
  refine callsIn_of_wp_marks Tryz.func138 rfl trivial ?_ rfl
  simp only [Tryz.ntmps138, List.size_toArray, List.length_cons, List.length_nil, Nat.reduceAdd, Nat.reduceSub, Array.replicate_succ, Array.replicate_zero, List.push_toArray, List.append_toArray, List.nil_append, List.cons_append]
  gi_wp2
  clear x0 x1 x2 x3 x4 x5 y0 y1
  generalize (((w.alloc (.cells #[v0, v1, .int .i64 W.time, .int .i64 W.next, v2, v3] 38)).alloc (.cells #[.int .i64 rs, .int .i64 rb] 43)).alloc (.cells Tryz.zeroCells173 173)).alloc (.cells Tryz.zeroCells173 173) = W4 at HX HY H4 H5 HB HZ ⊢
  refine ⟨trivial, (callsIn_wide.2 (slotsOf_any v0 v1 v2 v3 W rs rb W4)).mono ?_⟩
  rintro e w5 ⟨rfl, hbw, hbt, hb5, hz5⟩
  have HB5 := hideQ (below_next HB.out hb5)
  have H45 := hideQ (H4.out.below hb5)
  have H55 := hideQ (H5.out.below hb5)
  have hz6 : w5.heap.size = w.heap.size + 6 := by have := HZ.out; omega
  have hseq := slots_stops w.heap.size w5.heap.size 2 W4.heap.size (W4.heap.size + 1) lo hi W.pool v0 v1 v2 v3 W.time W.next rs rb w5 (by omega) (Nat.le_refl _) hh hR hT hbw hbt (Hp.out.pool.1.below HB5.out)
  clear hb5 hbw hbt hz5 HX HY H4 H5 HB HZ
  gi_wp2
  refine wpIn_rangeFunc_ownH rfl (by omega) (gf := 173) (lb := #[.pointer (some ⟨W4.heap.size, 0, none⟩), .pointer (some ⟨W4.heap.size + 1, 0, none⟩)]) rfl trivial (enters_of Tryz.func173 (by kernel_rfl) rfl) hseq keepLoc_t (keepLoc_b (by omega)) (Below.refl _ _) (fun _ => rfl)
    (fun (pre : List Spot) X => (Blk X (w.heap.size + 1 + 1) Tryz.zeroCells173 ∧ PgAt X (w.heap.size + 1 + 1 + 1) (fillQ (quads pre))) ∧ Below w.heap.size w X)
    (fun _ _ _ => False)
    (fun s X Y row hs hg hr => ⟨⟨hs.1.1.own hg hr, hs.1.2.own hg hr⟩, ownFrom_below (β := Unit) (Nat.le_refl _) (by omega) () X Y row hs.2 hg hr⟩)
    (fun _ _ _ _ _ hs _ _ => hs)
    ⟨⟨H45.out, H55.out⟩, HB5.out⟩
    (fun x a' X => ∃ Bs Bx, w.heap.size + 1 + 1 + 1 < Bs ∧ w.heap.size + 1 + 1 + 1 < Bx ∧ Box2 X Bs (.int .i64 x.1.1.1) (.int .i64 x.1.1.2) ∧ Box2 X Bx (.int .i64 x.1.2.1) (.int .i64 x.1.2.2) ∧ a' = { tmps := #[worldV v0 v1 v2 v3 W, .agg #[.int .i64 rs, .int .i64 rb], .pointer (some ⟨w.heap.size, 0, none⟩), .pointer (some ⟨w.heap.size + 1, 0, none⟩), .pointer (some ⟨w.heap.size + 1 + 1, 0, none⟩), .pointer (some ⟨w.heap.size + 1 + 1 + 1, 0, none⟩), .pointer (some ⟨Bs, 0, none⟩), .pointer (some ⟨Bx, 0, none⟩), .agg #[v0, v1, .int .i64 W.time, .int .i64 W.next, v2, v3], .agg #[.int .i64 rs, .int .i64 rb], .func (.func 173) #[] #[.pointer (some ⟨W4.heap.size, 0, none⟩), .pointer (some ⟨W4.heap.size + 1, 0, none⟩)], .agg #[.int .i64 x.1.1.1, .int .i64 x.1.1.2], .agg #[.int .i64 x.1.2.1, .int .i64 x.1.2.2], undef, undef, undef, undef, undef, undef, undef, undef], defers := [] })
    (fun x a' _ X Y row hs hg hr => by obtain ⟨Bs, Bx, h1, h1', h2, h2', h3⟩ := hs; exact ⟨Bs, Bx, h1, h1', ⟨cell_own h2.1 hg hr, cell_own h2.2 hg hr⟩, ⟨cell_own h2'.1 hg hr, cell_own h2'.2 hg hr⟩, h3⟩)
    ?assign ?body ?done ?stop
  case assign =>
    rintro l pre x X K ⟨⟨i1, i2⟩, i3⟩ hK
    have ha := below_alloc X (.cells #[.int .i64 x.1.1.1, .int .i64 x.1.1.2] 172)
    have hy := Box2.new X (.int .i64 x.1.1.1) (.int .i64 x.1.1.2) 172
    have hz : (X.alloc (.cells #[.int .i64 x.1.1.1, .int .i64 x.1.1.2] 172)).heap.size = X.heap.size + 1 := World.size_alloc _ _
    have hc := below_alloc (X.alloc (.cells #[.int .i64 x.1.1.1, .int .i64 x.1.1.2] 172)) (.cells #[.int .i64 x.1.2.1, .int .i64 x.1.2.2] 43)
    have hq := Box2.new (X.alloc (.cells #[.int .i64 x.1.1.1, .int .i64 x.1.1.2] 172)) (.int .i64 x.1.2.1) (.int .i64 x.1.2.2) 43
    rw [hz] at hq
    have hac := below_next ha hc
    have hlt := ((i2 0 (by omega)).1).lt
    have HK := hideQ (hK _ _ (((KeepsOthers.alloc _ _).trans (KeepsOthers.alloc _ _)).from _) (KeepLoc.of_below hac i3.size) ⟨⟨i1.below hac, i2.below hac⟩, below_next i3 hac⟩ ⟨X.heap.size, X.heap.size + 1, hlt, by omega, hy.below hc, hq, rfl⟩)
    clear ha hy hK i1 i2 i3 hc hq hac hz
    gi_wp2
    exact HK.out
  case body =>
    rintro l pre x a' X hl - ⟨⟨i1, i2⟩, i3⟩ ⟨Bs, Bx, hBs, hBx, hbs, hbx, rfl⟩ hlt
    have e : quads (pre ++ [x]) = quads pre ++ [x.1] := by simp [quads]
    have HE := hideQ e
    have HI := hideQ (And.intro i1 (And.intro i2 i3))
    obtain ⟨⟨s0, -⟩, ⟨s1, -⟩⟩ := hbs
    obtain ⟨⟨b0, -⟩, ⟨b1, -⟩⟩ := hbx
    by_cases h2 : x.1.1.1 = 2
    · obtain ⟨hr0, hr1⟩ := x.2.2.2 h2
      obtain ⟨k, hk⟩ := Int.eq_ofNat_of_zero_le hr0
      have hk64 : k < 64 := by omega
      have hk64' : (k : Int) < 64 := by omega
      obtain ⟨⟨c0, c0'⟩, ⟨c1, c1'⟩⟩ := i2 k hk64
      have HF := hideQ (show ∀ n, n < 64 → fillQ (quads (pre ++ [x])) n = if n = k then x.1.2 else fillQ (quads pre) n from fun n _ => by
        rw [e, fillQ_next]
        have : x.1.1 = (2, (n : Int)) ↔ n = k := by
          constructor
          · intro h
            have h3 := congrArg Prod.snd h
            rw [hk] at h3
            simp only at h3
            omega
          · rintro rfl
            exact Prod.ext h2 hk
        by_cases h : n = k
        · rw [if_pos (this.2 h), if_pos h]
        · rw [if_neg (fun h' => h (this.1 h')), if_neg h])
      rw [h2] at s0
      rw [hk] at s1
      clear hr0 hr1 e i1 i2 i3 hseq
      gi_wp2
      obtain ⟨i1, i2, i3⟩ := HI.out
      refine ⟨((KeepsOthers.setCell _ _ _).trans (KeepsOthers.setCell _ _ _)).from _, keepLoc_t (keepLoc_set (by omega) (by omega) _) (keepLoc_set (by omega) (by omega) _), ⟨(i1.other (by omega)).other (by omega), i2.put hk64 x.1.2 HF.out⟩, (i3.setCell (p := ⟨w.heap.size + 1 + 1 + 1, k * 2, none⟩) (by simp; omega) _).setCell (p := ⟨w.heap.size + 1 + 1 + 1, k * 2 + 1, none⟩) (by simp; omega) _⟩
    · have HF := hideQ (show fillQ (quads (pre ++ [x])) = fillQ (quads pre) from funext fun n => by
        rw [e, fillQ_next, if_neg (fun h => h2 (congrArg Prod.fst h))])
      have h2' : (x.1.1.1 == 2) = false := by simp [h2]
      clear e i1 i2 i3 hseq
      gi_wp2
      obtain ⟨i1, i2, i3⟩ := HI.out
      exact ⟨KeepsFrom.refl _ _, KeepLoc.refl _ _ _, ⟨i1, by rw [HF.out]; exact i2⟩, i3⟩
  case done =>
    rintro Dd ys X hD hys ⟨⟨i1, i2⟩, i3⟩ hK
    have hys' : quads ys = treeQ W.pool rs rb := hys
    rw [hys'] at i2
    have hload : (Instr.loadAt 173 (.pointer (some ⟨w.heap.size + 1 + 1 + 1, 0, none⟩))).run Tryz.prog X = .ok (.agg (pgC (fillQ (treeQ W.pool rs rb)))) X := by
      have := run_loadPg i2
      simp [Instr.loadAt, Instr.sureAddr, this]
    have hstore : (storeCells ⟨w.heap.size + 1 + 1, 0, none⟩ (pgC (fillQ (treeQ W.pool rs rb))).toList).run Tryz.prog X = .ok () (X.setRow (w.heap.size + 1 + 1) (pgC (fillQ (treeQ W.pool rs rb)))) := by
      have h1 := run_storeVar_row (P := Tryz.prog) X (w.heap.size + 1 + 1) 173 173 Tryz.zeroCells173 (pgC (fillQ (treeQ W.pool rs rb))) i1 (by rw [pgC_size]; exact pgI) (by rw [zero_size, pgC_size]) (pgC_one _)
      cases hq : Tryz.prog.info? 173 with
      | none => have := pgI; simp [hq] at this
      | some i =>
        have hs : i.size = 128 := by have := pgI; simpa [hq] using this
        simpa [storeVar, sizeOf, typeInfo, hq, Value.cells, hs, pgC_size] using h1
    have hcs := pgC_size (fillQ (treeQ W.pool rs rb))
    generalize hce : pgC (fillQ (treeQ W.pool rs rb)) = cs at *
    have HCE := hideQ hce
    clear hce
    gi_wp2
    refine ⟨fun _ _ => trivial, ?_⟩
    rw [show (Oper.semAt _ _ _).run Tryz.prog X = .ok (.value (.agg cs)) X by simp [execOp, Act.eval, Oper.semAt, hload, Result.andThen], Oper.uponIn_value]
    gi_wp2
    have hK' : (X.setRow (w.heap.size + 1 + 1) cs).heap[Dd]? = some (.deferred (some [])) := (setRow_other X _ Dd cs (by omega)).trans hK
    refine ⟨by simp, .inl ⟨_, _, rfl, run_takeDeferred hK', ?_⟩⟩
    have hb4 : ((X.setRow (w.heap.size + 1 + 1) cs).putObj Dd (.deferred none)).heap[w.heap.size + 1 + 1]? = some (.cells cs 173) := (World.putObj_heap_other (by omega)).trans (setRow_heap X (w.heap.size + 1 + 1) _ cs 173 (0, 0) i1)
    have hl := run_loadVar_row (P := Tryz.prog) _ (w.heap.size + 1 + 1) 173 173 cs (0, 0) _ hb4 pgU rfl (by rw [hcs]; exact pgI)
    refine ⟨.agg cs, ?_, by rw [HCE.out], (below_setRow i3 (by omega) cs).trans (belowK_b (w := w) (Nat.le_refl _) _ Dd _ _ (by omega) hK' rfl rfl)⟩
    simp [results, Tryz.results138]
    exact hl
  case stop =>
    rintro Dd c pre X _ _ h _
    exact h.elim

end Go.Proofs.YtjpbmpjddbekgaaGreat
