/- What impl.TreeTrim answers. -/
import Derived.Test.YtikhipekmlhibaaG21
import Derived.Test.YtikhipekmlhibaaG15
import Derived.Test.YtikhipekmlhibaaG22
namespace Go.Proofs.Ytikhipekmlhibaa
open Go Go.RowKit
set_option linter.unusedVariables false

theorem slots_small {p : PoolD} (h : ∀ i, i < p.n → Free (p.s i) ∨ Fits p (p.s i)) : ∀ k, k ≤ p.n → slotsN p.s k ≤ 24 * k
  | 0, _ => Nat.le_refl _
  | k + 1, hk => by
    have ih := slots_small h k (by omega)
    have hs : slotN (p.s k) ≤ 24 := by
      unfold slotN
      rcases h k (by omega) with hf | hf
      · have h1 := hf.2.1
        have h2 : (p.s k).data.size = 0 := by
          have := hf.2.2
          rw [Go.ByteArray.toList_eq] at this
          have e : (p.s k).data.data = #[] := by simpa using this
          show (p.s k).data.data.size = 0
          rw [e]
          rfl
        omega
      · rcases hf.2 with h2 | h2
        · omega
        · have h3 : (p.s k).data.size = 0 := by
            have := h2.2.1
            rw [Go.ByteArray.toList_eq] at this
            have e : (p.s k).data.data = #[] := by simpa using this
            show (p.s k).data.data.size = 0
            rw [e]
            rfl
          omega
    show slotsN p.s k + slotN (p.s k) ≤ _
    omega
theorem right_small {p : PoolD} (h : Right p) : poolN p ≤ 10000 := by
  have h1 := slots_small h.2.1 p.n (Nat.le_refl _)
  have h2 := ((right_iff p).2 h).2.1
  have h3 := h.1
  unfold poolN
  omega
theorem lay_code {p : PoolD} {xs xb : Int} {n : Nat} {b : Int} {o : OutD} (h : (layP p xs xb n b o).code ≠ 0) : layP p xs xb n b o = treeErr (layP p xs xb n b o).code := by
  unfold layP at h ⊢
  split
  · rfl
  · split
    · rfl
    · rename_i h1 h2
      rw [if_neg h1, if_neg h2] at h
      exact absurd rfl h
theorem lay_ok {p : PoolD} {xs xb : Int} {n : Nat} {b : Int} {o : OutD} (h : (layP p xs xb n b o).code = 0) : layP p xs xb n b o = ⟨(layS p xs xb n b o 2).pool, (layS p xs xb n b o 2).ps, (layS p xs xb n b o 2).pb, oldW p xs xb n 3, 0⟩ := by
  unfold layP at h ⊢
  split
  · rename_i h1
    rw [if_pos h1] at h
    exact absurd h h1
  · split
    · rename_i h1 h2
      rw [if_neg h1, if_pos h2] at h
      exact absurd h h2
    · rfl

/-- A code alone is handed back. -/
theorem err_ret {w wr : World} {R : Nat} {c : Int} (hlo : w.heap.size ≤ R) (hb : Below w.heap.size w wr) :
    NewTree (treeErr c) w (.returned (.agg #[.slice none 0 0, .slice none 0 0, .int .i64 0, .int .i64 0, .slice none 0 0, .int .i64 c])) (put6 wr R (.slice none 0 0) (.slice none 0 0) (.int .i64 0) (.int .i64 0) (.slice none 0 0) (.int .i64 c)) := by
  have t := Turned.put6 wr R (.slice none 0 0) (.slice none 0 0) (.int .i64 0) (.int .i64 0) (.slice none 0 0) (.int .i64 c)
  exact ⟨_, _, _, w.heap.size, w.heap.size, rfl, Nat.le_refl _, by have := hb.size; have := t.size; omega, none_own, RowL.nil _ _, fun k hk => by simp [Value.ownBlock] at hk, hb.trans (t.below (by have := hb.size; omega) (fun k hk => by omega))⟩

theorem startT (w : World) (a0 a1 x0 x1 : Value) (t1 t2 t3 : TypeId) :
    Box2 (((w.alloc (.cells #[a0, a1] t1)).alloc (.cells #[x0, x1] t2)).alloc (.cells #[.slice none 0 0, .slice none 0 0, .int .i64 0, .int .i64 0, .slice none 0 0, .int .i64 0] t3)) w.heap.size a0 a1 ∧
    Box2 (((w.alloc (.cells #[a0, a1] t1)).alloc (.cells #[x0, x1] t2)).alloc (.cells #[.slice none 0 0, .slice none 0 0, .int .i64 0, .int .i64 0, .slice none 0 0, .int .i64 0] t3)) (w.heap.size + 1) x0 x1 ∧
    Box6 (((w.alloc (.cells #[a0, a1] t1)).alloc (.cells #[x0, x1] t2)).alloc (.cells #[.slice none 0 0, .slice none 0 0, .int .i64 0, .int .i64 0, .slice none 0 0, .int .i64 0] t3)) (w.heap.size + 1 + 1) (.slice none 0 0) (.slice none 0 0) (.int .i64 0) (.int .i64 0) (.slice none 0 0) (.int .i64 0) ∧
    Below w.heap.size w (((w.alloc (.cells #[a0, a1] t1)).alloc (.cells #[x0, x1] t2)).alloc (.cells #[.slice none 0 0, .slice none 0 0, .int .i64 0, .int .i64 0, .slice none 0 0, .int .i64 0] t3)) ∧
    (((w.alloc (.cells #[a0, a1] t1)).alloc (.cells #[x0, x1] t2)).alloc (.cells #[.slice none 0 0, .slice none 0 0, .int .i64 0, .int .i64 0, .slice none 0 0, .int .i64 0] t3)).heap.size = w.heap.size + 3 := by
  refine ⟨((Box2.new w a0 a1 t1).below (below_alloc _ _)).below (below_alloc _ _), ?_, ?_, below_next (below_next (below_alloc _ _) (below_alloc _ _)) (below_alloc _ _), by simp⟩
  · have := (Box2.new (w.alloc (.cells #[a0, a1] t1)) x0 x1 t2).below (below_alloc _ (.cells #[.slice none 0 0, .slice none 0 0, .int .i64 0, .int .i64 0, .slice none 0 0, .int .i64 0] t3))
    rw [World.size_alloc] at this
    exact this
  · have := Box6.new ((w.alloc (.cells #[a0, a1] t1)).alloc (.cells #[x0, x1] t2)) (.slice none 0 0) (.slice none 0 0) (.int .i64 0) (.int .i64 0) (.slice none 0 0) (.int .i64 0) t3
    rw [World.size_alloc, World.size_alloc] at this
    exact this

open Classical in
/-- What TreeTrim tells. -/
noncomputable def trimT (p : PoolD) (xs xb page b : Int) : TOutD :=
  if TreeR p xs xb ∧ BornOk xb b then (if PageNo page then (if Nil (pageS p xs xb page.toNat) (pageB p xs xb page.toNat) then treeErr 4 else layP p xs xb page.toNat b ⟨p, 0, 0, 0⟩) else treeErr 8) else treeErr 1
theorem trim_form {p : PoolD} {xs xb page b : Int} (h : ¬ (TreeR p xs xb ∧ BornOk xb b)) : trimT p xs xb page b = treeErr 1 := if_neg h
theorem trim_range {p : PoolD} {xs xb page b : Int} (h : TreeR p xs xb ∧ BornOk xb b) (h2 : ¬ PageNo page) : trimT p xs xb page b = treeErr 8 := (if_pos h).trans (if_neg h2)
theorem trim_none {p : PoolD} {xs xb page b : Int} (h : TreeR p xs xb ∧ BornOk xb b) (h2 : PageNo page) (h3 : Nil (pageS p xs xb page.toNat) (pageB p xs xb page.toNat)) : trimT p xs xb page b = treeErr 4 := ((if_pos h).trans (if_pos h2)).trans (if_pos h3)
theorem trim_lay {p : PoolD} {xs xb page b : Int} (h : TreeR p xs xb ∧ BornOk xb b) (h2 : PageNo page) (h3 : ¬ Nil (pageS p xs xb page.toNat) (pageB p xs xb page.toNat)) : trimT p xs xb page b = layP p xs xb page.toNat b ⟨p, 0, 0, 0⟩ := ((if_pos h).trans (if_pos h2)).trans (if_neg h3)

set_option maxRecDepth 20000 in
set_option maxHeartbeats 4000000 in
theorem implTreeTrim_any (v0 v1 : Value) (lo hi : Nat) (p : PoolD) (xs xb page b : Int) (w : World) (h1 : PoolAt w lo hi v0 v1 p) :
    Calls Try.prog 29 #[.agg #[v0, v1], .agg #[.int .i64 xs, .int .i64 xb], .int .i64 page, .int .i64 b] w (NewTree (trimT p xs xb page b) w) := by
  have Hp := hideT h1
  obtain ⟨a, c, a', c', rfl, rfl⟩ := h1.form
  clear h1
  have hst := startT w (.slice a p.n c) (.slice a' p.hn c') (.int .i64 xs) (.int .i64 xb) 26 33 50
  go_enter Try.func29, Try.ntmps29
  go_wp2_with fail
  generalize ((w.alloc (.cells #[.slice a p.n c, .slice a' p.hn c'] 26)).alloc (.cells #[.int .i64 xs, .int .i64 xb] 33)).alloc (.cells #[.slice none 0 0, .slice none 0 0, .int .i64 0, .int .i64 0, .slice none 0 0, .int .i64 0] 50) = W at hst ⊢
  obtain ⟨hB, hX, hR, hba, hz⟩ := hst
  refine (implTreeRight_any _ _ lo hi p xs xb W (Hp.out.below hba)).mono ?_
  rintro e w1 ⟨⟨t, rfl, ht⟩, hb1⟩
  have HB1 := hideT (hB.below hb1)
  have HX1 := hideT (hX.below hb1)
  have HR1 := hideT (hR.below hb1)
  have hB1 := below_next hba hb1
  have hz1 : w.heap.size + 3 ≤ w1.heap.size := by have := hb1.size; omega
  clear hB hX hR hba hb1 hz
  by_cases hRt : TreeR p xs xb
  · have HRt := hideT hRt
    obtain rfl : t = true := ht.2 hRt
    clear ht hRt
    obtain ⟨⟨y0, y1⟩, ⟨y2, y3⟩⟩ := HX1.out
    go_wp2_with fail
    refine (bornLast_any xs xb b w1).mono ?_
    rintro e w2 ⟨⟨t, rfl, ht⟩, hb2⟩
    have HB2 := hideT (HB1.out.below hb2)
    have HX2 := hideT (HX1.out.below hb2)
    have HR2 := hideT (HR1.out.below hb2)
    have hB2 := below_next hB1 hb2
    have hz2 : w.heap.size + 3 ≤ w2.heap.size := by have := hb2.size; omega
    clear hb2 hB1 HB1 HX1 HR1 hz1 y0 y1 y2 y3
    by_cases hBo : BornOk xb b
    · have HTB := hideT (And.intro HRt.out hBo)
      obtain rfl : t = true := ht.2 hBo
      clear ht hBo
      by_cases hN : PageNo page
      · have HNo := hideT hN
        obtain ⟨n, rfl⟩ := Int.eq_ofNat_of_zero_le hN.1
        have hn64 : n < 64 := by have := hN.2; omega
        clear hN
        obtain ⟨⟨x0, x1⟩, ⟨x2, x3⟩⟩ := HB2.out
        obtain ⟨⟨y0, y1⟩, ⟨y2, y3⟩⟩ := HX2.out
        go_wp2_with (first | (go_at_call 70; refine (pageNumber_any _ _).mono ?_; rintro e w9 ⟨⟨t2, rfl, ht2⟩, rfl⟩; obtain rfl : t2 = true := ht2.2 HNo.out; clear ht2) | fail)
        go_wp2_with fail
        refine (wayTo_any _ lo hi p xs xb n _ (Hp.out.below hB2).1 HRt.out hn64).mono ?_
        rintro e w3 ⟨o, rfl, hro, hb3⟩
        obtain ⟨oa, oc, ho, _⟩ := owns_form hro
        have Hro := hideT hro
        have HB3 := hideT (HB2.out.below hb3)
        have HR3 := hideT (HR2.out.below hb3)
        have hB3 := below_next hB2 hb3
        have hz3 : w.heap.size + 3 ≤ w3.heap.size := by have := hb3.size; omega
        have hz23 := hb3.size
        clear hb3 hro ho x0 x1 x2 x3 y0 y1 y2 y3 HB2 HX2 HR2
        have hal := below_alloc w3 (.cells (wayF (wayV p xs xb n 2 3 o)) 98)
        have HY : Hid ((w3.alloc (.cells (wayF (wayV p xs xb n 2 3 o)) 98)).heap[w3.heap.size]? = some (.cells (wayF (wayV p xs xb n 2 3 o)) 98 (0, 0))) := heap_alloc_last _ _
        have HYc : Hid (Cell (w3.alloc (.cells (wayF (wayV p xs xb n 2 3 o)) 98)) w3.heap.size 38 (.int .i64 (pageS p xs xb n)) ∧ Cell (w3.alloc (.cells (wayF (wayV p xs xb n 2 3 o)) 98)) w3.heap.size 39 (.int .i64 (pageB p xs xb n))) := ⟨cell_of_block HY.out (by rfl), cell_of_block HY.out (by rfl)⟩
        have HB4 := hideT (HB3.out.below hal)
        have HR4 := hideT (HR3.out.below hal)
        have Hro4 := hideT (Hro.out.below hal)
        have hB4 := below_next hB3 hal
        have hz4 : w3.heap.size < (w3.alloc (.cells (wayF (wayV p xs xb n 2 3 o)) 98)).heap.size := by rw [World.size_alloc]; omega
        clear hal HB3 HR3 Hro hB3
        go_upto_region 6 with (first
          | (refine wpList_store_row rfl 98 (.tmp 9) (.tmp 29) rfl w3.heap.size (wayF (wayV p xs xb n 2 3 o)) rfl rfl 98 wayZ (heap_alloc_last _ _) (infoWayF _) (by rw [wayF_size]; rfl) (wayV_one _ _ _ _ _ _ Hro4.out.one) ?_; rw [World.setRow_alloc_new])
          | fail)
        generalize w3.alloc (.cells (wayF (wayV p xs xb n 2 3 o)) 98) = w4 at HY HYc HB4 HR4 Hro4 hB4 hz4 ⊢
        generalize w3.heap.size = Y at HY HYc hz3 hz4 hz23 ⊢
        obtain ⟨⟨y0, y1⟩, ⟨y2, y3⟩⟩ := HYc.out
        obtain ⟨⟨x0, x1⟩, ⟨x2, x3⟩⟩ := HB4.out
        obtain ⟨wd, hwd⟩ := Option.map_eq_some_iff.1 rowWay
        have HU := hideT hwd
        clear hwd
        by_cases hnl : Nil (pageS p xs xb n) (pageB p xs xb n)
        · have HNl := hideT hnl
          rw [hnl.1] at y0
          rw [hnl.2] at y2
          clear hnl
          obtain ⟨⟨r0, r1⟩, ⟨r2, r3⟩, ⟨r4, r5⟩, ⟨r6, r7⟩, ⟨r8, r9⟩, ⟨r10, r11⟩⟩ := HR4.out
          try go_wp2
          have HR8 := HR4.out.put (.slice none 0 0) (.slice none 0 0) (.int .i64 0) (.int .i64 0) (.slice none 0 0) (.int .i64 4)
          have hpr := err_ret (R := w.heap.size + 1 + 1) (c := 4) (by omega) hB4
          rw [trim_none HTB.out HNo.out HNl.out]
          exact bodyPost_ret (v := .agg #[.slice none 0 0, .slice none 0 0, .int .i64 0, .int .i64 0, .slice none 0 0, .int .i64 4]) (by simp [results, Try.results29, go_sem, HR8.1.1, HR8.2.1.1, HR8.2.2.1.1, HR8.2.2.2.1.1, HR8.2.2.2.2.1.1, HR8.2.2.2.2.2.1]) rfl hpr
        · have HNl := hideT hnl
          rcases not_nil_bool hnl with e0 | ⟨e0, e1⟩
          all_goals
            clear hnl
            go_wp2_with (first
              | (refine wpList_load_row rfl 98 (.tmp 9) rfl Y rfl 98 (wayF (wayV p xs xb n 2 3 o)) (0, 0) _ HY.out HU.out.1 (by have := HU.out.2; cases wd <;> exact this) (infoWayF _) ?_)
              | fail)
            refine (layAnew_any _ _ lo hi p p xs xb 0 0 b n o w4 (Hp.out.below hB4) hn64 (by have := right_small HRt.out.1; omega) (Hro4.out.mono (Nat.zero_le _))).mono ?_
            rintro e w5 (⟨hc, rfl, hb5⟩ | ⟨hc, s0, s1, rfl, ho5, hb5⟩)
            · have hE : trimT p xs xb (n : Int) b = treeErr (layP p xs xb n b ⟨p, 0, 0, 0⟩).code := (trim_lay HTB.out HNo.out HNl.out).trans (lay_code hc)
              have HE := hideT hE
              have HR5 := hideT (HR4.out.below hb5)
              have hB5 := below_next hB4 hb5
              clear hc hE hb5 x0 x1 x2 x3 y0 y1 y2 y3 HB4 HR4 HY HYc
              generalize (layP p xs xb n b ⟨p, 0, 0, 0⟩).code = cc at HE ⊢
              obtain ⟨⟨r0, r1⟩, ⟨r2, r3⟩, ⟨r4, r5⟩, ⟨r6, r7⟩, ⟨r8, r9⟩, ⟨r10, r11⟩⟩ := HR5.out
              try go_wp2
              have HR8 := HR5.out.put (.slice none 0 0) (.slice none 0 0) (.int .i64 0) (.int .i64 0) (.slice none 0 0) (.int .i64 cc)
              have hpr := err_ret (R := w.heap.size + 1 + 1) (c := cc) (by omega) hB5
              rw [HE.out]
              exact bodyPost_ret (v := .agg #[.slice none 0 0, .slice none 0 0, .int .i64 0, .int .i64 0, .slice none 0 0, .int .i64 cc]) (by simp [results, Try.results29, go_sem, HR8.1.1, HR8.2.1.1, HR8.2.2.1.1, HR8.2.2.2.1.1, HR8.2.2.2.2.1.1, HR8.2.2.2.2.2.1]) rfl hpr
            · obtain ⟨oa2, oc2, rfl, _⟩ := owns_form Hro4.out
              have hE : trimT p xs xb (n : Int) b = ⟨(layS p xs xb n b ⟨p, 0, 0, 0⟩ 2).pool, (layS p xs xb n b ⟨p, 0, 0, 0⟩ 2).ps, (layS p xs xb n b ⟨p, 0, 0, 0⟩ 2).pb, oldW p xs xb n 3, 0⟩ := (trim_lay HTB.out HNo.out HNl.out).trans (lay_ok hc)
              have HE := hideT hE
              have HR5 := hideT (HR4.out.below hb5)
              have Hro5 := hideT (Hro4.out.below hb5)
              have Ho5 := hideT ho5
              have hB5 := below_next hB4 hb5
              have hz5 := hb5.size
              clear hc hE hb5 ho5 x0 x1 x2 x3 y0 y1 y2 y3 HB4 HR4 HY HYc
              generalize layS p xs xb n b ⟨p, 0, 0, 0⟩ 2 = od at HE Ho5 ⊢
              obtain ⟨a5, c5, a6, c6, rfl, rfl⟩ := Ho5.out.form
              obtain ⟨⟨r0, r1⟩, ⟨r2, r3⟩, ⟨r4, r5⟩, ⟨r6, r7⟩, ⟨r8, r9⟩, ⟨r10, r11⟩⟩ := HR5.out
              try go_wp2
              have HR8 := HR5.out.put (.slice a5 od.pool.n c5) (.slice a6 od.pool.hn c6) (.int .i64 od.ps) (.int .i64 od.pb) (.slice oa2 (oldW p xs xb n 3).length oc2) (.int .i64 0)
              have htp := Turned.put6 w5 (w.heap.size + 1 + 1) (.slice a5 od.pool.n c5) (.slice a6 od.pool.hn c6) (.int .i64 od.ps) (.int .i64 od.pb) (.slice oa2 (oldW p xs xb n 3).length oc2) (.int .i64 0)
              rw [HE.out]
              exact bodyPost_ret (v := .agg #[.slice a5 od.pool.n c5, .slice a6 od.pool.hn c6, .int .i64 od.ps, .int .i64 od.pb, .slice oa2 (oldW p xs xb n 3).length oc2, .int .i64 0]) (by simp [results, Try.results29, go_sem, HR8.1.1, HR8.2.1.1, HR8.2.2.1.1, HR8.2.2.2.1.1, HR8.2.2.2.2.1.1, HR8.2.2.2.2.2.1]) rfl ⟨_, _, _, w4.heap.size, w5.heap.size, rfl, by omega, htp.size, Ho5.out.turned htp (by intro k hk; omega), ((((((Hro5.out.put (by omega) _).put (by omega) _).put (by omega) _).put (by omega) _).put (by omega) _).put (by omega) _).mono (by omega), fun k hk => Or.inl (Hro4.out.lt hk).2, hB5.trans (htp.below (B := w.heap.size) hB5.size (by intro k hk; omega))⟩
      · have HNo := hideT hN
        clear hN
        obtain ⟨⟨r0, r1⟩, ⟨r2, r3⟩, ⟨r4, r5⟩, ⟨r6, r7⟩, ⟨r8, r9⟩, ⟨r10, r11⟩⟩ := HR2.out
        go_wp2_with (first | (go_at_call 70; refine (pageNumber_any _ _).mono ?_; rintro e w9 ⟨⟨t2, rfl, ht2⟩, rfl⟩; obtain rfl : t2 = false := bool_no ht2 HNo.out; clear ht2) | fail)
        obtain ⟨⟨r0, r1⟩, ⟨r2, r3⟩, ⟨r4, r5⟩, ⟨r6, r7⟩, ⟨r8, r9⟩, ⟨r10, r11⟩⟩ := HR2.out
        try go_wp2
        have HR8 := HR2.out.put (.slice none 0 0) (.slice none 0 0) (.int .i64 0) (.int .i64 0) (.slice none 0 0) (.int .i64 8)
        have hpr := err_ret (R := w.heap.size + 1 + 1) (c := 8) (by omega) hB2
        rw [trim_range HTB.out HNo.out]
        exact bodyPost_ret (v := .agg #[.slice none 0 0, .slice none 0 0, .int .i64 0, .int .i64 0, .slice none 0 0, .int .i64 8]) (by simp [results, Try.results29, go_sem, HR8.1.1, HR8.2.1.1, HR8.2.2.1.1, HR8.2.2.2.1.1, HR8.2.2.2.2.1.1, HR8.2.2.2.2.2.1]) rfl hpr
    · have HBo := hideT hBo
      obtain rfl : t = false := bool_no ht hBo
      clear ht hBo
      obtain ⟨⟨r0, r1⟩, ⟨r2, r3⟩, ⟨r4, r5⟩, ⟨r6, r7⟩, ⟨r8, r9⟩, ⟨r10, r11⟩⟩ := HR2.out
      try go_wp2
      have HR8 := HR2.out.put (.slice none 0 0) (.slice none 0 0) (.int .i64 0) (.int .i64 0) (.slice none 0 0) (.int .i64 1)
      have hpr := err_ret (R := w.heap.size + 1 + 1) (c := 1) (by omega) hB2
      rw [trim_form (fun h => HBo.out h.2)]
      exact bodyPost_ret (v := .agg #[.slice none 0 0, .slice none 0 0, .int .i64 0, .int .i64 0, .slice none 0 0, .int .i64 1]) (by simp [results, Try.results29, go_sem, HR8.1.1, HR8.2.1.1, HR8.2.2.1.1, HR8.2.2.2.1.1, HR8.2.2.2.2.1.1, HR8.2.2.2.2.2.1]) rfl hpr
  · have HRt := hideT hRt
    obtain rfl : t = false := bool_no ht hRt
    clear ht hRt
    obtain ⟨⟨r0, r1⟩, ⟨r2, r3⟩, ⟨r4, r5⟩, ⟨r6, r7⟩, ⟨r8, r9⟩, ⟨r10, r11⟩⟩ := HR1.out
    try go_wp2
    have HR8 := HR1.out.put (.slice none 0 0) (.slice none 0 0) (.int .i64 0) (.int .i64 0) (.slice none 0 0) (.int .i64 1)
    have hpr := err_ret (R := w.heap.size + 1 + 1) (c := 1) (by omega) hB1
    rw [trim_form (fun h => HRt.out h.1)]
    exact bodyPost_ret (v := .agg #[.slice none 0 0, .slice none 0 0, .int .i64 0, .int .i64 0, .slice none 0 0, .int .i64 1]) (by simp [results, Try.results29, go_sem, HR8.1.1, HR8.2.1.1, HR8.2.2.1.1, HR8.2.2.2.1.1, HR8.2.2.2.2.1.1, HR8.2.2.2.2.2.1]) rfl hpr

end Go.Proofs.Ytikhipekmlhibaa
