/- What the law FnTree answers (the walk). -/
import Derived.Test.YtikhipekmlhibaaG30
import Derived.Test.YtikhipekmlhibaaG33
namespace Go.Proofs.Ytikhipekmlhibaa
open Go Go.RowKit
set_option linter.unusedVariables false

theorem bytes_grown {w w' : World} {a : Option Addr} {n : Nat} (h : BytesAt w w.heap.size a n) (t : Below w.heap.size w w') : BytesAt w' w'.heap.size a n := fun h0 => by
  obtain ⟨b, off, ha, hb, hc⟩ := h h0
  refine ⟨b, off, ha, Nat.lt_of_lt_of_le hb t.size, fun i hi => ?_⟩
  obtain ⟨x, hx, hr⟩ := hc i hi
  exact ⟨x, (t.cell (lt_of_cell hx)).trans hx, hr⟩
theorem RowL.at0 {w : World} {base : Nat} {v : Value} {l : List (Int × Int)} (h : RowL w base v l) (hm : l.length ≤ 1000) : PtrsAt w 0 w.heap.size v l.length (fstL l) (sndL l) := by
  obtain ⟨b, h1, h2⟩ := h.own (by unfold maxLen; omega)
  exact h1.at (fun h0 => ⟨Nat.zero_le _, (h2 h0).2.2⟩)
/-- A variable that holds a tree's answer, to be read. -/
structure TreeAt (w : World) (X : Nat) (v0 v1 vo : Value) (o : TOutD) : Prop where
  box : Box6 w X v0 v1 (.int .i64 o.rs) (.int .i64 o.rb) vo (.int .i64 o.code)
  pool : ∃ lo hi, PoolAt w lo hi v0 v1 o.pool
  row : ∃ lo hi, PtrsAt w lo hi vo o.old.length (fstL o.old) (sndL o.old)
theorem TreeAt.below {w w' : World} {X : Nat} {v0 v1 vo : Value} {o : TOutD} (h : TreeAt w X v0 v1 vo o) (t : Below w.heap.size w w') : TreeAt w' X v0 v1 vo o := by
  obtain ⟨lo, hi, h1⟩ := h.pool
  obtain ⟨lo', hi', h2⟩ := h.row
  exact ⟨h.box.below t, ⟨lo, hi, h1.below t⟩, ⟨lo', hi', h2.below t⟩⟩
theorem treeAt_new {w w2 : World} {v0 v1 vo : Value} {o : TOutD} {t : TypeId} (h : TreeMem w2 w.heap.size w2.heap.size v0 v1 vo o.pool o.old.length (fstL o.old) (sndL o.old)) : TreeAt (w2.alloc (.cells #[v0, v1, .int .i64 o.rs, .int .i64 o.rb, vo, .int .i64 o.code] t)) w2.heap.size v0 v1 vo o :=
  ⟨Box6.new _ _ _ _ _ _ _ _, ⟨_, _, h.pool.below (below_alloc _ _)⟩, ⟨_, _, h.row.below (below_alloc _ _)⟩⟩

/-- Sixteen bytes that were made ahead of a call, as a text. -/
theorem zconv_later {w0 w1 : World} (h : Below (w0.alloc (.cells (zeros #[.int .u8 0] 16) 5)).heap.size (w0.alloc (.cells (zeros #[.int .u8 0] 16) 5)) w1) : (convert 22 9 (.slice (some ⟨w0.heap.size, 0, none⟩) 16 16)).run Try.prog w1 = .ok (.string zero16) w1 :=
  run_convert_bytes_arg (P := Try.prog) _ 22 5 (by kernel_rfl) (by kernel_rfl) w0.heap.size 0 16 16 [0, 0, 0, 0, 0, 0, 0, 0, 0, 0, 0, 0, 0, 0, 0, 0] rfl (fun i hi => by
    have := (new_cell w0 #[.int .u8 0] 16 i 0 5 hi (by simp)).1
    rw [Nat.zero_add]
    have e : ([0, 0, 0, 0, 0, 0, 0, 0, 0, 0, 0, 0, 0, 0, 0, 0] : List Int).getD i 0 = 0 := by
      rcases i with _ | _ | _ | _ | _ | _ | _ | _ | _ | _ | _ | _ | _ | _ | _ | _ | k
      all_goals first | rfl | omega
    rw [e]
    have h2 : (w0.alloc (.cells (zeros #[.int .u8 0] 16) 5)).cell? ⟨w0.heap.size, i, none⟩ = some (.int .u8 0) := by simpa using this
    exact (h.cell (lt_of_cell h2)).trans h2) 9 (by kernel_rfl)

set_option maxRecDepth 20000 in
set_option maxHeartbeats 8000000 in
theorem fnTree_walk (a0 a1 : Option Addr) (n0 c0 n1 c1 : Nat) (w : World) (hb0 : BytesAt w w.heap.size a0 n0) (hb1 : BytesAt w w.heap.size a1 n1) (hc0 : n0 ≤ c0) (hc1 : n1 ≤ c1) (hm0 : n0 ≤ maxLen) (hm1 : n1 ≤ maxLen) :
    Calls Try.prog 4 #[.slice a0 n0 c0, .slice a1 n1 c1] w fun e w' => e = .returned (.bool true) ∧ Below w.heap.size w w' := by
  have Hb0 := hideT hb0
  have Hb1 := hideT hb1
  unfold maxLen at hm0 hm1
  clear hb0 hb1
  go_enter Try.func4, Try.ntmps4
  by_cases hn0 : (1048576 : Int) < n0
  · go_wp2
    go_ret
    exact ⟨rfl, Below.refl _ _⟩
  by_cases hn1 : (1048576 : Int) < n1
  · go_wp2
    go_ret
    exact ⟨rfl, Below.refl _ _⟩
  go_wp2_with fail
  refine (drawTreeWrite_any a0 n0 c0 w Hb0.out (by omega) hc0).mono ?_
  rintro e w1 ⟨q, v0, v1, rs, rb, pg, d, bt, rfl, ho1, hqN, hb1⟩
  obtain ⟨qa, qc, qa', qc', rfl, rfl⟩ := ho1.form
  have b1 := below_alloc w1 (.cells #[.slice qa q.n qc, .slice qa' q.hn qc'] 26)
  have b2 := below_alloc (w1.alloc (.cells #[.slice qa q.n qc, .slice qa' q.hn qc'] 26)) (.cells #[.int .i64 rs, .int .i64 rb] 33)
  have hC := below_next b1 b2
  have HP2 := hideT ((Box2.new w1 (.slice qa q.n qc) (.slice qa' q.hn qc') 26).below b2)
  have hr2 := Box2.new (w1.alloc (.cells #[.slice qa q.n qc, .slice qa' q.hn qc'] 26)) (.int .i64 rs) (.int .i64 rb) 33
  rw [World.size_alloc] at hr2
  have HR2 := hideT hr2
  have Hq2 := hideT (ho1.at.below hC)
  have hB2 := below_next hb1 hC
  clear hr2 b1 b2 hC ho1 hb1
  go_upto_region 4 with fail
  generalize (w1.alloc (.cells #[.slice qa q.n qc, .slice qa' q.hn qc'] 26)).alloc (.cells #[.int .i64 rs, .int .i64 rb] 33) = w2 at HP2 HR2 Hq2 hB2 ⊢
  generalize w1.heap.size = P at HP2 HR2 Hq2 ⊢
  have hol := (write_small q rs rb pg d bt).2
  have HF := hideT (write_facts (p := q) (xs := rs) (xb := rb) (page := pg) (b := bt) (d := d))
  have IM := hideT (fun v0 v1 lo hi w h => implTreeWrite_any v0 v1 lo hi q rs rb pg bt d w h)
  have SP := hideT (fun v0 v1 lo hi w h => specTreeWrite_any v0 v1 lo hi q rs rb pg bt d w h)
  generalize writeT q rs rb pg d bt = o at hol HF IM SP
  obtain ⟨⟨x0, x1⟩, ⟨x2, x3⟩⟩ := HP2.out
  obtain ⟨⟨y0, y1⟩, ⟨y2, y3⟩⟩ := HR2.out
  go_wp2_with fail
  refine (IM.out _ _ _ _ _ Hq2.out).mono ?_
  rintro e w3 hnt
  obtain ⟨s0, s1, so, rfl, hm3, hb3⟩ := hnt.mem hol
  clear hnt
  obtain ⟨ia, ic', ia', ic2, iao, ico, rfl, rfl, rfl⟩ := hm3.form
  have hal3 := below_alloc w3 (.cells #[.slice ia o.pool.n ic', .slice ia' o.pool.hn ic2, .int .i64 o.rs, .int .i64 o.rb, .slice iao o.old.length ico, .int .i64 o.code] 50)
  have hC := below_next hb3 hal3
  have HX4 := hideT (treeAt_new (t := 50) hm3)
  have HP4 := hideT (HP2.out.below hC)
  have HR4 := hideT (HR2.out.below hC)
  have Hq4 := hideT (Hq2.out.below hC)
  have hB4 := below_next hB2 hC
  clear hm3 hb3 hal3 hC HP2 HR2 Hq2 hB2 x0 x1 x2 x3 y0 y1 y2 y3
  go_upto_region 5 with fail
  generalize w3.alloc (.cells #[.slice ia o.pool.n ic', .slice ia' o.pool.hn ic2, .int .i64 o.rs, .int .i64 o.rb, .slice iao o.old.length ico, .int .i64 o.code] 50) = w4 at HX4 HP4 HR4 Hq4 hB4 ⊢
  generalize w3.heap.size = X at HX4 ⊢
  obtain ⟨⟨x0, x1⟩, ⟨x2, x3⟩⟩ := HP4.out
  obtain ⟨⟨y0, y1⟩, ⟨y2, y3⟩⟩ := HR4.out
  go_wp2_with fail
  refine (SP.out _ _ _ _ _ Hq4.out).mono ?_
  rintro e w5 hnt
  obtain ⟨s0, s1, so, rfl, hm5, hb5⟩ := hnt.mem hol
  clear hnt
  obtain ⟨ja, jc, ja', jc2, jao, jco, rfl, rfl, rfl⟩ := hm5.form
  have hal5 := below_alloc w5 (.cells #[.slice ja o.pool.n jc, .slice ja' o.pool.hn jc2, .int .i64 o.rs, .int .i64 o.rb, .slice jao o.old.length jco, .int .i64 o.code] 50)
  have hC := below_next hb5 hal5
  have HY6 := hideT (treeAt_new (t := 50) hm5)
  have HX6 := hideT (HX4.out.below hC)
  have HP6 := hideT (HP4.out.below hC)
  have HR6 := hideT (HR4.out.below hC)
  have Hq6 := hideT (Hq4.out.below hC)
  have hB6 := below_next hB4 hC
  clear hm5 hb5 hal5 hC HX4 HP4 HR4 Hq4 hB4 x0 x1 x2 x3 y0 y1 y2 y3
  go_upto_region 6 with fail
  generalize w5.alloc (.cells #[.slice ja o.pool.n jc, .slice ja' o.pool.hn jc2, .int .i64 o.rs, .int .i64 o.rb, .slice jao o.old.length jco, .int .i64 o.code] 50) = w6 at HY6 HX6 HP6 HR6 Hq6 hB6 ⊢
  generalize w5.heap.size = Y at HY6 ⊢
  have e1 : (o.code != o.code) = false := by simp
  have e2 : (o.rs != o.rs) = false := by simp
  have e3 : (o.rb != o.rb) = false := by simp
  have e4 : (((o.old.length : Nat) : Int) != ((o.old.length : Nat) : Int)) = false := by simp
  obtain ⟨⟨x0, x1⟩, ⟨x2, x3⟩, ⟨x4, x5⟩, ⟨x6, x7⟩, ⟨x8, x9⟩, ⟨x10, x11⟩⟩ := HX6.out.box
  obtain ⟨⟨y0, y1⟩, ⟨y2, y3⟩, ⟨y4, y5⟩, ⟨y6, y7⟩, ⟨y8, y9⟩, ⟨y10, y11⟩⟩ := HY6.out.box
  go_wp2_with fail
  obtain ⟨lo6, hi6, hx6⟩ := HX6.out.pool
  obtain ⟨lo7, hi7, hy6⟩ := HY6.out.pool
  refine (lwPool_same _ _ _ _ lo6 hi6 lo7 hi7 o.pool w6 hx6 hy6).mono ?_
  rintro e w7 ⟨rfl, hb7⟩
  have HX7 := hideT (HX6.out.below hb7)
  have HY7 := hideT (HY6.out.below hb7)
  have HP7 := hideT (HP6.out.below hb7)
  have HR7 := hideT (HR6.out.below hb7)
  have Hq7 := hideT (Hq6.out.below hb7)
  have hB7 := below_next hB6 hb7
  clear hx6 hy6 hb7 HX6 HY6 HP6 HR6 Hq6 hB6 x0 x1 x2 x3 x4 x5 x6 x7 x8 x9 x10 x11 y0 y1 y2 y3 y4 y5 y6 y7 y8 y9 y10 y11
  obtain ⟨⟨x0, x1⟩, ⟨x2, x3⟩, ⟨x4, x5⟩, ⟨x6, x7⟩, ⟨x8, x9⟩, ⟨x10, x11⟩⟩ := HX7.out.box
  obtain ⟨⟨y0, y1⟩, ⟨y2, y3⟩, ⟨y4, y5⟩, ⟨y6, y7⟩, ⟨y8, y9⟩, ⟨y10, y11⟩⟩ := HY7.out.box
  go_upto_if 77 with fail
  clear y0 y1 y2 y3 y4 y5 y6 y7 y8 y9 y10 y11 HY7
  as_aux_lemma =>
  go_cut [4] (fun v wc => v = .bool false ∧ Below w.heap.size w wc)
  case first =>
    as_aux_lemma =>
    by_cases hc : o.code = 0
    · as_aux_lemma =>
      have f0 : (o.code == 0) = true := by simp [hc]
      obtain ⟨hT, hT1, hT2, hRd, hS1, hS2, hG1, hG2⟩ := HF.out hc
      have HT := hideT hT
      have HT1 := hideT hT1
      have HT2 := hideT hT2
      have HRd := hideT hRd
      have HS1 := hideT hS1
      have HS2 := hideT hS2
      have HG := hideT (And.intro hG1 hG2)
      clear hc hT hT1 hT2 hRd hS1 hS2 hG1 hG2 HF
      obtain ⟨loX, hiX, hpx⟩ := HX7.out.pool
      have HpX := hideT hpx
      obtain ⟨loO, hiO, hrx⟩ := HX7.out.row
      have HrX := hideT hrx
      clear hpx hrx
      obtain ⟨⟨z0, z1⟩, ⟨z2, z3⟩⟩ := HP7.out
      obtain ⟨⟨u0, u1⟩, ⟨u2, u3⟩⟩ := HR7.out
      go_upto_region 9 with fail
      go_region_held3 (fun w' => w'.cell? ⟨P, 0, none⟩ = some (.slice qa q.n qc) ∧ w'.cell? ⟨P, 1, none⟩ = some (.slice qa' q.hn qc') ∧ w'.cell? ⟨P + 1, 0, none⟩ = some (.int .i64 rs) ∧ w'.cell? ⟨P + 1, 1, none⟩ = some (.int .i64 rb) ∧ w'.cell? ⟨X, 0, none⟩ = some (.slice ia o.pool.n ic') ∧ w'.cell? ⟨X, 1, none⟩ = some (.slice ia' o.pool.hn ic2) ∧ w'.cell? ⟨X, 2, none⟩ = some (.int .i64 o.rs) ∧ w'.cell? ⟨X, 3, none⟩ = some (.int .i64 o.rb) ∧ w'.cell? ⟨X, 4, none⟩ = some (.slice iao o.old.length ico)) (go_keep)
        (first
          | (go_at_call 23
             refine (implTreeRead_any _ _ loX hiX o.pool o.rs o.rb pg _ ?_).mono ?_
             (first | exact HpX.out.below (Below.refl _ _).drew | exact HpX.out | exact HpX.out.below hC1)
             rintro e wn ⟨⟨dd, rfl, hdd⟩, hbn⟩
             obtain rfl : dd = d := HRd.out dd hdd
             clear hdd
             have hC1 : Below w7.heap.size w7 wn := (by first | exact hbn | exact below_undrew hbn | exact below_next hC1 hbn)
             have hPn := HP7.out.below hC1
             have kp0 := hPn.1.1
             have kp1 := hPn.2.1
             have hRn := HR7.out.below hC1
             have kr0 := hRn.1.1
             have kr1 := hRn.2.1
             have hXn := HX7.out.box.below hC1
             have kx0 := hXn.1.1
             have kx1 := hXn.2.1.1
             have kx2 := hXn.2.2.1.1
             have kx3 := hXn.2.2.2.1.1
             have kx4 := hXn.2.2.2.2.1.1)
          | (go_at_call 24
             refine (lwSame_known _ _ _ _ _ _ _ _ _ _ ?_).mono ?_
             (first | exact ⟨_, _, _, _, q, o.pool, Hq7.out.below hC1, HpX.out.below hC1, HT.out, HT1.out, HS1.out⟩ | exact ⟨_, _, _, _, q, o.pool, Hq7.out.below hC1, HpX.out.below hC1, HT.out, HT2.out, HS2.out⟩)
             rintro e wn ⟨rfl, hbn⟩
             have hC1 : Below w7.heap.size w7 wn := (by first | exact below_next hC1 hbn | exact below_undrew hbn | exact hbn)
             have hPn := HP7.out.below hC1
             have kp0 := hPn.1.1
             have kp1 := hPn.2.1
             have hRn := HR7.out.below hC1
             have kr0 := hRn.1.1
             have kr1 := hRn.2.1
             have hXn := HX7.out.box.below hC1
             have kx0 := hXn.1.1
             have kx1 := hXn.2.1.1
             have kx2 := hXn.2.2.1.1
             have kx3 := hXn.2.2.2.1.1
             have kx4 := hXn.2.2.2.2.1.1)
          | (go_at_call 26
             refine (specTreePtrs_any _ _ _ _ q rs rb _ (Hq7.out.below hC1)).mono ?_
             rintro e wn ⟨v1', l1, rfl, hl1, hr1, hbn⟩
             obtain rfl := hl1.1 HT.out
             obtain ⟨la1, lc1, rfl, _⟩ := owns_form hr1
             have hR1 := hr1.at0 (by have := treeL_len q rs rb; omega)
             have hC1 : Below w7.heap.size w7 wn := (by first | exact below_next hC1 hbn)
             have hPn := HP7.out.below hC1
             have kp0 := hPn.1.1
             have kp1 := hPn.2.1
             have hRn := HR7.out.below hC1
             have kr0 := hRn.1.1
             have kr1 := hRn.2.1
             have hXn := HX7.out.box.below hC1
             have kx0 := hXn.1.1
             have kx1 := hXn.2.1.1
             have kx2 := hXn.2.2.1.1
             have kx3 := hXn.2.2.2.1.1
             have kx4 := hXn.2.2.2.2.1.1)
          | (go_at_call 27
             refine (implTreePtrs_any _ _ _ _ o.pool o.rs o.rb _ (HpX.out.below hC1)).mono ?_
             rintro e wn ⟨v2', l2, rfl, hl2, hr2, hbn⟩
             obtain rfl := hl2.1 HT1.out
             obtain ⟨la2, lc2, rfl, _⟩ := owns_form hr2
             have hR2 := hr2.at0 (by have := treeL_len o.pool o.rs o.rb; omega)
             have hR1' := hR1.below hbn
             have hC1 : Below w7.heap.size w7 wn := (by first | exact below_next hC1 hbn)
             have hPn := HP7.out.below hC1
             have kp0 := hPn.1.1
             have kp1 := hPn.2.1
             have hRn := HR7.out.below hC1
             have kr0 := hRn.1.1
             have kr1 := hRn.2.1
             have hXn := HX7.out.box.below hC1
             have kx0 := hXn.1.1
             have kx1 := hXn.2.1.1
             have kx2 := hXn.2.2.1.1
             have kx3 := hXn.2.2.2.1.1
             have kx4 := hXn.2.2.2.2.1.1)
          | (go_at_call 25
             refine (lwGone_any _ _ _ (treeL q rs rb) (treeL o.pool o.rs o.rb) o.old _ _ _ _ _ _ _ hR1' hR2 (HrX.out.below hC1) (by have := treeL_len q rs rb; omega) HG.out.1 HG.out.2).mono ?_
             rintro e wn ⟨rfl, hbn⟩
             have hC1 : Below w7.heap.size w7 wn := (by first | exact below_next hC1 hbn)
             have hPn := HP7.out.below hC1
             have kp0 := hPn.1.1
             have kp1 := hPn.2.1
             have hRn := HR7.out.below hC1
             have kr0 := hRn.1.1
             have kr1 := hRn.2.1
             have hXn := HX7.out.box.below hC1
             have kx0 := hXn.1.1
             have kx1 := hXn.2.1.1
             have kx2 := hXn.2.2.1.1
             have kx3 := hXn.2.2.2.1.1
             have kx4 := hXn.2.2.2.2.1.1))
      go_wp2
      go_meet
      case rel => exact ⟨rfl, below_next hB7 hC1⟩
    · as_aux_lemma =>
      have f0 : (o.code == 0) = false := by simp [hc]
      go_wp2
      go_meet
      case rel => exact ⟨rfl, hB7⟩
  case rest =>
    obtain ⟨rfl, hB8⟩ := hcut
    obtain ⟨wn8, rfl⟩ : ∃ x, x = wc := ⟨_, rfl⟩
    clear HX7 HP7 HR7 Hq7 hB7 x0 x1 x2 x3 x4 x5 x6 x7 x8 x9 x10 x11 HF IM SP e1 e2 e3 e4 hol
    as_aux_lemma =>
    go_wp2_with fail
    refine (drawTreeTrim_any a1 n1 c1 wn8 (bytes_grown Hb1.out hB8) (by omega) hc1).mono ?_
    rintro e w1 ⟨q, v0, v1, rs, rb, pg, bt, rfl, ho1, hqN, hb1⟩
    obtain ⟨qa, qc, qa', qc', rfl, rfl⟩ := ho1.form
    have b1 := below_alloc w1 (.cells #[.slice qa q.n qc, .slice qa' q.hn qc'] 26)
    have b2 := below_alloc (w1.alloc (.cells #[.slice qa q.n qc, .slice qa' q.hn qc'] 26)) (.cells #[.int .i64 rs, .int .i64 rb] 33)
    have hC := below_next b1 b2
    have HP2 := hideT ((Box2.new w1 (.slice qa q.n qc) (.slice qa' q.hn qc') 26).below b2)
    have hr2 := Box2.new (w1.alloc (.cells #[.slice qa q.n qc, .slice qa' q.hn qc'] 26)) (.int .i64 rs) (.int .i64 rb) 33
    rw [World.size_alloc] at hr2
    have HR2 := hideT hr2
    have Hq2 := hideT (ho1.at.below hC)
    have hB2 := below_next (below_next hB8 hb1) hC
    clear hr2 b1 b2 hC ho1 hb1 hB8
    go_upto_region 12 with fail
    generalize (w1.alloc (.cells #[.slice qa q.n qc, .slice qa' q.hn qc'] 26)).alloc (.cells #[.int .i64 rs, .int .i64 rb] 33) = w2 at HP2 HR2 Hq2 hB2 ⊢
    generalize w1.heap.size = P at HP2 HR2 Hq2 ⊢
    have hol := (trim_small q rs rb pg bt).2
    have HF := hideT (trim_facts (p := q) (xs := rs) (xb := rb) (page := pg) (b := bt))
    have IM := hideT (fun v0 v1 lo hi w h => implTreeTrim_any v0 v1 lo hi q rs rb pg bt w h)
    have SP := hideT (fun v0 v1 lo hi w h => specTreeTrim_any v0 v1 lo hi q rs rb pg bt w h)
    generalize trimT q rs rb pg bt = o at hol HF IM SP
    obtain ⟨⟨x0, x1⟩, ⟨x2, x3⟩⟩ := HP2.out
    obtain ⟨⟨y0, y1⟩, ⟨y2, y3⟩⟩ := HR2.out
    go_wp2_with fail
    refine (IM.out _ _ _ _ _ Hq2.out).mono ?_
    rintro e w3 hnt
    obtain ⟨s0, s1, so, rfl, hm3, hb3⟩ := hnt.mem hol
    clear hnt
    obtain ⟨ia, ic', ia', ic2, iao, ico, rfl, rfl, rfl⟩ := hm3.form
    have hal3 := below_alloc w3 (.cells #[.slice ia o.pool.n ic', .slice ia' o.pool.hn ic2, .int .i64 o.rs, .int .i64 o.rb, .slice iao o.old.length ico, .int .i64 o.code] 50)
    have hC := below_next hb3 hal3
    have HX4 := hideT (treeAt_new (t := 50) hm3)
    have HP4 := hideT (HP2.out.below hC)
    have HR4 := hideT (HR2.out.below hC)
    have Hq4 := hideT (Hq2.out.below hC)
    have hB4 := below_next hB2 hC
    clear hm3 hb3 hal3 hC HP2 HR2 Hq2 hB2 x0 x1 x2 x3 y0 y1 y2 y3
    go_upto_region 13 with fail
    generalize w3.alloc (.cells #[.slice ia o.pool.n ic', .slice ia' o.pool.hn ic2, .int .i64 o.rs, .int .i64 o.rb, .slice iao o.old.length ico, .int .i64 o.code] 50) = w4 at HX4 HP4 HR4 Hq4 hB4 ⊢
    generalize w3.heap.size = X at HX4 ⊢
    obtain ⟨⟨x0, x1⟩, ⟨x2, x3⟩⟩ := HP4.out
    obtain ⟨⟨y0, y1⟩, ⟨y2, y3⟩⟩ := HR4.out
    go_wp2_with fail
    refine (SP.out _ _ _ _ _ Hq4.out).mono ?_
    rintro e w5 hnt
    obtain ⟨s0, s1, so, rfl, hm5, hb5⟩ := hnt.mem hol
    clear hnt
    obtain ⟨ja, jc, ja', jc2, jao, jco, rfl, rfl, rfl⟩ := hm5.form
    have hal5 := below_alloc w5 (.cells #[.slice ja o.pool.n jc, .slice ja' o.pool.hn jc2, .int .i64 o.rs, .int .i64 o.rb, .slice jao o.old.length jco, .int .i64 o.code] 50)
    have hC := below_next hb5 hal5
    have HY6 := hideT (treeAt_new (t := 50) hm5)
    have HX6 := hideT (HX4.out.below hC)
    have HP6 := hideT (HP4.out.below hC)
    have HR6 := hideT (HR4.out.below hC)
    have Hq6 := hideT (Hq4.out.below hC)
    have hB6 := below_next hB4 hC
    clear hm5 hb5 hal5 hC HX4 HP4 HR4 Hq4 hB4 x0 x1 x2 x3 y0 y1 y2 y3
    as_aux_lemma =>
    go_upto_region 14 with fail
    generalize w5.alloc (.cells #[.slice ja o.pool.n jc, .slice ja' o.pool.hn jc2, .int .i64 o.rs, .int .i64 o.rb, .slice jao o.old.length jco, .int .i64 o.code] 50) = w6 at HY6 HX6 HP6 HR6 Hq6 hB6 ⊢
    generalize w5.heap.size = Y at HY6 ⊢
    have e1 : (o.code != o.code) = false := by simp
    have e2 : (o.rs != o.rs) = false := by simp
    have e3 : (o.rb != o.rb) = false := by simp
    have e4 : (((o.old.length : Nat) : Int) != ((o.old.length : Nat) : Int)) = false := by simp
    obtain ⟨lo6, hi6, hx6⟩ := HX6.out.pool
    obtain ⟨lo7, hi7, hy6⟩ := HY6.out.pool
    have HpX := hideT hx6
    have HpY := hideT hy6
    clear hx6 hy6
    obtain ⟨⟨x0, x1⟩, ⟨x2, x3⟩, ⟨x4, x5⟩, ⟨x6, x7⟩, ⟨x8, x9⟩, ⟨x10, x11⟩⟩ := HX6.out.box
    obtain ⟨⟨y0, y1⟩, ⟨y2, y3⟩, ⟨y4, y5⟩, ⟨y6, y7⟩, ⟨y8, y9⟩, ⟨y10, y11⟩⟩ := HY6.out.box
    obtain ⟨⟨z0, z1⟩, ⟨z2, z3⟩⟩ := HP6.out
    obtain ⟨⟨u0, u1⟩, ⟨u2, u3⟩⟩ := HR6.out
    go_region_held3 (fun w' => w'.cell? ⟨P, 0, none⟩ = some (.slice qa q.n qc) ∧ w'.cell? ⟨P, 1, none⟩ = some (.slice qa' q.hn qc') ∧ w'.cell? ⟨P + 1, 0, none⟩ = some (.int .i64 rs) ∧ w'.cell? ⟨P + 1, 1, none⟩ = some (.int .i64 rb) ∧ w'.cell? ⟨X, 0, none⟩ = some (.slice ia o.pool.n ic') ∧ w'.cell? ⟨X, 1, none⟩ = some (.slice ia' o.pool.hn ic2) ∧ w'.cell? ⟨X, 2, none⟩ = some (.int .i64 o.rs) ∧ w'.cell? ⟨X, 3, none⟩ = some (.int .i64 o.rb) ∧ w'.cell? ⟨X, 4, none⟩ = some (.slice iao o.old.length ico) ∧ w'.cell? ⟨X, 5, none⟩ = some (.int .i64 o.code) ∧ w'.cell? ⟨Y, 0, none⟩ = some (.slice ja o.pool.n jc) ∧ w'.cell? ⟨Y, 1, none⟩ = some (.slice ja' o.pool.hn jc2) ∧ w'.cell? ⟨Y, 2, none⟩ = some (.int .i64 o.rs) ∧ w'.cell? ⟨Y, 3, none⟩ = some (.int .i64 o.rb) ∧ w'.cell? ⟨Y, 4, none⟩ = some (.slice jao o.old.length jco) ∧ w'.cell? ⟨Y, 5, none⟩ = some (.int .i64 o.code)) (go_keep)
      (first
        | (go_at_call 9
           refine (lwPool_same _ _ _ _ lo6 hi6 lo7 hi7 o.pool _ ?_ ?_).mono ?_
           (first | exact HpX.out.below (Below.refl _ _).drew | exact HpX.out)
           (first | exact HpY.out.below (Below.refl _ _).drew | exact HpY.out)
           rintro e wn ⟨rfl, hbn⟩
           have hC1 : Below w6.heap.size w6 wn := (by first | exact hbn | exact below_undrew hbn)
           have hPn := HP6.out.below hC1
           have kp0 := hPn.1.1
           have kp1 := hPn.2.1
           have hRn := HR6.out.below hC1
           have kr0 := hRn.1.1
           have kr1 := hRn.2.1
           have hXn := HX6.out.box.below hC1
           have kx0 := hXn.1.1
           have kx1 := hXn.2.1.1
           have kx2 := hXn.2.2.1.1
           have kx3 := hXn.2.2.2.1.1
           have kx4 := hXn.2.2.2.2.1.1
           have kx5 := hXn.2.2.2.2.2.1
           have hYn := HY6.out.box.below hC1
           have ky0 := hYn.1.1
           have ky1 := hYn.2.1.1
           have ky2 := hYn.2.2.1.1
           have ky3 := hYn.2.2.2.1.1
           have ky4 := hYn.2.2.2.2.1.1
           have ky5 := hYn.2.2.2.2.2.1)
        | (go_at_call 23
           refine (implTreeRead_any _ _ _ _ q rs rb pg _ (Hq6.out.below hC1)).mono ?_
           rintro e wn ⟨⟨dd, rfl, hdd⟩, hbn⟩
           have hC1 : Below w6.heap.size w6 wn := (by exact below_next hC1 hbn)
           have hPn := HP6.out.below hC1
           have kp0 := hPn.1.1
           have kp1 := hPn.2.1
           have hRn := HR6.out.below hC1
           have kr0 := hRn.1.1
           have kr1 := hRn.2.1
           have hXn := HX6.out.box.below hC1
           have kx0 := hXn.1.1
           have kx1 := hXn.2.1.1
           have kx2 := hXn.2.2.1.1
           have kx3 := hXn.2.2.2.1.1
           have kx4 := hXn.2.2.2.2.1.1
           have kx5 := hXn.2.2.2.2.2.1
           have hYn := HY6.out.box.below hC1
           have ky0 := hYn.1.1
           have ky1 := hYn.2.1.1
           have ky2 := hYn.2.2.1.1
           have ky3 := hYn.2.2.2.1.1
           have ky4 := hYn.2.2.2.2.1.1
           have ky5 := hYn.2.2.2.2.2.1)
        | (go_at_call 31
           refine (specTreeRead_any _ _ _ _ q rs rb pg _ (Hq6.out.below hC1)).mono ?_
           rintro e wn ⟨⟨dd2, rfl, hdd2⟩, hbn⟩
           obtain rfl : dd2 = dd := readIs_one hdd2 hdd
           have hC1 : Below w6.heap.size w6 wn := (by exact below_next hC1 hbn)
           have hPn := HP6.out.below hC1
           have kp0 := hPn.1.1
           have kp1 := hPn.2.1
           have hRn := HR6.out.below hC1
           have kr0 := hRn.1.1
           have kr1 := hRn.2.1
           have hXn := HX6.out.box.below hC1
           have kx0 := hXn.1.1
           have kx1 := hXn.2.1.1
           have kx2 := hXn.2.2.1.1
           have kx3 := hXn.2.2.2.1.1
           have kx4 := hXn.2.2.2.2.1.1
           have kx5 := hXn.2.2.2.2.2.1
           have hYn := HY6.out.box.below hC1
           have ky0 := hYn.1.1
           have ky1 := hYn.2.1.1
           have ky2 := hYn.2.2.1.1
           have ky3 := hYn.2.2.2.1.1
           have ky4 := hYn.2.2.2.2.1.1
           have ky5 := hYn.2.2.2.2.2.1))
    have HX9 := hideT (HX6.out.below hC1)
    have HP9 := hideT hPn
    have HR9 := hideT hRn
    have Hq9 := hideT (Hq6.out.below hC1)
    have HpX9 := hideT (HpX.out.below hC1)
    have hB9 := below_next hB6 hC1
    obtain ⟨w9, rfl⟩ : ∃ x, x = wn := ⟨_, rfl⟩
    clear hPn kp0 kp1 hRn kr0 kr1 hXn kx0 kx1 kx2 kx3 kx4 kx5 hYn ky0 ky1 ky2 ky3 ky4 ky5 hC1 hdd hdd2 hbn HX6 HY6 HP6 HR6 Hq6 HpX HpY hB6 x0 x1 x2 x3 x4 x5 x6 x7 x8 x9 x10 x11 y0 y1 y2 y3 y4 y5 y6 y7 y8 y9 y10 y11 z0 z1 z2 z3 u0 u1 u2 u3 IM SP
    obtain ⟨⟨x0, x1⟩, ⟨x2, x3⟩, ⟨x4, x5⟩, ⟨x6, x7⟩, ⟨x8, x9⟩, ⟨x10, x11⟩⟩ := HX9.out.box
    as_aux_lemma =>
    go_upto_region 16 with fail
    by_cases hc : o.code = 0
    · as_aux_lemma =>
      have f0 : (o.code != 0) = false := by simp [hc]
      obtain ⟨hT, hT1, hRd, hS1, hG1, hG2⟩ := HF.out hc
      have HT := hideT hT
      have HT1 := hideT hT1
      have HRd := hideT hRd
      have HS1 := hideT hS1
      have HG := hideT (And.intro hG1 hG2)
      clear hc hT hT1 hRd hS1 hG1 hG2 HF
      obtain ⟨loO, hiO, hrx⟩ := HX9.out.row
      have HrX := hideT hrx
      clear hrx
      have hmk := make_zeros 22 5 (.int .u8 0) 1 1 (by kernel_rfl) infoU8T rfl 16 (by omega) (by omega)
      have hmk' : ∀ w, (Instr.makeSlice 22 (.int .i64 16) (.int .i64 16)).run Try.prog w = .ok (.slice (some ⟨w.heap.size, 0, none⟩) 16 16) (w.alloc (.cells (zeros #[.int .u8 0] 16) 5)) := hmk
      clear hmk
      have hcv0 := zconv w9
      have hcv1 := zconv_later (w0 := w9) (Below.refl _ _).drew
      have hcv2 := zconv w9.drew
      have hlP := HP9.out.1.lt
      have hlR := HR9.out.1.lt
      have hlX := HX9.out.box.1.lt
      have na0 : w9.heap.size ≠ P := by omega
      have na1 : w9.heap.size ≠ P + 1 := by omega
      have na2 : w9.heap.size ≠ X := by omega
      obtain ⟨⟨z0, z1⟩, ⟨z2, z3⟩⟩ := HP9.out
      obtain ⟨⟨u0, u1⟩, ⟨u2, u3⟩⟩ := HR9.out
      refine wp_region_held_drew (S := (fun w' => w'.cell? ⟨P, 0, none⟩ = some (.slice qa q.n qc) ∧ w'.cell? ⟨P, 1, none⟩ = some (.slice qa' q.hn qc') ∧ w'.cell? ⟨P + 1, 0, none⟩ = some (.int .i64 rs) ∧ w'.cell? ⟨P + 1, 1, none⟩ = some (.int .i64 rb) ∧ w'.cell? ⟨X, 0, none⟩ = some (.slice ia o.pool.n ic') ∧ w'.cell? ⟨X, 1, none⟩ = some (.slice ia' o.pool.hn ic2) ∧ w'.cell? ⟨X, 2, none⟩ = some (.int .i64 o.rs) ∧ w'.cell? ⟨X, 3, none⟩ = some (.int .i64 o.rb) ∧ w'.cell? ⟨X, 4, none⟩ = some (.slice iao o.old.length ico) ∧ w'.cell? ⟨X, 5, none⟩ = some (.int .i64 o.code))) (by kernel_rfl) ?_ (fun hHeld => ?_)
      · (try dsimp only)
        go_keep
      refine wpAnyH_take (i := 0) (oi := ({ dst := some 177, op := Op.fieldAddr 50 (Operand.tmp 16) 3, type := 0, pos := "laws.go:144", after := #[], guard := none } : Oper)) (v := ?_) rfl (by kernel_rfl) (by kernel_rfl) (by kernel_rfl) (fun _ _ _ h => h) (Or.inl ⟨by rfl, ?_⟩) (by assumption) ?_
      rotate_left
      · (intro w hSw; (try dsimp only at hSw); go_simp; try with_reducible rfl)
      try simp only [Act.put, List.setIfInBounds_toArray, List.set_cons_zero, List.set_cons_succ]
      refine wpAnyH_take (i := 1) (oi := ({ dst := some 178, op := Op.load 2 (Operand.tmp 177), type := 2, pos := "laws.go:144", after := #[{ on := 0, ground := Ground.data }], guard := none } : Oper)) (v := ?_) rfl (by kernel_rfl) (by kernel_rfl) (by kernel_rfl) (fun _ _ _ h => h) (Or.inl ⟨by rfl, ?_⟩) (by assumption) ?_
      rotate_left
      · (intro w hSw; (try dsimp only at hSw); go_simp; try with_reducible rfl)
      try simp only [Act.put, List.setIfInBounds_toArray, List.set_cons_zero, List.set_cons_succ]
      refine wpAnyH_take (i := 2) (oi := ({ dst := some 179, op := Op.binOp BinOp.neq 2 (Operand.tmp 178) (Operand.const (Value.int IntKind.i64 0)) 2, type := 4, pos := "laws.go:144", after := #[{ on := 1, ground := Ground.data }], guard := none } : Oper)) (v := ?_) rfl (by kernel_rfl) (by kernel_rfl) (by kernel_rfl) (fun _ _ _ h => h) (Or.inl ⟨by rfl, ?_⟩) (by assumption) ?_
      rotate_left
      · (intro w hSw; (try dsimp only at hSw); go_simp; try with_reducible rfl)
      try simp only [Act.put, List.setIfInBounds_toArray, List.set_cons_zero, List.set_cons_succ]
      refine wpAnyH_take (i := 3) (oi := ({ dst := some 180, op := Op.move (Operand.tmp 179), type := 4, pos := "laws.go:144", after := #[{ on := 2, ground := Ground.data }], guard := none } : Oper)) (v := ?_) rfl (by kernel_rfl) (by kernel_rfl) (by kernel_rfl) (fun _ _ _ h => h) (Or.inl ⟨by rfl, ?_⟩) (by assumption) ?_
      rotate_left
      · (intro w hSw; (try dsimp only at hSw); go_simp; try with_reducible rfl)
      try simp only [Act.put, List.setIfInBounds_toArray, List.set_cons_zero, List.set_cons_succ]
      refine wpAnyH_take (i := 4) (oi := ({ dst := some 181, op := Op.fieldAddr 50 (Operand.tmp 16) 0, type := 0, pos := "laws.go:144", after := #[{ on := 3, ground := Ground.guard }], guard := some (3, false) } : Oper)) (v := ?_) rfl (by kernel_rfl) (by kernel_rfl) (by kernel_rfl) (fun _ _ _ h => h) (Or.inl ⟨by rfl, ?_⟩) (by assumption) ?_
      rotate_left
      · (intro w hSw; (try dsimp only at hSw); go_simp; try with_reducible rfl)
      try simp only [Act.put, List.setIfInBounds_toArray, List.set_cons_zero, List.set_cons_succ]
      refine wpAnyH_take (i := 5) (oi := ({ dst := some 182, op := Op.load 26 (Operand.tmp 181), type := 26, pos := "laws.go:144", after := #[{ on := 4, ground := Ground.data }, { on := 3, ground := Ground.guard }], guard := some (3, false) } : Oper)) (v := ?_) rfl (by kernel_rfl) (by kernel_rfl) (by kernel_rfl) (fun _ _ _ h => h) (Or.inl ⟨by rfl, ?_⟩) (by assumption) ?_
      rotate_left
      · (intro w hSw; (try dsimp only at hSw); go_simp; try with_reducible rfl)
      try simp only [Act.put, List.setIfInBounds_toArray, List.set_cons_zero, List.set_cons_succ]
      refine wpAnyH_take (i := 6) (oi := ({ dst := some 183, op := Op.fieldAddr 50 (Operand.tmp 16) 1, type := 0, pos := "laws.go:144", after := #[{ on := 3, ground := Ground.guard }], guard := some (3, false) } : Oper)) (v := ?_) rfl (by kernel_rfl) (by kernel_rfl) (by kernel_rfl) (fun _ _ _ h => h) (Or.inl ⟨by rfl, ?_⟩) (by assumption) ?_
      rotate_left
      · (intro w hSw; (try dsimp only at hSw); go_simp; try with_reducible rfl)
      try simp only [Act.put, List.setIfInBounds_toArray, List.set_cons_zero, List.set_cons_succ]
      refine wpAnyH_take (i := 7) (oi := ({ dst := some 184, op := Op.load 33 (Operand.tmp 183), type := 33, pos := "laws.go:144", after := #[{ on := 6, ground := Ground.data }, { on := 3, ground := Ground.guard }], guard := some (3, false) } : Oper)) (v := ?_) rfl (by kernel_rfl) (by kernel_rfl) (by kernel_rfl) (fun _ _ _ h => h) (Or.inl ⟨by rfl, ?_⟩) (by assumption) ?_
      rotate_left
      · (intro w hSw; (try dsimp only at hSw); go_simp; try with_reducible rfl)
      try simp only [Act.put, List.setIfInBounds_toArray, List.set_cons_zero, List.set_cons_succ]
      refine wpAnyH_take (i := 8) (oi := ({ dst := some 185, op := Op.move (Operand.tmp 14), type := 2, pos := "laws.go:144", after := #[{ on := 3, ground := Ground.guard }], guard := some (3, false) } : Oper)) (v := ?_) rfl (by kernel_rfl) (by kernel_rfl) (by kernel_rfl) (fun _ _ _ h => h) (Or.inl ⟨by rfl, ?_⟩) (by assumption) ?_
      rotate_left
      · (intro w hSw; (try dsimp only at hSw); go_simp; try with_reducible rfl)
      try simp only [Act.put, List.setIfInBounds_toArray, List.set_cons_zero, List.set_cons_succ]
      refine wpAnyH_ready (rs := [9, 10]) (by kernel_rfl) (by simp) ?_
      refine AllReadyH.cons (o := ({ dst := some 186, op := Op.call { callee := Callee.value (Operand.func 23), args := #[Operand.tmp 182, Operand.tmp 184, Operand.tmp 185], argTypes := #[26, 33, 2] }, type := 9, pos := "laws.go:144", after := #[{ on := 5, ground := Ground.data }, { on := 7, ground := Ground.data }, { on := 8, ground := Ground.data }, { on := 3, ground := Ground.chain }, { on := 3, ground := Ground.guard }], guard := some (3, false) } : Oper)) rfl (fun K hK => ?_) (AllReadyH.cons (o := ({ dst := some 187, op := Op.makeSlice 22 (Operand.const (Value.int IntKind.i64 16)) (Operand.const (Value.int IntKind.i64 16)), type := 22, pos := "laws.go:144", after := #[{ on := 3, ground := Ground.guard }], guard := some (3, false) } : Oper)) rfl (fun K hK => ?_) AllReadyH.nil)
      · go_simp
        go_at_call 23
        refine (implTreeRead_any _ _ lo6 hi6 o.pool o.rs o.rb pg _ ?_).mono ?_
        · first | exact HpX9.out.below (Below.refl _ _).drew | exact HpX9.out | exact HpX9.out.below (below_alloc _ _) | exact HpX9.out.below (below_alloc _ _).drew | exact HpX9.out.below (below_next (Below.refl _ _).drew (below_alloc _ _))
        rintro e wn ⟨⟨dd, rfl, hdd⟩, hbn⟩
        obtain rfl : dd = zero16 := HRd.out dd hdd
        clear hdd
        have hC1 : Below w9.heap.size w9 wn := (by first | exact hbn | exact below_undrew hbn | exact below_next (below_alloc _ _) hbn | exact below_next (below_alloc _ _) (below_undrew hbn) | exact below_next (below_next (Below.refl _ _).drew (below_alloc _ _)) hbn)
        first | (have hcv := zconv_later hbn) | (have hcv := zconv_later (below_undrew hbn)) | (have hcv := zconv wn)
        have hzn := hC1.size
        have nb0 : wn.heap.size ≠ P := (by omega)
        have nb1 : wn.heap.size ≠ P + 1 := (by omega)
        have nb2 : wn.heap.size ≠ X := (by omega)
        obtain ⟨⟨kp0, _⟩, ⟨kp1, _⟩⟩ := HP9.out.below hC1
        obtain ⟨⟨kr0, _⟩, ⟨kr1, _⟩⟩ := HR9.out.below hC1
        obtain ⟨⟨kx0, _⟩, ⟨kx1, _⟩, ⟨kx2, _⟩, ⟨kx3, _⟩, ⟨kx4, _⟩, ⟨kx5, _⟩⟩ := HX9.out.box.below hC1
        (try go_wp2_with fail)
        refine hK.out _ _ ?_ (fun hHeldN => ?_)
        · (try dsimp only)
          go_keep
        clear hK K hHeld
        have hHeld := hHeldN
        clear hHeldN
        try simp only [Act.put, List.setIfInBounds_toArray, List.set_cons_zero, List.set_cons_succ]
        refine wpAnyH_ready (rs := [10]) (by kernel_rfl) (by simp) ?_
        refine AllReadyH.cons (o := ({ dst := some 187, op := Op.makeSlice 22 (Operand.const (Value.int IntKind.i64 16)) (Operand.const (Value.int IntKind.i64 16)), type := 22, pos := "laws.go:144", after := #[{ on := 3, ground := Ground.guard }], guard := some (3, false) } : Oper)) rfl (fun K hK => ?_) AllReadyH.nil
        go_simp
        skip
        (try go_wp2_with fail)
        refine hK.out _ _ ?_ (fun hHeldN => ?_)
        · (try dsimp only)
          go_keep
        clear hK K hHeld
        have hHeld := hHeldN
        clear hHeldN
        try simp only [Act.put, List.setIfInBounds_toArray, List.set_cons_zero, List.set_cons_succ]
        refine wpAnyH_ready (rs := [11]) (by kernel_rfl) (by simp) ?_
        refine AllReadyH.cons (o := ({ dst := some 188, op := Op.convert 22 9 (Operand.tmp 187), type := 9, pos := "laws.go:144", after := #[{ on := 10, ground := Ground.data }, { on := 3, ground := Ground.guard }], guard := some (3, false) } : Oper)) rfl (fun K hK => ?_) AllReadyH.nil
        go_simp
        skip
        (try go_wp2_with fail)
        refine hK.out _ _ ?_ (fun hHeldN => ?_)
        · (try dsimp only)
          go_keep
        clear hK K hHeld
        have hHeld := hHeldN
        clear hHeldN
        try simp only [Act.put, List.setIfInBounds_toArray, List.set_cons_zero, List.set_cons_succ]
        refine wpAnyH_take (i := 12) (oi := ({ dst := some 189, op := Op.binOp BinOp.eql 9 (Operand.tmp 186) (Operand.tmp 188) 9, type := 4, pos := "laws.go:144", after := #[{ on := 9, ground := Ground.data }, { on := 11, ground := Ground.data }, { on := 3, ground := Ground.guard }], guard := some (3, false) } : Oper)) (v := ?_) rfl (by kernel_rfl) (by kernel_rfl) (by kernel_rfl) (fun _ _ _ h => h) (Or.inl ⟨by rfl, ?_⟩) (by assumption) ?_
        rotate_left
        · (intro w hSw; (try dsimp only at hSw); go_simp; try with_reducible rfl)
        try simp only [Act.put, List.setIfInBounds_toArray, List.set_cons_zero, List.set_cons_succ]
        refine wpAnyH_take (i := 13) (oi := ({ dst := some 190, op := Op.move (Operand.tmp 189), type := 4, pos := "laws.go:144", after := #[{ on := 12, ground := Ground.data }, { on := 9, ground := Ground.chain }, { on := 3, ground := Ground.guard }], guard := some (3, false) } : Oper)) (v := ?_) rfl (by kernel_rfl) (by kernel_rfl) (by kernel_rfl) (fun _ _ _ h => h) (Or.inl ⟨by rfl, ?_⟩) (by assumption) ?_
        rotate_left
        · (intro w hSw; (try dsimp only at hSw); go_simp; try with_reducible rfl)
        try simp only [Act.put, List.setIfInBounds_toArray, List.set_cons_zero, List.set_cons_succ]
        refine wpAnyH_take (i := 14) (oi := ({ dst := some 191, op := Op.load 26 (Operand.tmp 12), type := 26, pos := "laws.go:144", after := #[{ on := 13, ground := Ground.guard }], guard := some (13, true) } : Oper)) (v := ?_) rfl (by kernel_rfl) (by kernel_rfl) (by kernel_rfl) (fun _ _ _ h => h) (Or.inl ⟨by rfl, ?_⟩) (by assumption) ?_
        rotate_left
        · (intro w hSw; (try dsimp only at hSw); go_simp; try with_reducible rfl)
        try simp only [Act.put, List.setIfInBounds_toArray, List.set_cons_zero, List.set_cons_succ]
        refine wpAnyH_take (i := 15) (oi := ({ dst := some 192, op := Op.load 33 (Operand.tmp 13), type := 33, pos := "laws.go:144", after := #[{ on := 13, ground := Ground.guard }], guard := some (13, true) } : Oper)) (v := ?_) rfl (by kernel_rfl) (by kernel_rfl) (by kernel_rfl) (fun _ _ _ h => h) (Or.inl ⟨by rfl, ?_⟩) (by assumption) ?_
        rotate_left
        · (intro w hSw; (try dsimp only at hSw); go_simp; try with_reducible rfl)
        try simp only [Act.put, List.setIfInBounds_toArray, List.set_cons_zero, List.set_cons_succ]
        refine wpAnyH_take (i := 16) (oi := ({ dst := some 193, op := Op.fieldAddr 50 (Operand.tmp 16) 0, type := 0, pos := "laws.go:144", after := #[{ on := 13, ground := Ground.guard }], guard := some (13, true) } : Oper)) (v := ?_) rfl (by kernel_rfl) (by kernel_rfl) (by kernel_rfl) (fun _ _ _ h => h) (Or.inl ⟨by rfl, ?_⟩) (by assumption) ?_
        rotate_left
        · (intro w hSw; (try dsimp only at hSw); go_simp; try with_reducible rfl)
        try simp only [Act.put, List.setIfInBounds_toArray, List.set_cons_zero, List.set_cons_succ]
        refine wpAnyH_take (i := 17) (oi := ({ dst := some 194, op := Op.load 26 (Operand.tmp 193), type := 26, pos := "laws.go:144", after := #[{ on := 16, ground := Ground.data }, { on := 13, ground := Ground.guard }], guard := some (13, true) } : Oper)) (v := ?_) rfl (by kernel_rfl) (by kernel_rfl) (by kernel_rfl) (fun _ _ _ h => h) (Or.inl ⟨by rfl, ?_⟩) (by assumption) ?_
        rotate_left
        · (intro w hSw; (try dsimp only at hSw); go_simp; try with_reducible rfl)
        try simp only [Act.put, List.setIfInBounds_toArray, List.set_cons_zero, List.set_cons_succ]
        refine wpAnyH_take (i := 18) (oi := ({ dst := some 195, op := Op.fieldAddr 50 (Operand.tmp 16) 1, type := 0, pos := "laws.go:144", after := #[{ on := 13, ground := Ground.guard }], guard := some (13, true) } : Oper)) (v := ?_) rfl (by kernel_rfl) (by kernel_rfl) (by kernel_rfl) (fun _ _ _ h => h) (Or.inl ⟨by rfl, ?_⟩) (by assumption) ?_
        rotate_left
        · (intro w hSw; (try dsimp only at hSw); go_simp; try with_reducible rfl)
        try simp only [Act.put, List.setIfInBounds_toArray, List.set_cons_zero, List.set_cons_succ]
        refine wpAnyH_take (i := 19) (oi := ({ dst := some 196, op := Op.load 33 (Operand.tmp 195), type := 33, pos := "laws.go:144", after := #[{ on := 18, ground := Ground.data }, { on := 13, ground := Ground.guard }], guard := some (13, true) } : Oper)) (v := ?_) rfl (by kernel_rfl) (by kernel_rfl) (by kernel_rfl) (fun _ _ _ h => h) (Or.inl ⟨by rfl, ?_⟩) (by assumption) ?_
        rotate_left
        · (intro w hSw; (try dsimp only at hSw); go_simp; try with_reducible rfl)
        try simp only [Act.put, List.setIfInBounds_toArray, List.set_cons_zero, List.set_cons_succ]
        refine wpAnyH_take (i := 20) (oi := ({ dst := some 197, op := Op.move (Operand.tmp 14), type := 2, pos := "laws.go:144", after := #[{ on := 13, ground := Ground.guard }], guard := some (13, true) } : Oper)) (v := ?_) rfl (by kernel_rfl) (by kernel_rfl) (by kernel_rfl) (fun _ _ _ h => h) (Or.inl ⟨by rfl, ?_⟩) (by assumption) ?_
        rotate_left
        · (intro w hSw; (try dsimp only at hSw); go_simp; try with_reducible rfl)
        try simp only [Act.put, List.setIfInBounds_toArray, List.set_cons_zero, List.set_cons_succ]
        refine wpAnyH_ready (rs := [21]) (by kernel_rfl) (by simp) ?_
        refine AllReadyH.cons (o := ({ dst := some 198, op := Op.call { callee := Callee.value (Operand.func 24), args := #[Operand.tmp 191, Operand.tmp 192, Operand.tmp 194, Operand.tmp 196, Operand.tmp 197], argTypes := #[26, 33, 26, 33, 2] }, type := 4, pos := "laws.go:144", after := #[{ on := 14, ground := Ground.data }, { on := 15, ground := Ground.data }, { on := 17, ground := Ground.data }, { on := 19, ground := Ground.data }, { on := 20, ground := Ground.data }, { on := 13, ground := Ground.chain }, { on := 13, ground := Ground.guard }], guard := some (13, true) } : Oper)) rfl (fun K hK => ?_) AllReadyH.nil
        go_simp
        go_at_call 24
        refine (lwSame_known _ _ _ _ _ _ _ _ _ _ ?_).mono ?_
        · first | exact ⟨_, _, _, _, q, o.pool, Hq9.out.below hC1, HpX9.out.below hC1, HT.out, HT1.out, HS1.out⟩ | exact ⟨_, _, _, _, q, o.pool, Hq9.out.below (below_next hC1 (below_alloc _ _)), HpX9.out.below (below_next hC1 (below_alloc _ _)), HT.out, HT1.out, HS1.out⟩
        rintro e wn2 ⟨rfl, hbn2⟩
        have hC1 : Below w9.heap.size w9 wn2 := (by first | exact below_next hC1 hbn2 | exact below_next (below_next hC1 (below_alloc _ _)) hbn2)
        obtain ⟨⟨kp0, _⟩, ⟨kp1, _⟩⟩ := HP9.out.below hC1
        obtain ⟨⟨kr0, _⟩, ⟨kr1, _⟩⟩ := HR9.out.below hC1
        obtain ⟨⟨kx0, _⟩, ⟨kx1, _⟩, ⟨kx2, _⟩, ⟨kx3, _⟩, ⟨kx4, _⟩, ⟨kx5, _⟩⟩ := HX9.out.box.below hC1
        (try go_wp2_with fail)
        refine hK.out _ _ ?_ (fun hHeldN => ?_)
        · (try dsimp only)
          go_keep
        clear hK K hHeld
        have hHeld := hHeldN
        clear hHeldN
        try simp only [Act.put, List.setIfInBounds_toArray, List.set_cons_zero, List.set_cons_succ]
        refine wpAnyH_take (i := 22) (oi := ({ dst := some 199, op := Op.pick (Operand.tmp 190) (Operand.tmp 198) (Operand.const (Value.bool false)), type := 4, pos := "laws.go:144", after := #[{ on := 13, ground := Ground.data }, { on := 21, ground := Ground.data }, { on := 3, ground := Ground.guard }], guard := some (3, false) } : Oper)) (v := ?_) rfl (by kernel_rfl) (by kernel_rfl) (by kernel_rfl) (fun _ _ _ h => h) (Or.inl ⟨by rfl, ?_⟩) (by assumption) ?_
        rotate_left
        · (intro w hSw; (try dsimp only at hSw); go_simp; try with_reducible rfl)
        try simp only [Act.put, List.setIfInBounds_toArray, List.set_cons_zero, List.set_cons_succ]
        refine wpAnyH_take (i := 23) (oi := ({ dst := some 200, op := Op.move (Operand.tmp 199), type := 4, pos := "laws.go:144", after := #[{ on := 22, ground := Ground.data }, { on := 21, ground := Ground.chain }, { on := 3, ground := Ground.guard }], guard := some (3, false) } : Oper)) (v := ?_) rfl (by kernel_rfl) (by kernel_rfl) (by kernel_rfl) (fun _ _ _ h => h) (Or.inl ⟨by rfl, ?_⟩) (by assumption) ?_
        rotate_left
        · (intro w hSw; (try dsimp only at hSw); go_simp; try with_reducible rfl)
        try simp only [Act.put, List.setIfInBounds_toArray, List.set_cons_zero, List.set_cons_succ]
        refine wpAnyH_take (i := 24) (oi := ({ dst := some 201, op := Op.load 26 (Operand.tmp 12), type := 26, pos := "laws.go:144", after := #[{ on := 23, ground := Ground.guard }], guard := some (23, true) } : Oper)) (v := ?_) rfl (by kernel_rfl) (by kernel_rfl) (by kernel_rfl) (fun _ _ _ h => h) (Or.inl ⟨by rfl, ?_⟩) (by assumption) ?_
        rotate_left
        · (intro w hSw; (try dsimp only at hSw); go_simp; try with_reducible rfl)
        try simp only [Act.put, List.setIfInBounds_toArray, List.set_cons_zero, List.set_cons_succ]
        refine wpAnyH_take (i := 25) (oi := ({ dst := some 202, op := Op.load 33 (Operand.tmp 13), type := 33, pos := "laws.go:144", after := #[{ on := 23, ground := Ground.guard }], guard := some (23, true) } : Oper)) (v := ?_) rfl (by kernel_rfl) (by kernel_rfl) (by kernel_rfl) (fun _ _ _ h => h) (Or.inl ⟨by rfl, ?_⟩) (by assumption) ?_
        rotate_left
        · (intro w hSw; (try dsimp only at hSw); go_simp; try with_reducible rfl)
        try simp only [Act.put, List.setIfInBounds_toArray, List.set_cons_zero, List.set_cons_succ]
        refine wpAnyH_take (i := 27) (oi := ({ dst := some 204, op := Op.fieldAddr 50 (Operand.tmp 16) 0, type := 0, pos := "laws.go:144", after := #[{ on := 23, ground := Ground.guard }], guard := some (23, true) } : Oper)) (v := ?_) rfl (by kernel_rfl) (by kernel_rfl) (by kernel_rfl) (fun _ _ _ h => h) (Or.inl ⟨by rfl, ?_⟩) (by assumption) ?_
        rotate_left
        · (intro w hSw; (try dsimp only at hSw); go_simp; try with_reducible rfl)
        try simp only [Act.put, List.setIfInBounds_toArray, List.set_cons_zero, List.set_cons_succ]
        refine wpAnyH_take (i := 28) (oi := ({ dst := some 205, op := Op.load 26 (Operand.tmp 204), type := 26, pos := "laws.go:144", after := #[{ on := 27, ground := Ground.data }, { on := 23, ground := Ground.guard }], guard := some (23, true) } : Oper)) (v := ?_) rfl (by kernel_rfl) (by kernel_rfl) (by kernel_rfl) (fun _ _ _ h => h) (Or.inl ⟨by rfl, ?_⟩) (by assumption) ?_
        rotate_left
        · (intro w hSw; (try dsimp only at hSw); go_simp; try with_reducible rfl)
        try simp only [Act.put, List.setIfInBounds_toArray, List.set_cons_zero, List.set_cons_succ]
        refine wpAnyH_take (i := 29) (oi := ({ dst := some 206, op := Op.fieldAddr 50 (Operand.tmp 16) 1, type := 0, pos := "laws.go:144", after := #[{ on := 23, ground := Ground.guard }], guard := some (23, true) } : Oper)) (v := ?_) rfl (by kernel_rfl) (by kernel_rfl) (by kernel_rfl) (fun _ _ _ h => h) (Or.inl ⟨by rfl, ?_⟩) (by assumption) ?_
        rotate_left
        · (intro w hSw; (try dsimp only at hSw); go_simp; try with_reducible rfl)
        try simp only [Act.put, List.setIfInBounds_toArray, List.set_cons_zero, List.set_cons_succ]
        refine wpAnyH_take (i := 30) (oi := ({ dst := some 207, op := Op.load 33 (Operand.tmp 206), type := 33, pos := "laws.go:144", after := #[{ on := 29, ground := Ground.data }, { on := 23, ground := Ground.guard }], guard := some (23, true) } : Oper)) (v := ?_) rfl (by kernel_rfl) (by kernel_rfl) (by kernel_rfl) (fun _ _ _ h => h) (Or.inl ⟨by rfl, ?_⟩) (by assumption) ?_
        rotate_left
        · (intro w hSw; (try dsimp only at hSw); go_simp; try with_reducible rfl)
        try simp only [Act.put, List.setIfInBounds_toArray, List.set_cons_zero, List.set_cons_succ]
        refine wpAnyH_take (i := 32) (oi := ({ dst := some 209, op := Op.fieldAddr 50 (Operand.tmp 16) 2, type := 0, pos := "laws.go:144", after := #[{ on := 23, ground := Ground.guard }], guard := some (23, true) } : Oper)) (v := ?_) rfl (by kernel_rfl) (by kernel_rfl) (by kernel_rfl) (fun _ _ _ h => h) (Or.inl ⟨by rfl, ?_⟩) (by assumption) ?_
        rotate_left
        · (intro w hSw; (try dsimp only at hSw); go_simp; try with_reducible rfl)
        try simp only [Act.put, List.setIfInBounds_toArray, List.set_cons_zero, List.set_cons_succ]
        refine wpAnyH_take (i := 33) (oi := ({ dst := some 210, op := Op.load 27 (Operand.tmp 209), type := 27, pos := "laws.go:144", after := #[{ on := 32, ground := Ground.data }, { on := 23, ground := Ground.guard }], guard := some (23, true) } : Oper)) (v := ?_) rfl (by kernel_rfl) (by kernel_rfl) (by kernel_rfl) (fun _ _ _ h => h) (Or.inl ⟨by rfl, ?_⟩) (by assumption) ?_
        rotate_left
        · (intro w hSw; (try dsimp only at hSw); go_simp; try with_reducible rfl)
        try simp only [Act.put, List.setIfInBounds_toArray, List.set_cons_zero, List.set_cons_succ]
        refine wpAnyH_ready (rs := [26]) (by kernel_rfl) (by simp) ?_
        refine AllReadyH.cons (o := ({ dst := some 203, op := Op.call { callee := Callee.value (Operand.func 26), args := #[Operand.tmp 201, Operand.tmp 202], argTypes := #[26, 33] }, type := 27, pos := "laws.go:144", after := #[{ on := 24, ground := Ground.data }, { on := 25, ground := Ground.data }, { on := 23, ground := Ground.chain }, { on := 23, ground := Ground.guard }], guard := some (23, true) } : Oper)) rfl (fun K hK => ?_) AllReadyH.nil
        go_simp
        go_at_call 26
        refine (specTreePtrs_any _ _ _ _ q rs rb _ (Hq9.out.below hC1)).mono ?_
        rintro e wn3 ⟨v1', l1, rfl, hl1, hr1, hbn3⟩
        obtain rfl := hl1.1 HT.out
        obtain ⟨la1, lc1, rfl, _⟩ := owns_form hr1
        have hR1 := hr1.at0 (by have := treeL_len q rs rb; omega)
        have hC1 : Below w9.heap.size w9 wn3 := below_next hC1 hbn3
        obtain ⟨⟨kp0, _⟩, ⟨kp1, _⟩⟩ := HP9.out.below hC1
        obtain ⟨⟨kr0, _⟩, ⟨kr1, _⟩⟩ := HR9.out.below hC1
        obtain ⟨⟨kx0, _⟩, ⟨kx1, _⟩, ⟨kx2, _⟩, ⟨kx3, _⟩, ⟨kx4, _⟩, ⟨kx5, _⟩⟩ := HX9.out.box.below hC1
        (try go_wp2_with fail)
        refine hK.out _ _ ?_ (fun hHeldN => ?_)
        · (try dsimp only)
          go_keep
        clear hK K hHeld
        have hHeld := hHeldN
        clear hHeldN
        try simp only [Act.put, List.setIfInBounds_toArray, List.set_cons_zero, List.set_cons_succ]
        refine wpAnyH_ready (rs := [31]) (by kernel_rfl) (by simp) ?_
        refine AllReadyH.cons (o := ({ dst := some 208, op := Op.call { callee := Callee.value (Operand.func 27), args := #[Operand.tmp 205, Operand.tmp 207], argTypes := #[26, 33] }, type := 27, pos := "laws.go:144", after := #[{ on := 28, ground := Ground.data }, { on := 30, ground := Ground.data }, { on := 26, ground := Ground.chain }, { on := 23, ground := Ground.guard }], guard := some (23, true) } : Oper)) rfl (fun K hK => ?_) AllReadyH.nil
        go_simp
        go_at_call 27
        refine (implTreePtrs_any _ _ _ _ o.pool o.rs o.rb _ (HpX9.out.below hC1)).mono ?_
        rintro e wn4 ⟨v2', l2, rfl, hl2, hr2, hbn4⟩
        obtain rfl := hl2.1 HT1.out
        obtain ⟨la2, lc2, rfl, _⟩ := owns_form hr2
        have hR2 := hr2.at0 (by have := treeL_len o.pool o.rs o.rb; omega)
        have hR1' := hR1.below hbn4
        have hC1 : Below w9.heap.size w9 wn4 := below_next hC1 hbn4
        obtain ⟨⟨kp0, _⟩, ⟨kp1, _⟩⟩ := HP9.out.below hC1
        obtain ⟨⟨kr0, _⟩, ⟨kr1, _⟩⟩ := HR9.out.below hC1
        obtain ⟨⟨kx0, _⟩, ⟨kx1, _⟩, ⟨kx2, _⟩, ⟨kx3, _⟩, ⟨kx4, _⟩, ⟨kx5, _⟩⟩ := HX9.out.box.below hC1
        (try go_wp2_with fail)
        refine hK.out _ _ ?_ (fun hHeldN => ?_)
        · (try dsimp only)
          go_keep
        clear hK K hHeld
        have hHeld := hHeldN
        clear hHeldN
        try simp only [Act.put, List.setIfInBounds_toArray, List.set_cons_zero, List.set_cons_succ]
        refine wpAnyH_ready (rs := [34]) (by kernel_rfl) (by simp) ?_
        refine AllReadyH.cons (o := ({ dst := some 211, op := Op.call { callee := Callee.value (Operand.func 25), args := #[Operand.tmp 203, Operand.tmp 208, Operand.tmp 210], argTypes := #[27, 27, 27] }, type := 4, pos := "laws.go:144", after := #[{ on := 26, ground := Ground.data }, { on := 31, ground := Ground.data }, { on := 33, ground := Ground.data }, { on := 31, ground := Ground.chain }, { on := 23, ground := Ground.guard }], guard := some (23, true) } : Oper)) rfl (fun K hK => ?_) AllReadyH.nil
        go_simp
        go_at_call 25
        refine (lwGone_any _ _ _ (treeL q rs rb) (treeL o.pool o.rs o.rb) o.old _ _ _ _ _ _ _ hR1' hR2 (HrX.out.below hC1) (by have := treeL_len q rs rb; omega) HG.out.1 HG.out.2).mono ?_
        rintro e wn5 ⟨rfl, hbn5⟩
        have hC1 : Below w9.heap.size w9 wn5 := below_next hC1 hbn5
        obtain ⟨⟨kp0, _⟩, ⟨kp1, _⟩⟩ := HP9.out.below hC1
        obtain ⟨⟨kr0, _⟩, ⟨kr1, _⟩⟩ := HR9.out.below hC1
        obtain ⟨⟨kx0, _⟩, ⟨kx1, _⟩, ⟨kx2, _⟩, ⟨kx3, _⟩, ⟨kx4, _⟩, ⟨kx5, _⟩⟩ := HX9.out.box.below hC1
        (try go_wp2_with fail)
        refine hK.out _ _ ?_ (fun hHeldN => ?_)
        · (try dsimp only)
          go_keep
        clear hK K hHeld
        have hHeld := hHeldN
        clear hHeldN
        try simp only [Act.put, List.setIfInBounds_toArray, List.set_cons_zero, List.set_cons_succ]
        refine wpAnyH_take (i := 35) (oi := ({ dst := some 212, op := Op.pick (Operand.tmp 200) (Operand.tmp 211) (Operand.const (Value.bool false)), type := 4, pos := "laws.go:144", after := #[{ on := 23, ground := Ground.data }, { on := 34, ground := Ground.data }, { on := 3, ground := Ground.guard }], guard := some (3, false) } : Oper)) (v := ?_) rfl (by kernel_rfl) (by kernel_rfl) (by kernel_rfl) (fun _ _ _ h => h) (Or.inl ⟨by rfl, ?_⟩) (by assumption) ?_
        rotate_left
        · (intro w hSw; (try dsimp only at hSw); go_simp; try with_reducible rfl)
        try simp only [Act.put, List.setIfInBounds_toArray, List.set_cons_zero, List.set_cons_succ]
        refine wpAnyH_take (i := 36) (oi := ({ dst := some 213, op := Op.pick (Operand.tmp 180) (Operand.const (Value.bool true)) (Operand.tmp 212), type := 4, pos := "laws.go:144", after := #[{ on := 3, ground := Ground.data }, { on := 35, ground := Ground.data }], guard := none } : Oper)) (v := ?_) rfl (by kernel_rfl) (by kernel_rfl) (by kernel_rfl) (fun _ _ _ h => h) (Or.inl ⟨by rfl, ?_⟩) (by assumption) ?_
        rotate_left
        · (intro w hSw; (try dsimp only at hSw); go_simp; try with_reducible rfl)
        try simp only [Act.put, List.setIfInBounds_toArray, List.set_cons_zero, List.set_cons_succ]
        refine wpAnyH_take (i := 37) (oi := ({ dst := some 4, op := Op.assign (Operand.tmp 213), type := 4, pos := "laws.go:144", after := #[{ on := 36, ground := Ground.data }, { on := 34, ground := Ground.chain }, { on := 0, ground := Ground.phase }, { on := 1, ground := Ground.phase }, { on := 2, ground := Ground.phase }, { on := 3, ground := Ground.phase }, { on := 4, ground := Ground.phase }, { on := 5, ground := Ground.phase }, { on := 6, ground := Ground.phase }, { on := 7, ground := Ground.phase }, { on := 8, ground := Ground.phase }, { on := 9, ground := Ground.phase }, { on := 10, ground := Ground.phase }, { on := 11, ground := Ground.phase }, { on := 12, ground := Ground.phase }, { on := 13, ground := Ground.phase }, { on := 14, ground := Ground.phase }, { on := 15, ground := Ground.phase }, { on := 16, ground := Ground.phase }, { on := 17, ground := Ground.phase }, { on := 18, ground := Ground.phase }, { on := 19, ground := Ground.phase }, { on := 20, ground := Ground.phase }, { on := 21, ground := Ground.phase }, { on := 22, ground := Ground.phase }, { on := 23, ground := Ground.phase }, { on := 24, ground := Ground.phase }, { on := 25, ground := Ground.phase }, { on := 26, ground := Ground.phase }, { on := 27, ground := Ground.phase }, { on := 28, ground := Ground.phase }, { on := 29, ground := Ground.phase }, { on := 30, ground := Ground.phase }, { on := 31, ground := Ground.phase }, { on := 32, ground := Ground.phase }, { on := 33, ground := Ground.phase }, { on := 34, ground := Ground.phase }, { on := 35, ground := Ground.phase }, { on := 36, ground := Ground.phase }], guard := none } : Oper)) (v := ?_) rfl (by kernel_rfl) (by kernel_rfl) (by kernel_rfl) (fun _ _ _ h => h) (Or.inl ⟨by rfl, ?_⟩) (by assumption) ?_
        rotate_left
        · (intro w hSw; (try dsimp only at hSw); go_simp; try with_reducible rfl)
        try simp only [Act.put, List.setIfInBounds_toArray, List.set_cons_zero, List.set_cons_succ]
        refine wpAnyH_done (by kernel_rfl) ?_ _
        go_wp2
        go_ret
        exact ⟨rfl, below_next hB9 hC1⟩
      · go_simp
        skip
        (try go_wp2_with fail)
        refine hK.out _ _ ?_ (fun hHeldN => ?_)
        · (try dsimp only)
          go_keep
        clear hK K hHeld
        have hHeld := hHeldN
        clear hHeldN
        try simp only [Act.put, List.setIfInBounds_toArray, List.set_cons_zero, List.set_cons_succ]
        refine wpAnyH_ready (rs := [9, 11]) (by kernel_rfl) (by simp) ?_
        refine AllReadyH.cons (o := ({ dst := some 186, op := Op.call { callee := Callee.value (Operand.func 23), args := #[Operand.tmp 182, Operand.tmp 184, Operand.tmp 185], argTypes := #[26, 33, 2] }, type := 9, pos := "laws.go:144", after := #[{ on := 5, ground := Ground.data }, { on := 7, ground := Ground.data }, { on := 8, ground := Ground.data }, { on := 3, ground := Ground.chain }, { on := 3, ground := Ground.guard }], guard := some (3, false) } : Oper)) rfl (fun K hK => ?_) (AllReadyH.cons (o := ({ dst := some 188, op := Op.convert 22 9 (Operand.tmp 187), type := 9, pos := "laws.go:144", after := #[{ on := 10, ground := Ground.data }, { on := 3, ground := Ground.guard }], guard := some (3, false) } : Oper)) rfl (fun K hK => ?_) AllReadyH.nil)
        · go_simp
          go_at_call 23
          refine (implTreeRead_any _ _ lo6 hi6 o.pool o.rs o.rb pg _ ?_).mono ?_
          · first | exact HpX9.out.below (Below.refl _ _).drew | exact HpX9.out | exact HpX9.out.below (below_alloc _ _) | exact HpX9.out.below (below_alloc _ _).drew | exact HpX9.out.below (below_next (Below.refl _ _).drew (below_alloc _ _))
          rintro e wn ⟨⟨dd, rfl, hdd⟩, hbn⟩
          obtain rfl : dd = zero16 := HRd.out dd hdd
          clear hdd
          have hC1 : Below w9.heap.size w9 wn := (by first | exact hbn | exact below_undrew hbn | exact below_next (below_alloc _ _) hbn | exact below_next (below_alloc _ _) (below_undrew hbn) | exact below_next (below_next (Below.refl _ _).drew (below_alloc _ _)) hbn)
          first | (have hcv := zconv_later hbn) | (have hcv := zconv_later (below_undrew hbn)) | (have hcv := zconv wn)
          have hzn := hC1.size
          have nb0 : wn.heap.size ≠ P := (by omega)
          have nb1 : wn.heap.size ≠ P + 1 := (by omega)
          have nb2 : wn.heap.size ≠ X := (by omega)
          obtain ⟨⟨kp0, _⟩, ⟨kp1, _⟩⟩ := HP9.out.below hC1
          obtain ⟨⟨kr0, _⟩, ⟨kr1, _⟩⟩ := HR9.out.below hC1
          obtain ⟨⟨kx0, _⟩, ⟨kx1, _⟩, ⟨kx2, _⟩, ⟨kx3, _⟩, ⟨kx4, _⟩, ⟨kx5, _⟩⟩ := HX9.out.box.below hC1
          (try go_wp2_with fail)
          refine hK.out _ _ ?_ (fun hHeldN => ?_)
          · (try dsimp only)
            go_keep
          clear hK K hHeld
          have hHeld := hHeldN
          clear hHeldN
          try simp only [Act.put, List.setIfInBounds_toArray, List.set_cons_zero, List.set_cons_succ]
          refine wpAnyH_ready (rs := [11]) (by kernel_rfl) (by simp) ?_
          refine AllReadyH.cons (o := ({ dst := some 188, op := Op.convert 22 9 (Operand.tmp 187), type := 9, pos := "laws.go:144", after := #[{ on := 10, ground := Ground.data }, { on := 3, ground := Ground.guard }], guard := some (3, false) } : Oper)) rfl (fun K hK => ?_) AllReadyH.nil
          go_simp
          skip
          (try go_wp2_with fail)
          refine hK.out _ _ ?_ (fun hHeldN => ?_)
          · (try dsimp only)
            go_keep
          clear hK K hHeld
          have hHeld := hHeldN
          clear hHeldN
          try simp only [Act.put, List.setIfInBounds_toArray, List.set_cons_zero, List.set_cons_succ]
          refine wpAnyH_take (i := 12) (oi := ({ dst := some 189, op := Op.binOp BinOp.eql 9 (Operand.tmp 186) (Operand.tmp 188) 9, type := 4, pos := "laws.go:144", after := #[{ on := 9, ground := Ground.data }, { on := 11, ground := Ground.data }, { on := 3, ground := Ground.guard }], guard := some (3, false) } : Oper)) (v := ?_) rfl (by kernel_rfl) (by kernel_rfl) (by kernel_rfl) (fun _ _ _ h => h) (Or.inl ⟨by rfl, ?_⟩) (by assumption) ?_
          rotate_left
          · (intro w hSw; (try dsimp only at hSw); go_simp; try with_reducible rfl)
          try simp only [Act.put, List.setIfInBounds_toArray, List.set_cons_zero, List.set_cons_succ]
          refine wpAnyH_take (i := 13) (oi := ({ dst := some 190, op := Op.move (Operand.tmp 189), type := 4, pos := "laws.go:144", after := #[{ on := 12, ground := Ground.data }, { on := 9, ground := Ground.chain }, { on := 3, ground := Ground.guard }], guard := some (3, false) } : Oper)) (v := ?_) rfl (by kernel_rfl) (by kernel_rfl) (by kernel_rfl) (fun _ _ _ h => h) (Or.inl ⟨by rfl, ?_⟩) (by assumption) ?_
          rotate_left
          · (intro w hSw; (try dsimp only at hSw); go_simp; try with_reducible rfl)
          try simp only [Act.put, List.setIfInBounds_toArray, List.set_cons_zero, List.set_cons_succ]
          refine wpAnyH_take (i := 14) (oi := ({ dst := some 191, op := Op.load 26 (Operand.tmp 12), type := 26, pos := "laws.go:144", after := #[{ on := 13, ground := Ground.guard }], guard := some (13, true) } : Oper)) (v := ?_) rfl (by kernel_rfl) (by kernel_rfl) (by kernel_rfl) (fun _ _ _ h => h) (Or.inl ⟨by rfl, ?_⟩) (by assumption) ?_
          rotate_left
          · (intro w hSw; (try dsimp only at hSw); go_simp; try with_reducible rfl)
          try simp only [Act.put, List.setIfInBounds_toArray, List.set_cons_zero, List.set_cons_succ]
          refine wpAnyH_take (i := 15) (oi := ({ dst := some 192, op := Op.load 33 (Operand.tmp 13), type := 33, pos := "laws.go:144", after := #[{ on := 13, ground := Ground.guard }], guard := some (13, true) } : Oper)) (v := ?_) rfl (by kernel_rfl) (by kernel_rfl) (by kernel_rfl) (fun _ _ _ h => h) (Or.inl ⟨by rfl, ?_⟩) (by assumption) ?_
          rotate_left
          · (intro w hSw; (try dsimp only at hSw); go_simp; try with_reducible rfl)
          try simp only [Act.put, List.setIfInBounds_toArray, List.set_cons_zero, List.set_cons_succ]
          refine wpAnyH_take (i := 16) (oi := ({ dst := some 193, op := Op.fieldAddr 50 (Operand.tmp 16) 0, type := 0, pos := "laws.go:144", after := #[{ on := 13, ground := Ground.guard }], guard := some (13, true) } : Oper)) (v := ?_) rfl (by kernel_rfl) (by kernel_rfl) (by kernel_rfl) (fun _ _ _ h => h) (Or.inl ⟨by rfl, ?_⟩) (by assumption) ?_
          rotate_left
          · (intro w hSw; (try dsimp only at hSw); go_simp; try with_reducible rfl)
          try simp only [Act.put, List.setIfInBounds_toArray, List.set_cons_zero, List.set_cons_succ]
          refine wpAnyH_take (i := 17) (oi := ({ dst := some 194, op := Op.load 26 (Operand.tmp 193), type := 26, pos := "laws.go:144", after := #[{ on := 16, ground := Ground.data }, { on := 13, ground := Ground.guard }], guard := some (13, true) } : Oper)) (v := ?_) rfl (by kernel_rfl) (by kernel_rfl) (by kernel_rfl) (fun _ _ _ h => h) (Or.inl ⟨by rfl, ?_⟩) (by assumption) ?_
          rotate_left
          · (intro w hSw; (try dsimp only at hSw); go_simp; try with_reducible rfl)
          try simp only [Act.put, List.setIfInBounds_toArray, List.set_cons_zero, List.set_cons_succ]
          refine wpAnyH_take (i := 18) (oi := ({ dst := some 195, op := Op.fieldAddr 50 (Operand.tmp 16) 1, type := 0, pos := "laws.go:144", after := #[{ on := 13, ground := Ground.guard }], guard := some (13, true) } : Oper)) (v := ?_) rfl (by kernel_rfl) (by kernel_rfl) (by kernel_rfl) (fun _ _ _ h => h) (Or.inl ⟨by rfl, ?_⟩) (by assumption) ?_
          rotate_left
          · (intro w hSw; (try dsimp only at hSw); go_simp; try with_reducible rfl)
          try simp only [Act.put, List.setIfInBounds_toArray, List.set_cons_zero, List.set_cons_succ]
          refine wpAnyH_take (i := 19) (oi := ({ dst := some 196, op := Op.load 33 (Operand.tmp 195), type := 33, pos := "laws.go:144", after := #[{ on := 18, ground := Ground.data }, { on := 13, ground := Ground.guard }], guard := some (13, true) } : Oper)) (v := ?_) rfl (by kernel_rfl) (by kernel_rfl) (by kernel_rfl) (fun _ _ _ h => h) (Or.inl ⟨by rfl, ?_⟩) (by assumption) ?_
          rotate_left
          · (intro w hSw; (try dsimp only at hSw); go_simp; try with_reducible rfl)
          try simp only [Act.put, List.setIfInBounds_toArray, List.set_cons_zero, List.set_cons_succ]
          refine wpAnyH_take (i := 20) (oi := ({ dst := some 197, op := Op.move (Operand.tmp 14), type := 2, pos := "laws.go:144", after := #[{ on := 13, ground := Ground.guard }], guard := some (13, true) } : Oper)) (v := ?_) rfl (by kernel_rfl) (by kernel_rfl) (by kernel_rfl) (fun _ _ _ h => h) (Or.inl ⟨by rfl, ?_⟩) (by assumption) ?_
          rotate_left
          · (intro w hSw; (try dsimp only at hSw); go_simp; try with_reducible rfl)
          try simp only [Act.put, List.setIfInBounds_toArray, List.set_cons_zero, List.set_cons_succ]
          refine wpAnyH_ready (rs := [21]) (by kernel_rfl) (by simp) ?_
          refine AllReadyH.cons (o := ({ dst := some 198, op := Op.call { callee := Callee.value (Operand.func 24), args := #[Operand.tmp 191, Operand.tmp 192, Operand.tmp 194, Operand.tmp 196, Operand.tmp 197], argTypes := #[26, 33, 26, 33, 2] }, type := 4, pos := "laws.go:144", after := #[{ on := 14, ground := Ground.data }, { on := 15, ground := Ground.data }, { on := 17, ground := Ground.data }, { on := 19, ground := Ground.data }, { on := 20, ground := Ground.data }, { on := 13, ground := Ground.chain }, { on := 13, ground := Ground.guard }], guard := some (13, true) } : Oper)) rfl (fun K hK => ?_) AllReadyH.nil
          go_simp
          go_at_call 24
          refine (lwSame_known _ _ _ _ _ _ _ _ _ _ ?_).mono ?_
          · first | exact ⟨_, _, _, _, q, o.pool, Hq9.out.below hC1, HpX9.out.below hC1, HT.out, HT1.out, HS1.out⟩ | exact ⟨_, _, _, _, q, o.pool, Hq9.out.below (below_next hC1 (below_alloc _ _)), HpX9.out.below (below_next hC1 (below_alloc _ _)), HT.out, HT1.out, HS1.out⟩
          rintro e wn2 ⟨rfl, hbn2⟩
          have hC1 : Below w9.heap.size w9 wn2 := (by first | exact below_next hC1 hbn2 | exact below_next (below_next hC1 (below_alloc _ _)) hbn2)
          obtain ⟨⟨kp0, _⟩, ⟨kp1, _⟩⟩ := HP9.out.below hC1
          obtain ⟨⟨kr0, _⟩, ⟨kr1, _⟩⟩ := HR9.out.below hC1
          obtain ⟨⟨kx0, _⟩, ⟨kx1, _⟩, ⟨kx2, _⟩, ⟨kx3, _⟩, ⟨kx4, _⟩, ⟨kx5, _⟩⟩ := HX9.out.box.below hC1
          (try go_wp2_with fail)
          refine hK.out _ _ ?_ (fun hHeldN => ?_)
          · (try dsimp only)
            go_keep
          clear hK K hHeld
          have hHeld := hHeldN
          clear hHeldN
          try simp only [Act.put, List.setIfInBounds_toArray, List.set_cons_zero, List.set_cons_succ]
          refine wpAnyH_take (i := 22) (oi := ({ dst := some 199, op := Op.pick (Operand.tmp 190) (Operand.tmp 198) (Operand.const (Value.bool false)), type := 4, pos := "laws.go:144", after := #[{ on := 13, ground := Ground.data }, { on := 21, ground := Ground.data }, { on := 3, ground := Ground.guard }], guard := some (3, false) } : Oper)) (v := ?_) rfl (by kernel_rfl) (by kernel_rfl) (by kernel_rfl) (fun _ _ _ h => h) (Or.inl ⟨by rfl, ?_⟩) (by assumption) ?_
          rotate_left
          · (intro w hSw; (try dsimp only at hSw); go_simp; try with_reducible rfl)
          try simp only [Act.put, List.setIfInBounds_toArray, List.set_cons_zero, List.set_cons_succ]
          refine wpAnyH_take (i := 23) (oi := ({ dst := some 200, op := Op.move (Operand.tmp 199), type := 4, pos := "laws.go:144", after := #[{ on := 22, ground := Ground.data }, { on := 21, ground := Ground.chain }, { on := 3, ground := Ground.guard }], guard := some (3, false) } : Oper)) (v := ?_) rfl (by kernel_rfl) (by kernel_rfl) (by kernel_rfl) (fun _ _ _ h => h) (Or.inl ⟨by rfl, ?_⟩) (by assumption) ?_
          rotate_left
          · (intro w hSw; (try dsimp only at hSw); go_simp; try with_reducible rfl)
          try simp only [Act.put, List.setIfInBounds_toArray, List.set_cons_zero, List.set_cons_succ]
          refine wpAnyH_take (i := 24) (oi := ({ dst := some 201, op := Op.load 26 (Operand.tmp 12), type := 26, pos := "laws.go:144", after := #[{ on := 23, ground := Ground.guard }], guard := some (23, true) } : Oper)) (v := ?_) rfl (by kernel_rfl) (by kernel_rfl) (by kernel_rfl) (fun _ _ _ h => h) (Or.inl ⟨by rfl, ?_⟩) (by assumption) ?_
          rotate_left
          · (intro w hSw; (try dsimp only at hSw); go_simp; try with_reducible rfl)
          try simp only [Act.put, List.setIfInBounds_toArray, List.set_cons_zero, List.set_cons_succ]
          refine wpAnyH_take (i := 25) (oi := ({ dst := some 202, op := Op.load 33 (Operand.tmp 13), type := 33, pos := "laws.go:144", after := #[{ on := 23, ground := Ground.guard }], guard := some (23, true) } : Oper)) (v := ?_) rfl (by kernel_rfl) (by kernel_rfl) (by kernel_rfl) (fun _ _ _ h => h) (Or.inl ⟨by rfl, ?_⟩) (by assumption) ?_
          rotate_left
          · (intro w hSw; (try dsimp only at hSw); go_simp; try with_reducible rfl)
          try simp only [Act.put, List.setIfInBounds_toArray, List.set_cons_zero, List.set_cons_succ]
          refine wpAnyH_take (i := 27) (oi := ({ dst := some 204, op := Op.fieldAddr 50 (Operand.tmp 16) 0, type := 0, pos := "laws.go:144", after := #[{ on := 23, ground := Ground.guard }], guard := some (23, true) } : Oper)) (v := ?_) rfl (by kernel_rfl) (by kernel_rfl) (by kernel_rfl) (fun _ _ _ h => h) (Or.inl ⟨by rfl, ?_⟩) (by assumption) ?_
          rotate_left
          · (intro w hSw; (try dsimp only at hSw); go_simp; try with_reducible rfl)
          try simp only [Act.put, List.setIfInBounds_toArray, List.set_cons_zero, List.set_cons_succ]
          refine wpAnyH_take (i := 28) (oi := ({ dst := some 205, op := Op.load 26 (Operand.tmp 204), type := 26, pos := "laws.go:144", after := #[{ on := 27, ground := Ground.data }, { on := 23, ground := Ground.guard }], guard := some (23, true) } : Oper)) (v := ?_) rfl (by kernel_rfl) (by kernel_rfl) (by kernel_rfl) (fun _ _ _ h => h) (Or.inl ⟨by rfl, ?_⟩) (by assumption) ?_
          rotate_left
          · (intro w hSw; (try dsimp only at hSw); go_simp; try with_reducible rfl)
          try simp only [Act.put, List.setIfInBounds_toArray, List.set_cons_zero, List.set_cons_succ]
          refine wpAnyH_take (i := 29) (oi := ({ dst := some 206, op := Op.fieldAddr 50 (Operand.tmp 16) 1, type := 0, pos := "laws.go:144", after := #[{ on := 23, ground := Ground.guard }], guard := some (23, true) } : Oper)) (v := ?_) rfl (by kernel_rfl) (by kernel_rfl) (by kernel_rfl) (fun _ _ _ h => h) (Or.inl ⟨by rfl, ?_⟩) (by assumption) ?_
          rotate_left
          · (intro w hSw; (try dsimp only at hSw); go_simp; try with_reducible rfl)
          try simp only [Act.put, List.setIfInBounds_toArray, List.set_cons_zero, List.set_cons_succ]
          refine wpAnyH_take (i := 30) (oi := ({ dst := some 207, op := Op.load 33 (Operand.tmp 206), type := 33, pos := "laws.go:144", after := #[{ on := 29, ground := Ground.data }, { on := 23, ground := Ground.guard }], guard := some (23, true) } : Oper)) (v := ?_) rfl (by kernel_rfl) (by kernel_rfl) (by kernel_rfl) (fun _ _ _ h => h) (Or.inl ⟨by rfl, ?_⟩) (by assumption) ?_
          rotate_left
          · (intro w hSw; (try dsimp only at hSw); go_simp; try with_reducible rfl)
          try simp only [Act.put, List.setIfInBounds_toArray, List.set_cons_zero, List.set_cons_succ]
          refine wpAnyH_take (i := 32) (oi := ({ dst := some 209, op := Op.fieldAddr 50 (Operand.tmp 16) 2, type := 0, pos := "laws.go:144", after := #[{ on := 23, ground := Ground.guard }], guard := some (23, true) } : Oper)) (v := ?_) rfl (by kernel_rfl) (by kernel_rfl) (by kernel_rfl) (fun _ _ _ h => h) (Or.inl ⟨by rfl, ?_⟩) (by assumption) ?_
          rotate_left
          · (intro w hSw; (try dsimp only at hSw); go_simp; try with_reducible rfl)
          try simp only [Act.put, List.setIfInBounds_toArray, List.set_cons_zero, List.set_cons_succ]
          refine wpAnyH_take (i := 33) (oi := ({ dst := some 210, op := Op.load 27 (Operand.tmp 209), type := 27, pos := "laws.go:144", after := #[{ on := 32, ground := Ground.data }, { on := 23, ground := Ground.guard }], guard := some (23, true) } : Oper)) (v := ?_) rfl (by kernel_rfl) (by kernel_rfl) (by kernel_rfl) (fun _ _ _ h => h) (Or.inl ⟨by rfl, ?_⟩) (by assumption) ?_
          rotate_left
          · (intro w hSw; (try dsimp only at hSw); go_simp; try with_reducible rfl)
          try simp only [Act.put, List.setIfInBounds_toArray, List.set_cons_zero, List.set_cons_succ]
          refine wpAnyH_ready (rs := [26]) (by kernel_rfl) (by simp) ?_
          refine AllReadyH.cons (o := ({ dst := some 203, op := Op.call { callee := Callee.value (Operand.func 26), args := #[Operand.tmp 201, Operand.tmp 202], argTypes := #[26, 33] }, type := 27, pos := "laws.go:144", after := #[{ on := 24, ground := Ground.data }, { on := 25, ground := Ground.data }, { on := 23, ground := Ground.chain }, { on := 23, ground := Ground.guard }], guard := some (23, true) } : Oper)) rfl (fun K hK => ?_) AllReadyH.nil
          go_simp
          go_at_call 26
          refine (specTreePtrs_any _ _ _ _ q rs rb _ (Hq9.out.below hC1)).mono ?_
          rintro e wn3 ⟨v1', l1, rfl, hl1, hr1, hbn3⟩
          obtain rfl := hl1.1 HT.out
          obtain ⟨la1, lc1, rfl, _⟩ := owns_form hr1
          have hR1 := hr1.at0 (by have := treeL_len q rs rb; omega)
          have hC1 : Below w9.heap.size w9 wn3 := below_next hC1 hbn3
          obtain ⟨⟨kp0, _⟩, ⟨kp1, _⟩⟩ := HP9.out.below hC1
          obtain ⟨⟨kr0, _⟩, ⟨kr1, _⟩⟩ := HR9.out.below hC1
          obtain ⟨⟨kx0, _⟩, ⟨kx1, _⟩, ⟨kx2, _⟩, ⟨kx3, _⟩, ⟨kx4, _⟩, ⟨kx5, _⟩⟩ := HX9.out.box.below hC1
          (try go_wp2_with fail)
          refine hK.out _ _ ?_ (fun hHeldN => ?_)
          · (try dsimp only)
            go_keep
          clear hK K hHeld
          have hHeld := hHeldN
          clear hHeldN
          try simp only [Act.put, List.setIfInBounds_toArray, List.set_cons_zero, List.set_cons_succ]
          refine wpAnyH_ready (rs := [31]) (by kernel_rfl) (by simp) ?_
          refine AllReadyH.cons (o := ({ dst := some 208, op := Op.call { callee := Callee.value (Operand.func 27), args := #[Operand.tmp 205, Operand.tmp 207], argTypes := #[26, 33] }, type := 27, pos := "laws.go:144", after := #[{ on := 28, ground := Ground.data }, { on := 30, ground := Ground.data }, { on := 26, ground := Ground.chain }, { on := 23, ground := Ground.guard }], guard := some (23, true) } : Oper)) rfl (fun K hK => ?_) AllReadyH.nil
          go_simp
          go_at_call 27
          refine (implTreePtrs_any _ _ _ _ o.pool o.rs o.rb _ (HpX9.out.below hC1)).mono ?_
          rintro e wn4 ⟨v2', l2, rfl, hl2, hr2, hbn4⟩
          obtain rfl := hl2.1 HT1.out
          obtain ⟨la2, lc2, rfl, _⟩ := owns_form hr2
          have hR2 := hr2.at0 (by have := treeL_len o.pool o.rs o.rb; omega)
          have hR1' := hR1.below hbn4
          have hC1 : Below w9.heap.size w9 wn4 := below_next hC1 hbn4
          obtain ⟨⟨kp0, _⟩, ⟨kp1, _⟩⟩ := HP9.out.below hC1
          obtain ⟨⟨kr0, _⟩, ⟨kr1, _⟩⟩ := HR9.out.below hC1
          obtain ⟨⟨kx0, _⟩, ⟨kx1, _⟩, ⟨kx2, _⟩, ⟨kx3, _⟩, ⟨kx4, _⟩, ⟨kx5, _⟩⟩ := HX9.out.box.below hC1
          (try go_wp2_with fail)
          refine hK.out _ _ ?_ (fun hHeldN => ?_)
          · (try dsimp only)
            go_keep
          clear hK K hHeld
          have hHeld := hHeldN
          clear hHeldN
          try simp only [Act.put, List.setIfInBounds_toArray, List.set_cons_zero, List.set_cons_succ]
          refine wpAnyH_ready (rs := [34]) (by kernel_rfl) (by simp) ?_
          refine AllReadyH.cons (o := ({ dst := some 211, op := Op.call { callee := Callee.value (Operand.func 25), args := #[Operand.tmp 203, Operand.tmp 208, Operand.tmp 210], argTypes := #[27, 27, 27] }, type := 4, pos := "laws.go:144", after := #[{ on := 26, ground := Ground.data }, { on := 31, ground := Ground.data }, { on := 33, ground := Ground.data }, { on := 31, ground := Ground.chain }, { on := 23, ground := Ground.guard }], guard := some (23, true) } : Oper)) rfl (fun K hK => ?_) AllReadyH.nil
          go_simp
          go_at_call 25
          refine (lwGone_any _ _ _ (treeL q rs rb) (treeL o.pool o.rs o.rb) o.old _ _ _ _ _ _ _ hR1' hR2 (HrX.out.below hC1) (by have := treeL_len q rs rb; omega) HG.out.1 HG.out.2).mono ?_
          rintro e wn5 ⟨rfl, hbn5⟩
          have hC1 : Below w9.heap.size w9 wn5 := below_next hC1 hbn5
          obtain ⟨⟨kp0, _⟩, ⟨kp1, _⟩⟩ := HP9.out.below hC1
          obtain ⟨⟨kr0, _⟩, ⟨kr1, _⟩⟩ := HR9.out.below hC1
          obtain ⟨⟨kx0, _⟩, ⟨kx1, _⟩, ⟨kx2, _⟩, ⟨kx3, _⟩, ⟨kx4, _⟩, ⟨kx5, _⟩⟩ := HX9.out.box.below hC1
          (try go_wp2_with fail)
          refine hK.out _ _ ?_ (fun hHeldN => ?_)
          · (try dsimp only)
            go_keep
          clear hK K hHeld
          have hHeld := hHeldN
          clear hHeldN
          try simp only [Act.put, List.setIfInBounds_toArray, List.set_cons_zero, List.set_cons_succ]
          refine wpAnyH_take (i := 35) (oi := ({ dst := some 212, op := Op.pick (Operand.tmp 200) (Operand.tmp 211) (Operand.const (Value.bool false)), type := 4, pos := "laws.go:144", after := #[{ on := 23, ground := Ground.data }, { on := 34, ground := Ground.data }, { on := 3, ground := Ground.guard }], guard := some (3, false) } : Oper)) (v := ?_) rfl (by kernel_rfl) (by kernel_rfl) (by kernel_rfl) (fun _ _ _ h => h) (Or.inl ⟨by rfl, ?_⟩) (by assumption) ?_
          rotate_left
          · (intro w hSw; (try dsimp only at hSw); go_simp; try with_reducible rfl)
          try simp only [Act.put, List.setIfInBounds_toArray, List.set_cons_zero, List.set_cons_succ]
          refine wpAnyH_take (i := 36) (oi := ({ dst := some 213, op := Op.pick (Operand.tmp 180) (Operand.const (Value.bool true)) (Operand.tmp 212), type := 4, pos := "laws.go:144", after := #[{ on := 3, ground := Ground.data }, { on := 35, ground := Ground.data }], guard := none } : Oper)) (v := ?_) rfl (by kernel_rfl) (by kernel_rfl) (by kernel_rfl) (fun _ _ _ h => h) (Or.inl ⟨by rfl, ?_⟩) (by assumption) ?_
          rotate_left
          · (intro w hSw; (try dsimp only at hSw); go_simp; try with_reducible rfl)
          try simp only [Act.put, List.setIfInBounds_toArray, List.set_cons_zero, List.set_cons_succ]
          refine wpAnyH_take (i := 37) (oi := ({ dst := some 4, op := Op.assign (Operand.tmp 213), type := 4, pos := "laws.go:144", after := #[{ on := 36, ground := Ground.data }, { on := 34, ground := Ground.chain }, { on := 0, ground := Ground.phase }, { on := 1, ground := Ground.phase }, { on := 2, ground := Ground.phase }, { on := 3, ground := Ground.phase }, { on := 4, ground := Ground.phase }, { on := 5, ground := Ground.phase }, { on := 6, ground := Ground.phase }, { on := 7, ground := Ground.phase }, { on := 8, ground := Ground.phase }, { on := 9, ground := Ground.phase }, { on := 10, ground := Ground.phase }, { on := 11, ground := Ground.phase }, { on := 12, ground := Ground.phase }, { on := 13, ground := Ground.phase }, { on := 14, ground := Ground.phase }, { on := 15, ground := Ground.phase }, { on := 16, ground := Ground.phase }, { on := 17, ground := Ground.phase }, { on := 18, ground := Ground.phase }, { on := 19, ground := Ground.phase }, { on := 20, ground := Ground.phase }, { on := 21, ground := Ground.phase }, { on := 22, ground := Ground.phase }, { on := 23, ground := Ground.phase }, { on := 24, ground := Ground.phase }, { on := 25, ground := Ground.phase }, { on := 26, ground := Ground.phase }, { on := 27, ground := Ground.phase }, { on := 28, ground := Ground.phase }, { on := 29, ground := Ground.phase }, { on := 30, ground := Ground.phase }, { on := 31, ground := Ground.phase }, { on := 32, ground := Ground.phase }, { on := 33, ground := Ground.phase }, { on := 34, ground := Ground.phase }, { on := 35, ground := Ground.phase }, { on := 36, ground := Ground.phase }], guard := none } : Oper)) (v := ?_) rfl (by kernel_rfl) (by kernel_rfl) (by kernel_rfl) (fun _ _ _ h => h) (Or.inl ⟨by rfl, ?_⟩) (by assumption) ?_
          rotate_left
          · (intro w hSw; (try dsimp only at hSw); go_simp; try with_reducible rfl)
          try simp only [Act.put, List.setIfInBounds_toArray, List.set_cons_zero, List.set_cons_succ]
          refine wpAnyH_done (by kernel_rfl) ?_ _
          go_wp2
          go_ret
          exact ⟨rfl, below_next hB9 hC1⟩
        · go_simp
          skip
          (try go_wp2_with fail)
          refine hK.out _ _ ?_ (fun hHeldN => ?_)
          · (try dsimp only)
            go_keep
          clear hK K hHeld
          have hHeld := hHeldN
          clear hHeldN
          try simp only [Act.put, List.setIfInBounds_toArray, List.set_cons_zero, List.set_cons_succ]
          refine wpAnyH_ready (rs := [9]) (by kernel_rfl) (by simp) ?_
          refine AllReadyH.cons (o := ({ dst := some 186, op := Op.call { callee := Callee.value (Operand.func 23), args := #[Operand.tmp 182, Operand.tmp 184, Operand.tmp 185], argTypes := #[26, 33, 2] }, type := 9, pos := "laws.go:144", after := #[{ on := 5, ground := Ground.data }, { on := 7, ground := Ground.data }, { on := 8, ground := Ground.data }, { on := 3, ground := Ground.chain }, { on := 3, ground := Ground.guard }], guard := some (3, false) } : Oper)) rfl (fun K hK => ?_) AllReadyH.nil
          go_simp
          go_at_call 23
          refine (implTreeRead_any _ _ lo6 hi6 o.pool o.rs o.rb pg _ ?_).mono ?_
          · first | exact HpX9.out.below (Below.refl _ _).drew | exact HpX9.out | exact HpX9.out.below (below_alloc _ _) | exact HpX9.out.below (below_alloc _ _).drew | exact HpX9.out.below (below_next (Below.refl _ _).drew (below_alloc _ _))
          rintro e wn ⟨⟨dd, rfl, hdd⟩, hbn⟩
          obtain rfl : dd = zero16 := HRd.out dd hdd
          clear hdd
          have hC1 : Below w9.heap.size w9 wn := (by first | exact hbn | exact below_undrew hbn | exact below_next (below_alloc _ _) hbn | exact below_next (below_alloc _ _) (below_undrew hbn) | exact below_next (below_next (Below.refl _ _).drew (below_alloc _ _)) hbn)
          first | (have hcv := zconv_later hbn) | (have hcv := zconv_later (below_undrew hbn)) | (have hcv := zconv wn)
          have hzn := hC1.size
          have nb0 : wn.heap.size ≠ P := (by omega)
          have nb1 : wn.heap.size ≠ P + 1 := (by omega)
          have nb2 : wn.heap.size ≠ X := (by omega)
          obtain ⟨⟨kp0, _⟩, ⟨kp1, _⟩⟩ := HP9.out.below hC1
          obtain ⟨⟨kr0, _⟩, ⟨kr1, _⟩⟩ := HR9.out.below hC1
          obtain ⟨⟨kx0, _⟩, ⟨kx1, _⟩, ⟨kx2, _⟩, ⟨kx3, _⟩, ⟨kx4, _⟩, ⟨kx5, _⟩⟩ := HX9.out.box.below hC1
          (try go_wp2_with fail)
          refine hK.out _ _ ?_ (fun hHeldN => ?_)
          · (try dsimp only)
            go_keep
          clear hK K hHeld
          have hHeld := hHeldN
          clear hHeldN
          try simp only [Act.put, List.setIfInBounds_toArray, List.set_cons_zero, List.set_cons_succ]
          refine wpAnyH_take (i := 12) (oi := ({ dst := some 189, op := Op.binOp BinOp.eql 9 (Operand.tmp 186) (Operand.tmp 188) 9, type := 4, pos := "laws.go:144", after := #[{ on := 9, ground := Ground.data }, { on := 11, ground := Ground.data }, { on := 3, ground := Ground.guard }], guard := some (3, false) } : Oper)) (v := ?_) rfl (by kernel_rfl) (by kernel_rfl) (by kernel_rfl) (fun _ _ _ h => h) (Or.inl ⟨by rfl, ?_⟩) (by assumption) ?_
          rotate_left
          · (intro w hSw; (try dsimp only at hSw); go_simp; try with_reducible rfl)
          try simp only [Act.put, List.setIfInBounds_toArray, List.set_cons_zero, List.set_cons_succ]
          refine wpAnyH_take (i := 13) (oi := ({ dst := some 190, op := Op.move (Operand.tmp 189), type := 4, pos := "laws.go:144", after := #[{ on := 12, ground := Ground.data }, { on := 9, ground := Ground.chain }, { on := 3, ground := Ground.guard }], guard := some (3, false) } : Oper)) (v := ?_) rfl (by kernel_rfl) (by kernel_rfl) (by kernel_rfl) (fun _ _ _ h => h) (Or.inl ⟨by rfl, ?_⟩) (by assumption) ?_
          rotate_left
          · (intro w hSw; (try dsimp only at hSw); go_simp; try with_reducible rfl)
          try simp only [Act.put, List.setIfInBounds_toArray, List.set_cons_zero, List.set_cons_succ]
          refine wpAnyH_take (i := 14) (oi := ({ dst := some 191, op := Op.load 26 (Operand.tmp 12), type := 26, pos := "laws.go:144", after := #[{ on := 13, ground := Ground.guard }], guard := some (13, true) } : Oper)) (v := ?_) rfl (by kernel_rfl) (by kernel_rfl) (by kernel_rfl) (fun _ _ _ h => h) (Or.inl ⟨by rfl, ?_⟩) (by assumption) ?_
          rotate_left
          · (intro w hSw; (try dsimp only at hSw); go_simp; try with_reducible rfl)
          try simp only [Act.put, List.setIfInBounds_toArray, List.set_cons_zero, List.set_cons_succ]
          refine wpAnyH_take (i := 15) (oi := ({ dst := some 192, op := Op.load 33 (Operand.tmp 13), type := 33, pos := "laws.go:144", after := #[{ on := 13, ground := Ground.guard }], guard := some (13, true) } : Oper)) (v := ?_) rfl (by kernel_rfl) (by kernel_rfl) (by kernel_rfl) (fun _ _ _ h => h) (Or.inl ⟨by rfl, ?_⟩) (by assumption) ?_
          rotate_left
          · (intro w hSw; (try dsimp only at hSw); go_simp; try with_reducible rfl)
          try simp only [Act.put, List.setIfInBounds_toArray, List.set_cons_zero, List.set_cons_succ]
          refine wpAnyH_take (i := 16) (oi := ({ dst := some 193, op := Op.fieldAddr 50 (Operand.tmp 16) 0, type := 0, pos := "laws.go:144", after := #[{ on := 13, ground := Ground.guard }], guard := some (13, true) } : Oper)) (v := ?_) rfl (by kernel_rfl) (by kernel_rfl) (by kernel_rfl) (fun _ _ _ h => h) (Or.inl ⟨by rfl, ?_⟩) (by assumption) ?_
          rotate_left
          · (intro w hSw; (try dsimp only at hSw); go_simp; try with_reducible rfl)
          try simp only [Act.put, List.setIfInBounds_toArray, List.set_cons_zero, List.set_cons_succ]
          refine wpAnyH_take (i := 17) (oi := ({ dst := some 194, op := Op.load 26 (Operand.tmp 193), type := 26, pos := "laws.go:144", after := #[{ on := 16, ground := Ground.data }, { on := 13, ground := Ground.guard }], guard := some (13, true) } : Oper)) (v := ?_) rfl (by kernel_rfl) (by kernel_rfl) (by kernel_rfl) (fun _ _ _ h => h) (Or.inl ⟨by rfl, ?_⟩) (by assumption) ?_
          rotate_left
          · (intro w hSw; (try dsimp only at hSw); go_simp; try with_reducible rfl)
          try simp only [Act.put, List.setIfInBounds_toArray, List.set_cons_zero, List.set_cons_succ]
          refine wpAnyH_take (i := 18) (oi := ({ dst := some 195, op := Op.fieldAddr 50 (Operand.tmp 16) 1, type := 0, pos := "laws.go:144", after := #[{ on := 13, ground := Ground.guard }], guard := some (13, true) } : Oper)) (v := ?_) rfl (by kernel_rfl) (by kernel_rfl) (by kernel_rfl) (fun _ _ _ h => h) (Or.inl ⟨by rfl, ?_⟩) (by assumption) ?_
          rotate_left
          · (intro w hSw; (try dsimp only at hSw); go_simp; try with_reducible rfl)
          try simp only [Act.put, List.setIfInBounds_toArray, List.set_cons_zero, List.set_cons_succ]
          refine wpAnyH_take (i := 19) (oi := ({ dst := some 196, op := Op.load 33 (Operand.tmp 195), type := 33, pos := "laws.go:144", after := #[{ on := 18, ground := Ground.data }, { on := 13, ground := Ground.guard }], guard := some (13, true) } : Oper)) (v := ?_) rfl (by kernel_rfl) (by kernel_rfl) (by kernel_rfl) (fun _ _ _ h => h) (Or.inl ⟨by rfl, ?_⟩) (by assumption) ?_
          rotate_left
          · (intro w hSw; (try dsimp only at hSw); go_simp; try with_reducible rfl)
          try simp only [Act.put, List.setIfInBounds_toArray, List.set_cons_zero, List.set_cons_succ]
          refine wpAnyH_take (i := 20) (oi := ({ dst := some 197, op := Op.move (Operand.tmp 14), type := 2, pos := "laws.go:144", after := #[{ on := 13, ground := Ground.guard }], guard := some (13, true) } : Oper)) (v := ?_) rfl (by kernel_rfl) (by kernel_rfl) (by kernel_rfl) (fun _ _ _ h => h) (Or.inl ⟨by rfl, ?_⟩) (by assumption) ?_
          rotate_left
          · (intro w hSw; (try dsimp only at hSw); go_simp; try with_reducible rfl)
          try simp only [Act.put, List.setIfInBounds_toArray, List.set_cons_zero, List.set_cons_succ]
          refine wpAnyH_ready (rs := [21]) (by kernel_rfl) (by simp) ?_
          refine AllReadyH.cons (o := ({ dst := some 198, op := Op.call { callee := Callee.value (Operand.func 24), args := #[Operand.tmp 191, Operand.tmp 192, Operand.tmp 194, Operand.tmp 196, Operand.tmp 197], argTypes := #[26, 33, 26, 33, 2] }, type := 4, pos := "laws.go:144", after := #[{ on := 14, ground := Ground.data }, { on := 15, ground := Ground.data }, { on := 17, ground := Ground.data }, { on := 19, ground := Ground.data }, { on := 20, ground := Ground.data }, { on := 13, ground := Ground.chain }, { on := 13, ground := Ground.guard }], guard := some (13, true) } : Oper)) rfl (fun K hK => ?_) AllReadyH.nil
          go_simp
          go_at_call 24
          refine (lwSame_known _ _ _ _ _ _ _ _ _ _ ?_).mono ?_
          · first | exact ⟨_, _, _, _, q, o.pool, Hq9.out.below hC1, HpX9.out.below hC1, HT.out, HT1.out, HS1.out⟩ | exact ⟨_, _, _, _, q, o.pool, Hq9.out.below (below_next hC1 (below_alloc _ _)), HpX9.out.below (below_next hC1 (below_alloc _ _)), HT.out, HT1.out, HS1.out⟩
          rintro e wn2 ⟨rfl, hbn2⟩
          have hC1 : Below w9.heap.size w9 wn2 := (by first | exact below_next hC1 hbn2 | exact below_next (below_next hC1 (below_alloc _ _)) hbn2)
          obtain ⟨⟨kp0, _⟩, ⟨kp1, _⟩⟩ := HP9.out.below hC1
          obtain ⟨⟨kr0, _⟩, ⟨kr1, _⟩⟩ := HR9.out.below hC1
          obtain ⟨⟨kx0, _⟩, ⟨kx1, _⟩, ⟨kx2, _⟩, ⟨kx3, _⟩, ⟨kx4, _⟩, ⟨kx5, _⟩⟩ := HX9.out.box.below hC1
          (try go_wp2_with fail)
          refine hK.out _ _ ?_ (fun hHeldN => ?_)
          · (try dsimp only)
            go_keep
          clear hK K hHeld
          have hHeld := hHeldN
          clear hHeldN
          try simp only [Act.put, List.setIfInBounds_toArray, List.set_cons_zero, List.set_cons_succ]
          refine wpAnyH_take (i := 22) (oi := ({ dst := some 199, op := Op.pick (Operand.tmp 190) (Operand.tmp 198) (Operand.const (Value.bool false)), type := 4, pos := "laws.go:144", after := #[{ on := 13, ground := Ground.data }, { on := 21, ground := Ground.data }, { on := 3, ground := Ground.guard }], guard := some (3, false) } : Oper)) (v := ?_) rfl (by kernel_rfl) (by kernel_rfl) (by kernel_rfl) (fun _ _ _ h => h) (Or.inl ⟨by rfl, ?_⟩) (by assumption) ?_
          rotate_left
          · (intro w hSw; (try dsimp only at hSw); go_simp; try with_reducible rfl)
          try simp only [Act.put, List.setIfInBounds_toArray, List.set_cons_zero, List.set_cons_succ]
          refine wpAnyH_take (i := 23) (oi := ({ dst := some 200, op := Op.move (Operand.tmp 199), type := 4, pos := "laws.go:144", after := #[{ on := 22, ground := Ground.data }, { on := 21, ground := Ground.chain }, { on := 3, ground := Ground.guard }], guard := some (3, false) } : Oper)) (v := ?_) rfl (by kernel_rfl) (by kernel_rfl) (by kernel_rfl) (fun _ _ _ h => h) (Or.inl ⟨by rfl, ?_⟩) (by assumption) ?_
          rotate_left
          · (intro w hSw; (try dsimp only at hSw); go_simp; try with_reducible rfl)
          try simp only [Act.put, List.setIfInBounds_toArray, List.set_cons_zero, List.set_cons_succ]
          refine wpAnyH_take (i := 24) (oi := ({ dst := some 201, op := Op.load 26 (Operand.tmp 12), type := 26, pos := "laws.go:144", after := #[{ on := 23, ground := Ground.guard }], guard := some (23, true) } : Oper)) (v := ?_) rfl (by kernel_rfl) (by kernel_rfl) (by kernel_rfl) (fun _ _ _ h => h) (Or.inl ⟨by rfl, ?_⟩) (by assumption) ?_
          rotate_left
          · (intro w hSw; (try dsimp only at hSw); go_simp; try with_reducible rfl)
          try simp only [Act.put, List.setIfInBounds_toArray, List.set_cons_zero, List.set_cons_succ]
          refine wpAnyH_take (i := 25) (oi := ({ dst := some 202, op := Op.load 33 (Operand.tmp 13), type := 33, pos := "laws.go:144", after := #[{ on := 23, ground := Ground.guard }], guard := some (23, true) } : Oper)) (v := ?_) rfl (by kernel_rfl) (by kernel_rfl) (by kernel_rfl) (fun _ _ _ h => h) (Or.inl ⟨by rfl, ?_⟩) (by assumption) ?_
          rotate_left
          · (intro w hSw; (try dsimp only at hSw); go_simp; try with_reducible rfl)
          try simp only [Act.put, List.setIfInBounds_toArray, List.set_cons_zero, List.set_cons_succ]
          refine wpAnyH_take (i := 27) (oi := ({ dst := some 204, op := Op.fieldAddr 50 (Operand.tmp 16) 0, type := 0, pos := "laws.go:144", after := #[{ on := 23, ground := Ground.guard }], guard := some (23, true) } : Oper)) (v := ?_) rfl (by kernel_rfl) (by kernel_rfl) (by kernel_rfl) (fun _ _ _ h => h) (Or.inl ⟨by rfl, ?_⟩) (by assumption) ?_
          rotate_left
          · (intro w hSw; (try dsimp only at hSw); go_simp; try with_reducible rfl)
          try simp only [Act.put, List.setIfInBounds_toArray, List.set_cons_zero, List.set_cons_succ]
          refine wpAnyH_take (i := 28) (oi := ({ dst := some 205, op := Op.load 26 (Operand.tmp 204), type := 26, pos := "laws.go:144", after := #[{ on := 27, ground := Ground.data }, { on := 23, ground := Ground.guard }], guard := some (23, true) } : Oper)) (v := ?_) rfl (by kernel_rfl) (by kernel_rfl) (by kernel_rfl) (fun _ _ _ h => h) (Or.inl ⟨by rfl, ?_⟩) (by assumption) ?_
          rotate_left
          · (intro w hSw; (try dsimp only at hSw); go_simp; try with_reducible rfl)
          try simp only [Act.put, List.setIfInBounds_toArray, List.set_cons_zero, List.set_cons_succ]
          refine wpAnyH_take (i := 29) (oi := ({ dst := some 206, op := Op.fieldAddr 50 (Operand.tmp 16) 1, type := 0, pos := "laws.go:144", after := #[{ on := 23, ground := Ground.guard }], guard := some (23, true) } : Oper)) (v := ?_) rfl (by kernel_rfl) (by kernel_rfl) (by kernel_rfl) (fun _ _ _ h => h) (Or.inl ⟨by rfl, ?_⟩) (by assumption) ?_
          rotate_left
          · (intro w hSw; (try dsimp only at hSw); go_simp; try with_reducible rfl)
          try simp only [Act.put, List.setIfInBounds_toArray, List.set_cons_zero, List.set_cons_succ]
          refine wpAnyH_take (i := 30) (oi := ({ dst := some 207, op := Op.load 33 (Operand.tmp 206), type := 33, pos := "laws.go:144", after := #[{ on := 29, ground := Ground.data }, { on := 23, ground := Ground.guard }], guard := some (23, true) } : Oper)) (v := ?_) rfl (by kernel_rfl) (by kernel_rfl) (by kernel_rfl) (fun _ _ _ h => h) (Or.inl ⟨by rfl, ?_⟩) (by assumption) ?_
          rotate_left
          · (intro w hSw; (try dsimp only at hSw); go_simp; try with_reducible rfl)
          try simp only [Act.put, List.setIfInBounds_toArray, List.set_cons_zero, List.set_cons_succ]
          refine wpAnyH_take (i := 32) (oi := ({ dst := some 209, op := Op.fieldAddr 50 (Operand.tmp 16) 2, type := 0, pos := "laws.go:144", after := #[{ on := 23, ground := Ground.guard }], guard := some (23, true) } : Oper)) (v := ?_) rfl (by kernel_rfl) (by kernel_rfl) (by kernel_rfl) (fun _ _ _ h => h) (Or.inl ⟨by rfl, ?_⟩) (by assumption) ?_
          rotate_left
          · (intro w hSw; (try dsimp only at hSw); go_simp; try with_reducible rfl)
          try simp only [Act.put, List.setIfInBounds_toArray, List.set_cons_zero, List.set_cons_succ]
          refine wpAnyH_take (i := 33) (oi := ({ dst := some 210, op := Op.load 27 (Operand.tmp 209), type := 27, pos := "laws.go:144", after := #[{ on := 32, ground := Ground.data }, { on := 23, ground := Ground.guard }], guard := some (23, true) } : Oper)) (v := ?_) rfl (by kernel_rfl) (by kernel_rfl) (by kernel_rfl) (fun _ _ _ h => h) (Or.inl ⟨by rfl, ?_⟩) (by assumption) ?_
          rotate_left
          · (intro w hSw; (try dsimp only at hSw); go_simp; try with_reducible rfl)
          try simp only [Act.put, List.setIfInBounds_toArray, List.set_cons_zero, List.set_cons_succ]
          refine wpAnyH_ready (rs := [26]) (by kernel_rfl) (by simp) ?_
          refine AllReadyH.cons (o := ({ dst := some 203, op := Op.call { callee := Callee.value (Operand.func 26), args := #[Operand.tmp 201, Operand.tmp 202], argTypes := #[26, 33] }, type := 27, pos := "laws.go:144", after := #[{ on := 24, ground := Ground.data }, { on := 25, ground := Ground.data }, { on := 23, ground := Ground.chain }, { on := 23, ground := Ground.guard }], guard := some (23, true) } : Oper)) rfl (fun K hK => ?_) AllReadyH.nil
          go_simp
          go_at_call 26
          refine (specTreePtrs_any _ _ _ _ q rs rb _ (Hq9.out.below hC1)).mono ?_
          rintro e wn3 ⟨v1', l1, rfl, hl1, hr1, hbn3⟩
          obtain rfl := hl1.1 HT.out
          obtain ⟨la1, lc1, rfl, _⟩ := owns_form hr1
          have hR1 := hr1.at0 (by have := treeL_len q rs rb; omega)
          have hC1 : Below w9.heap.size w9 wn3 := below_next hC1 hbn3
          obtain ⟨⟨kp0, _⟩, ⟨kp1, _⟩⟩ := HP9.out.below hC1
          obtain ⟨⟨kr0, _⟩, ⟨kr1, _⟩⟩ := HR9.out.below hC1
          obtain ⟨⟨kx0, _⟩, ⟨kx1, _⟩, ⟨kx2, _⟩, ⟨kx3, _⟩, ⟨kx4, _⟩, ⟨kx5, _⟩⟩ := HX9.out.box.below hC1
          (try go_wp2_with fail)
          refine hK.out _ _ ?_ (fun hHeldN => ?_)
          · (try dsimp only)
            go_keep
          clear hK K hHeld
          have hHeld := hHeldN
          clear hHeldN
          try simp only [Act.put, List.setIfInBounds_toArray, List.set_cons_zero, List.set_cons_succ]
          refine wpAnyH_ready (rs := [31]) (by kernel_rfl) (by simp) ?_
          refine AllReadyH.cons (o := ({ dst := some 208, op := Op.call { callee := Callee.value (Operand.func 27), args := #[Operand.tmp 205, Operand.tmp 207], argTypes := #[26, 33] }, type := 27, pos := "laws.go:144", after := #[{ on := 28, ground := Ground.data }, { on := 30, ground := Ground.data }, { on := 26, ground := Ground.chain }, { on := 23, ground := Ground.guard }], guard := some (23, true) } : Oper)) rfl (fun K hK => ?_) AllReadyH.nil
          go_simp
          go_at_call 27
          refine (implTreePtrs_any _ _ _ _ o.pool o.rs o.rb _ (HpX9.out.below hC1)).mono ?_
          rintro e wn4 ⟨v2', l2, rfl, hl2, hr2, hbn4⟩
          obtain rfl := hl2.1 HT1.out
          obtain ⟨la2, lc2, rfl, _⟩ := owns_form hr2
          have hR2 := hr2.at0 (by have := treeL_len o.pool o.rs o.rb; omega)
          have hR1' := hR1.below hbn4
          have hC1 : Below w9.heap.size w9 wn4 := below_next hC1 hbn4
          obtain ⟨⟨kp0, _⟩, ⟨kp1, _⟩⟩ := HP9.out.below hC1
          obtain ⟨⟨kr0, _⟩, ⟨kr1, _⟩⟩ := HR9.out.below hC1
          obtain ⟨⟨kx0, _⟩, ⟨kx1, _⟩, ⟨kx2, _⟩, ⟨kx3, _⟩, ⟨kx4, _⟩, ⟨kx5, _⟩⟩ := HX9.out.box.below hC1
          (try go_wp2_with fail)
          refine hK.out _ _ ?_ (fun hHeldN => ?_)
          · (try dsimp only)
            go_keep
          clear hK K hHeld
          have hHeld := hHeldN
          clear hHeldN
          try simp only [Act.put, List.setIfInBounds_toArray, List.set_cons_zero, List.set_cons_succ]
          refine wpAnyH_ready (rs := [34]) (by kernel_rfl) (by simp) ?_
          refine AllReadyH.cons (o := ({ dst := some 211, op := Op.call { callee := Callee.value (Operand.func 25), args := #[Operand.tmp 203, Operand.tmp 208, Operand.tmp 210], argTypes := #[27, 27, 27] }, type := 4, pos := "laws.go:144", after := #[{ on := 26, ground := Ground.data }, { on := 31, ground := Ground.data }, { on := 33, ground := Ground.data }, { on := 31, ground := Ground.chain }, { on := 23, ground := Ground.guard }], guard := some (23, true) } : Oper)) rfl (fun K hK => ?_) AllReadyH.nil
          go_simp
          go_at_call 25
          refine (lwGone_any _ _ _ (treeL q rs rb) (treeL o.pool o.rs o.rb) o.old _ _ _ _ _ _ _ hR1' hR2 (HrX.out.below hC1) (by have := treeL_len q rs rb; omega) HG.out.1 HG.out.2).mono ?_
          rintro e wn5 ⟨rfl, hbn5⟩
          have hC1 : Below w9.heap.size w9 wn5 := below_next hC1 hbn5
          obtain ⟨⟨kp0, _⟩, ⟨kp1, _⟩⟩ := HP9.out.below hC1
          obtain ⟨⟨kr0, _⟩, ⟨kr1, _⟩⟩ := HR9.out.below hC1
          obtain ⟨⟨kx0, _⟩, ⟨kx1, _⟩, ⟨kx2, _⟩, ⟨kx3, _⟩, ⟨kx4, _⟩, ⟨kx5, _⟩⟩ := HX9.out.box.below hC1
          (try go_wp2_with fail)
          refine hK.out _ _ ?_ (fun hHeldN => ?_)
          · (try dsimp only)
            go_keep
          clear hK K hHeld
          have hHeld := hHeldN
          clear hHeldN
          try simp only [Act.put, List.setIfInBounds_toArray, List.set_cons_zero, List.set_cons_succ]
          refine wpAnyH_take (i := 35) (oi := ({ dst := some 212, op := Op.pick (Operand.tmp 200) (Operand.tmp 211) (Operand.const (Value.bool false)), type := 4, pos := "laws.go:144", after := #[{ on := 23, ground := Ground.data }, { on := 34, ground := Ground.data }, { on := 3, ground := Ground.guard }], guard := some (3, false) } : Oper)) (v := ?_) rfl (by kernel_rfl) (by kernel_rfl) (by kernel_rfl) (fun _ _ _ h => h) (Or.inl ⟨by rfl, ?_⟩) (by assumption) ?_
          rotate_left
          · (intro w hSw; (try dsimp only at hSw); go_simp; try with_reducible rfl)
          try simp only [Act.put, List.setIfInBounds_toArray, List.set_cons_zero, List.set_cons_succ]
          refine wpAnyH_take (i := 36) (oi := ({ dst := some 213, op := Op.pick (Operand.tmp 180) (Operand.const (Value.bool true)) (Operand.tmp 212), type := 4, pos := "laws.go:144", after := #[{ on := 3, ground := Ground.data }, { on := 35, ground := Ground.data }], guard := none } : Oper)) (v := ?_) rfl (by kernel_rfl) (by kernel_rfl) (by kernel_rfl) (fun _ _ _ h => h) (Or.inl ⟨by rfl, ?_⟩) (by assumption) ?_
          rotate_left
          · (intro w hSw; (try dsimp only at hSw); go_simp; try with_reducible rfl)
          try simp only [Act.put, List.setIfInBounds_toArray, List.set_cons_zero, List.set_cons_succ]
          refine wpAnyH_take (i := 37) (oi := ({ dst := some 4, op := Op.assign (Operand.tmp 213), type := 4, pos := "laws.go:144", after := #[{ on := 36, ground := Ground.data }, { on := 34, ground := Ground.chain }, { on := 0, ground := Ground.phase }, { on := 1, ground := Ground.phase }, { on := 2, ground := Ground.phase }, { on := 3, ground := Ground.phase }, { on := 4, ground := Ground.phase }, { on := 5, ground := Ground.phase }, { on := 6, ground := Ground.phase }, { on := 7, ground := Ground.phase }, { on := 8, ground := Ground.phase }, { on := 9, ground := Ground.phase }, { on := 10, ground := Ground.phase }, { on := 11, ground := Ground.phase }, { on := 12, ground := Ground.phase }, { on := 13, ground := Ground.phase }, { on := 14, ground := Ground.phase }, { on := 15, ground := Ground.phase }, { on := 16, ground := Ground.phase }, { on := 17, ground := Ground.phase }, { on := 18, ground := Ground.phase }, { on := 19, ground := Ground.phase }, { on := 20, ground := Ground.phase }, { on := 21, ground := Ground.phase }, { on := 22, ground := Ground.phase }, { on := 23, ground := Ground.phase }, { on := 24, ground := Ground.phase }, { on := 25, ground := Ground.phase }, { on := 26, ground := Ground.phase }, { on := 27, ground := Ground.phase }, { on := 28, ground := Ground.phase }, { on := 29, ground := Ground.phase }, { on := 30, ground := Ground.phase }, { on := 31, ground := Ground.phase }, { on := 32, ground := Ground.phase }, { on := 33, ground := Ground.phase }, { on := 34, ground := Ground.phase }, { on := 35, ground := Ground.phase }, { on := 36, ground := Ground.phase }], guard := none } : Oper)) (v := ?_) rfl (by kernel_rfl) (by kernel_rfl) (by kernel_rfl) (fun _ _ _ h => h) (Or.inl ⟨by rfl, ?_⟩) (by assumption) ?_
          rotate_left
          · (intro w hSw; (try dsimp only at hSw); go_simp; try with_reducible rfl)
          try simp only [Act.put, List.setIfInBounds_toArray, List.set_cons_zero, List.set_cons_succ]
          refine wpAnyH_done (by kernel_rfl) ?_ _
          go_wp2
          go_ret
          exact ⟨rfl, below_next hB9 hC1⟩
    · as_aux_lemma =>
      have f0 : (o.code != 0) = true := by simp [hc]
      go_quiet (fail)
      go_wp2
      go_ret
      exact ⟨rfl, below_drewN hB9 _⟩

end Go.Proofs.Ytikhipekmlhibaa
