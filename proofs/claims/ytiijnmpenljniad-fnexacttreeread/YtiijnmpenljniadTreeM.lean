/- What spec.l02Kids leaves: a new row of eight pointers. -/
import Derived.Test.YtiijnmpenljniadTreeI
namespace Go.Proofs.Ytiijnmpenljniad
open Go.RowKit
set_option linter.unusedVariables false

/-- n pointers, by their number. -/
def rowF (f g : Nat → Int) (n : Nat) : List (Int × Int) := (List.range n).map fun i => (f i, g i)
theorem rowF_len (f g : Nat → Int) (n : Nat) : (rowF f g n).length = n := by simp [rowF]
theorem rowF_succ (f g : Nat → Int) (n : Nat) : rowF f g (n + 1) = rowF f g n ++ [(f n, g n)] := by simp [rowF, List.range_succ]
theorem rowF_at (f g : Nat → Int) {n i : Nat} (h : i < n) : fstL (rowF f g n) i = f i ∧ sndL (rowF f g n) i = g i := by
  have : (rowF f g n).getD i (0, 0) = (f i, g i) := by
    rw [List.getD_eq_getElem?_getD, List.getElem?_eq_getElem (by rw [rowF_len]; exact h), Option.getD_some]
    simp [rowF]
  unfold fstL sndL
  rw [this]
  exact ⟨rfl, rfl⟩
theorem rowF_congr {f g f' g' : Nat → Int} {n : Nat} (h : ∀ i, i < n → f i = f' i ∧ g i = g' i) : rowF f g n = rowF f' g' n := by
  unfold rowF
  apply List.map_congr_left
  intro i hi
  rw [List.mem_range] at hi
  rw [(h i hi).1, (h i hi).2]

/-- The cells of pointers that are read. -/
theorem pcl_cells {w : World} {b off : Nat} {f g : Nat → Int} : ∀ {n : Nat}, (∀ i, i < n → w.cell? ⟨b, off + i * 2, none⟩ = some (.int .i64 (f i)) ∧ w.cell? ⟨b, off + i * 2 + 1, none⟩ = some (.int .i64 (g i))) → ∀ j u, (pcl (rowF f g n))[j]? = some u → w.cell? ⟨b, off + j, none⟩ = some u
  | 0, _, j, u, hj => by simp [rowF, pcl] at hj
  | n + 1, h, j, u, hj => by
    rw [rowF_succ, pcl_append] at hj
    by_cases hlt : j < n * 2
    · rw [List.getElem?_append_left (by rw [pcl_len, rowF_len]; exact hlt)] at hj
      exact pcl_cells (fun i hi => h i (by omega)) j u hj
    · rw [List.getElem?_append_right (by rw [pcl_len, rowF_len]; omega), pcl_len, rowF_len] at hj
      obtain ⟨h1, h2⟩ := h n (Nat.lt_succ_self n)
      have hj2 : j - n * 2 < 2 := by
        have := (List.getElem?_eq_some_iff.1 hj).1
        simpa [pcl] using this
      by_cases e : j = n * 2
      · subst e
        rw [h1]
        simpa [pcl] using hj
      · obtain rfl : j = n * 2 + 1 := by omega
        rw [show n * 2 + 1 - n * 2 = 1 by omega] at hj
        rw [← Nat.add_assoc, h2]
        simpa [pcl] using hj

/-- The slot and the birth of the i-th Kid of what a pointer points at, none's being none. -/
def kidSF (p : PoolD) (xs xb : Int) (i : Nat) : Int := if Nil xs xb then 0 else kidS (p.s xs.toNat) i
def kidBF (p : PoolD) (xs xb : Int) (i : Nat) : Int := if Nil xs xb then 0 else kidB (p.s xs.toNat) i

theorem zero_row : pcl (rowF (fun _ => 0) (fun _ => 0) 8) = (zeros #[.int .i64 0, .int .i64 0] 8).toList := by kernel_rfl

set_option maxRecDepth 20000 in
set_option maxHeartbeats 1000000 in
theorem l02Kids_any (v0 v1 : Value) (lo hi : Nat) (p : PoolD) (xs xb : Int) (w : World) (h1 : PoolAt w lo hi v0 v1 p) (hP : Nil xs xb ∨ (Points p xs xb ∧ (p.s xs.toNat).kn = 8)) :
    Calls Try.prog 95 #[.agg #[v0, v1], .agg #[.int .i64 xs, .int .i64 xb]] w fun e w' => ∃ b cp, e = .returned (.slice (some ⟨b, 0, none⟩) 8 cp) ∧ RowL w' w.heap.size (.slice (some ⟨b, 0, none⟩) 8 cp) (rowF (kidSF p xs xb) (kidBF p xs xb) 8) ∧ Below w.heap.size w w' := by
  have Hp := hideT h1
  have HP := hideT hP
  obtain ⟨a, c, a', c', rfl, rfl⟩ : ∃ a c a' c', v0 = .slice a p.n c ∧ v1 = .slice a' p.hn c' := by
    obtain ⟨⟨_, a, c, h1, _⟩, ⟨_, a', c', h3, _⟩⟩ := h1
    exact ⟨a, c, a', c', h1, h3⟩
  clear h1 hP
  have hst := start22 w (.slice a p.n c) (.slice a' p.hn c') (.int .i64 xs) (.int .i64 xb) 33 35
  obtain ⟨i0, hi0, hzz⟩ := Option.map_eq_some_iff.1 infoPtrL
  simp only [Prod.mk.injEq] at hzz
  have HI := hideT (And.intro hi0 hzz)
  clear hi0 hzz
  go_enter Try.func95, Try.ntmps95
  go_wp2_with fail
  generalize (w.alloc (.cells #[.slice a p.n c, .slice a' p.hn c'] 33)).alloc (.cells #[.int .i64 xs, .int .i64 xb] 35) = W at hst ⊢
  obtain ⟨hB, hX, hba, hz⟩ := hst
  refine (l01None_any xs xb W).mono ?_
  rintro e w1 ⟨⟨t, rfl, ht⟩, hb1⟩
  have HB1 := hideT (hB.below hb1)
  have HX1 := hideT (hX.below hb1)
  have hB1 := below_next hba hb1
  have hz1 : w.heap.size + 2 ≤ w1.heap.size := by have := hb1.size; omega
  clear hB hX hba hb1 hz
  by_cases hn : Nil xs xb
  · have HN := hideT hn
    obtain rfl : t = true := ht.2 hn
    clear ht hn
    have hmk := make_zeros 40 35 (.agg #[.int .i64 0, .int .i64 0]) 2 16 (by kernel_rfl) infoPtr rfl 8 (by omega) (by omega)
    have hmk' : ∀ w, (Instr.makeSlice 40 (.int .i64 8) (.int .i64 8)).run Try.prog w = .ok (.slice (some ⟨w.heap.size, 0, none⟩) 8 8) (w.alloc (.cells (zeros #[.int .i64 0, .int .i64 0] 8) 35)) := hmk
    clear hmk
    have hlit := World.ownsRow_lit (e := 35) (size := 2) (base := w.heap.size) w1 (zeros #[.int .i64 0, .int .i64 0] 8) 8 (by omega) (by unfold maxLen; omega) (by decide +kernel)
    have hB2 := below_next hB1 (below_alloc w1 (.cells (zeros #[.int .i64 0, .int .i64 0] 8) 35))
    have Hlit := hideT hlit
    clear hlit
    go_wp2
    go_ret
    refine ⟨_, _, rfl, ?_, hB2⟩
    have e0 : rowF (kidSF p xs xb) (kidBF p xs xb) 8 = rowF (fun _ => 0) (fun _ => 0) 8 := rowF_congr (fun i _ => ⟨if_pos HN.out, if_pos HN.out⟩)
    unfold RowL
    rw [e0, zero_row, rowF_len]
    exact Hlit.out
  · have HN := hideT hn
    obtain rfl : t = false := bool_no ht hn
    clear ht hn
    obtain ⟨hPt, h8⟩ := HP.out.resolve_left HN.out
    have Hrow : Hid (rowF (kidSF p xs xb) (kidBF p xs xb) 8 = rowF (p.s xs.toNat).ks (p.s xs.toNat).kb 8) := rowF_congr (fun i hi => ⟨(if_neg HN.out).trans (kidS_at h8 hi), (if_neg HN.out).trans (kidB_at h8 hi)⟩)
    obtain ⟨k, rfl⟩ := Int.eq_ofNat_of_zero_le hPt.2.1
    have hk : k < p.n := by have := hPt.2.2.1; omega
    have hk' : (k : Int) < (p.n : Int) := by omega
    rw [Int.toNat_natCast] at h8 Hrow
    clear hPt HP
    obtain ⟨b, off, ka, kc, rfl, hsc⟩ := Hp.out.1.cells hk
    have Hkw : Hid (PtrsAt w lo hi (.slice ka 8 kc) 8 (p.s k).ks (p.s k).kb) := by have := hsc.slot.2.1; rw [h8] at this; exact this
    have hal := below_alloc w1 (.cells #[] 35)
    have hBa := below_next hB1 hal
    obtain ⟨q0, q1, q2, _⟩ := hsc.below hBa
    rw [h8] at q1
    have HBb := hideT (HB1.out.below hal)
    have HXb := hideT (HX1.out.below hal)
    have Hlit := hideT (World.ownsRow_lit (e := 35) (size := 2) (base := w.heap.size) w1 #[] 0 (by omega) (by unfold maxLen; omega) rfl)
    have hza : (w1.alloc (.cells #[] 35)).heap.size = w1.heap.size + 1 := World.size_alloc _ _
    obtain ⟨⟨x0, x1⟩, ⟨x2, x3⟩⟩ := HBb.out
    obtain ⟨⟨y0, y1⟩, ⟨y2, y3⟩⟩ := HXb.out
    have Hk2 := hideT (Hkw.out.below hBa)
    clear hal hsc HB1 HX1 h8 Hkw
    go_wp2_with (first
      | (at_builtin; refine wpList_append_opt rfl _ _ 40 rfl w.heap.size 35 i0 (.agg #[.int .i64 0, .int .i64 0]) 2 16 (by kernel_rfl) HI.out.1 HI.out.2.1 HI.out.2.2.1 HI.out.2.2.2 rfl (by decide) (.slice (some ⟨w1.heap.size, 0, none⟩) 0 0) 0 [] rfl ?c0 ka 8 kc (pcl (rowF (p.s k).ks (p.s k).kb 8)) rfl (by rw [pcl_len, rowF_len]) (pcl_one _) ?c1 ?c3 ?c4 ?c5 ?_)
      | fail)
    case c0 => exact Hlit.out
    case c1 =>
      intro h0
      obtain ⟨_, a2, c2, hv, _, hx⟩ := Hk2.out
      simp only [Value.slice.injEq, true_and] at hv
      obtain ⟨rfl, rfl⟩ := hv
      obtain ⟨kb, koff, ha, _, _, h3⟩ := hx (by omega)
      exact ⟨kb, koff, ha, pcl_cells h3⟩
    case c3 => unfold maxLen; omega
    case c4 => omega
    case c5 => omega
    intro v3 w3 hown3 hgrow3
    obtain ⟨g3, cp3, rfl, _⟩ := World.ownsRow.form hown3 (by omega)
    have Hr3 : Hid (RowL w3 w.heap.size (.slice (some ⟨g3, 0, none⟩) 8 cp3) (rowF (kidSF p k xb) (kidBF p k xb) 8)) := by
      unfold RowL
      rw [Hrow.out, rowF_len]
      exact hown3
    have hB3 := hBa.grown hgrow3 hBa.size (fun q hq => by simp only [Value.ownBlock, Option.some.injEq] at hq; omega)
    clear hown3 hgrow3
    go_wp2
    go_ret
    exact ⟨_, _, rfl, Hr3.out, hB3⟩

end Go.Proofs.Ytiijnmpenljniad
