/- What spec.l02Kids leaves: a new row of eight pointers. -/
import Derived.Test.YtjpbmpjddbekgaaGreatG9
import Derived.Test.YtjpbmpjddbekgaaGreatG1
import Derived.Test.YtjpbmpjddbekgaaGreatG30
import Derived.Test.YtjpbmpjddbekgaaGreatG7
namespace Go.Proofs.YtjpbmpjddbekgaaGreat
open Go.RowKit
set_option linter.unusedVariables false

/-- n pointers, by their number. -/
def rowF (f g : Nat → Int) (n : Nat) : List (Int × Int) := (List.range n).map fun i => (f i, g i)
theorem rowF_len (f g : Nat → Int) (n : Nat) : (rowF f g n).length = n := by simp [rowF]
theorem rowF_succ (f g : Nat → Int) (n : Nat) : rowF f g (n + 1) = rowF f g n ++ [(f n, g n)] := by simp [rowF, List.range_succ]
theorem rowF_at (f g : Nat → Int) {n i : Nat} (h : i < n) : fstL (rowF f g n) i = f i ∧ sndL (rowF f g n) i = g i := by
  have : (rowF f g n).getD i (0, 0) = (f i, g i) := by
    rw [List.getD_eq_getElem?_getD, List.getElem?_eq_getElem (by rw [rowF_len]; exact h), Option.getD_some]
    simp [rowF]
  unfold fstL sndL
  rw [this]
  exact ⟨rfl, rfl⟩
theorem rowF_congr {f g f' g' : Nat → Int} {n : Nat} (h : ∀ i, i < n → f i = f' i ∧ g i = g' i) : rowF f g n = rowF f' g' n := by
  unfold rowF
  apply List.map_congr_left
  intro i hi
  rw [List.mem_range] at hi
  rw [(h i hi).1, (h i hi).2]

/-- The cells of pointers that are read. -/
theorem pcl_cells {w : World} {b off : Nat} {f g : Nat → Int} : ∀ {n : Nat}, (∀ i, i < n → w.cell? ⟨b, off + i * 2, none⟩ = some (.int .i64 (f i)) ∧ w.cell? ⟨b, off + i * 2 + 1, none⟩ = some (.int .i64 (g i))) → ∀ j u, (pcl (rowF f g n))[j]? = some u → w.cell? ⟨b, off + j, none⟩ = some u
  | 0, _, j, u, hj => by simp [rowF, pcl] at hj
  | n + 1, h, j, u, hj => by
    rw [rowF_succ, pcl_append] at hj
    by_cases hlt : j < n * 2
    · rw [List.getElem?_append_left (by rw [pcl_len, rowF_len]; exact hlt)] at hj
      exact pcl_cells (fun i hi => h i (by omega)) j u hj
    · rw [List.getElem?_append_right (by rw [pcl_len, rowF_len]; omega), pcl_len, rowF_len] at hj
      obtain ⟨h1, h2⟩ := h n (Nat.lt_succ_self n)
      have hj2 : j - n * 2 < 2 := by
        have := (List.getElem?_eq_some_iff.1 hj).1
        simpa [pcl] using this
      by_cases e : j = n * 2
      · subst e
        rw [h1]
        simpa [pcl] using hj
      · obtain rfl : j = n * 2 + 1 := by omega
        rw [show n * 2 + 1 - n * 2 = 1 by omega] at hj
        rw [← Nat.add_assoc, h2]
        simpa [pcl] using hj

/-- The slot and the birth of the i-th Kid of what a pointer points at, none's being none. -/
def kidSF (p : PoolD) (xs xb : Int) (i : Nat) : Int := if Nil xs xb then 0 else kidS (p.s xs.toNat) i
def kidBF (p : PoolD) (xs xb : Int) (i : Nat) : Int := if Nil xs xb then 0 else kidB (p.s xs.toNat) i

theorem zero_row : pcl (rowF (fun _ => 0) (fun _ => 0) 8) = (zeros #[.int .i64 0, .int .i64 0] 8).toList := by kernel_rfl

set_option maxRecDepth 20000 in
set_option maxHeartbeats 1000000 in
theorem l02Kids_any (v0 v1 : Value) (lo hi : Nat) (p : PoolD) (xs xb : Int) (w : World) (h1 : PoolAt w lo hi v0 v1 p) (hP : Nil xs xb ∨ (Points p xs xb ∧ (p.s xs.toNat).kn = 8)) :
    Calls Tryz.prog 137 #[.agg #[v0, v1], .agg #[.int .i64 xs, .int .i64 xb]] w fun e w' => ∃ b cp, e = .returned (.slice (some ⟨b, 0, none⟩) 8 cp) ∧ RowL w' w.heap.size (.slice (some ⟨b, 0, none⟩) 8 cp) (rowF (kidSF p xs xb) (kidBF p xs xb) 8) ∧ Below w.heap.size w w' := by
  have Hp := hideT h1
  have HP := hideT hP
  obtain ⟨a, c, a', c', rfl, rfl⟩ : ∃ a c a' c', v0 = .slice a p.n c ∧ v1 = .slice a' p.hn c' := by
    obtain ⟨⟨_, a, c, h1, _⟩, ⟨_, a', c', h3, _⟩⟩ := h1
    exact ⟨a, c, a', c', h1, h3⟩
  clear h1 hP
  have hst := start22 w (.slice a p.n c) (.slice a' p.hn c') (.int .i64 xs) (.int .i64 xb) 34 43
  obtain ⟨i0, hi0, hzz⟩ := Option.map_eq_some_iff.1 infoPtrL
  simp only [Prod.mk.injEq] at hzz
  have HI := hideT (And.intro hi0 hzz)
  clear hi0 hzz
  go_enter Tryz.func137, Tryz.ntmps137
  go_wp2_with fail
  generalize (w.alloc (.cells #[.slice a p.n c, .slice a' p.hn c'] 34)).alloc (.cells #[.int .i64 xs, .int .i64 xb] 43) = W at hst ⊢
  obtain ⟨hB, hX, hba, hz⟩ := hst
  refine (l01None_any xs xb W).mono ?_
  rintro e w1 ⟨⟨t, rfl, ht⟩, hb1⟩
  have HB1 := hideT (hB.below hb1)
  have HX1 := hideT (hX.below hb1)
  have hB1 := below_next hba hb1
  have hz1 : w.heap.size + 2 ≤ w1.heap.size := by have := hb1.size; omega
  clear hB hX hba hb1 hz
  by_cases hn : Nil xs xb
  · have HN := hideT hn
    obtain rfl : t = true := ht.2 hn
    clear ht hn
    have hmk := make_zeros 44 43 (.agg #[.int .i64 0, .int .i64 0]) 2 16 (by kernel_rfl) infoPtr rfl 8 (by omega) (by omega)
    have hmk' : ∀ w, (Instr.makeSlice 44 (.int .i64 8) (.int .i64 8)).run Tryz.prog w = .ok (.slice (some ⟨w.heap.size, 0, none⟩) 8 8) (w.alloc (.cells (zeros #[.int .i64 0, .int .i64 0] 8) 43)) := hmk
    clear hmk
    have hlit := World.ownsRow_lit (e := 43) (size := 2) (base := w.heap.size) w1 (zeros #[.int .i64 0, .int .i64 0] 8) 8 (by omega) (by unfold maxLen; omega) (by decide +kernel)
    have hB2 := below_next hB1 (below_alloc w1 (.cells (zeros #[.int .i64 0, .int .i64 0] 8) 43))
    have Hlit := hideT hlit
    clear hlit
    go_wp2
    go_ret
    refine ⟨_, _, rfl, ?_, hB2⟩
    have e0 : rowF (kidSF p xs xb) (kidBF p xs xb) 8 = rowF (fun _ => 0) (fun _ => 0) 8 := rowF_congr (fun i _ => ⟨if_pos HN.out, if_pos HN.out⟩)
    unfold RowL
    rw [e0, zero_row, rowF_len]
    exact Hlit.out
  · have HN := hideT hn
    obtain rfl : t = false := bool_no ht hn
    clear ht hn
    obtain ⟨hPt, h8⟩ := HP.out.resolve_left HN.out
    have Hrow : Hid (rowF (kidSF p xs xb) (kidBF p xs xb) 8 = rowF (p.s xs.toNat).ks (p.s xs.toNat).kb 8) := rowF_congr (fun i hi => ⟨(if_neg HN.out).trans (kidS_at h8 hi), (if_neg HN.out).trans (kidB_at h8 hi)⟩)
    obtain ⟨k, rfl⟩ := Int.eq_ofNat_of_zero_le hPt.2.1
    have hk : k < p.n := by have := hPt.2.2.1; omega
    have hk' : (k : Int) < (p.n : Int) := by omega
    rw [Int.toNat_natCast] at h8 Hrow
    clear hPt HP
    obtain ⟨b, off, ka, kc, rfl, hsc⟩ := Hp.out.1.cells hk
    have Hkw : Hid (PtrsAt w lo hi (.slice ka 8 kc) 8 (p.s k).ks (p.s k).kb) := by have := hsc.slot.2.1; rw [h8] at this; exact this
    have hal := below_alloc w1 (.cells #[] 43)
    have hBa := below_next hB1 hal
    obtain ⟨q0, q1, q2, _⟩ := hsc.below hBa
    rw [h8] at q1
    have HBb := hideT (HB1.out.below hal)
    have HXb := hideT (HX1.out.below hal)
    have Hlit := hideT (World.ownsRow_lit (e := 43) (size := 2) (base := w.heap.size) w1 #[] 0 (by omega) (by unfold maxLen; omega) rfl)
    have hza : (w1.alloc (.cells #[] 43)).heap.size = w1.heap.size + 1 := World.size_alloc _ _
    obtain ⟨⟨x0, x1⟩, ⟨x2, x3⟩⟩ := HBb.out
    obtain ⟨⟨y0, y1⟩, ⟨y2, y3⟩⟩ := HXb.out
    have Hk2 := hideT (Hkw.out.below hBa)
    clear hal hsc HB1 HX1 h8 Hkw
    go_wp2_with (first
      | (at_builtin; refine wpList_append_opt rfl _ _ 44 rfl w.heap.size 43 i0 (.agg #[.int .i64 0, .int .i64 0]) 2 16 (by kernel_rfl) HI.out.1 HI.out.2.1 HI.out.2.2.1 HI.out.2.2.2 rfl (by decide) (.slice (some ⟨w1.heap.size, 0, none⟩) 0 0) 0 [] rfl ?c0 ka 8 kc (pcl (rowF (p.s k).ks (p.s k).kb 8)) rfl (by rw [pcl_len, rowF_len]) (pcl_one _) ?c1 ?c3 ?c4 ?c5 ?_)
      | fail)
    case c0 => exact Hlit.out
    case c1 =>
      intro h0
      obtain ⟨_, a2, c2, hv, _, hx⟩ := Hk2.out
      simp only [Value.slice.injEq, true_and] at hv
      obtain ⟨rfl, rfl⟩ := hv
      obtain ⟨kb, koff, ha, _, _, h3⟩ := hx (by omega)
      exact ⟨kb, koff, ha, pcl_cells h3⟩
    case c3 => unfold maxLen; omega
    case c4 => omega
    case c5 => omega
    intro v3 w3 hown3 hgrow3
    obtain ⟨g3, cp3, rfl, _⟩ := World.ownsRow.form hown3 (by omega)
    have Hr3 : Hid (RowL w3 w.heap.size (.slice (some ⟨g3, 0, none⟩) 8 cp3) (rowF (kidSF p k xb) (kidBF p k xb) 8)) := by
      unfold RowL
      rw [Hrow.out, rowF_len]
      exact hown3
    have hB3 := hBa.grown hgrow3 hBa.size (fun q hq => by simp only [Value.ownBlock, Option.some.injEq] at hq; omega)
    clear hown3 hgrow3
    go_wp2
    go_ret
    exact ⟨_, _, rfl, Hr3.out, hB3⟩

end Go.Proofs.YtjpbmpjddbekgaaGreat

namespace Go.Proofs.YtjpbmpjddbekgaaGreat
open Go.RowKit
set_option linter.unusedVariables false

/-- A pointer that is none, or that of a node, as the Kids are read through it. -/
def KidsOk (p : PoolD) (xs xb : Int) : Prop := Nil xs xb ∨ (Points p xs xb ∧ (p.s xs.toNat).kn = 8)
theorem root_ok {p : PoolD} {xs xb : Int} (h : TreeR p xs xb) : KidsOk p xs xb := by
  rcases h.2 with h2 | h2
  · exact Or.inl h2
  · right
    refine ⟨h2.1.1, ?_⟩
    rcases points_kn h.1 h2.1.1 with h3 | h3
    · have := h2.1.2.1; omega
    · exact h3
theorem node_ok {p : PoolD} {xs xb : Int} (h : TreeR p xs xb) {j : Nat} (hj : j < 8) : KidsOk p (kidSF p xs xb j) (kidBF p xs xb j) := by
  by_cases hz : Nil xs xb
  · left; unfold kidSF kidBF; rw [if_pos hz, if_pos hz]; exact ⟨rfl, rfl⟩
  · unfold kidSF kidBF
    rw [if_neg hz, if_neg hz]
    rcases (h.2.resolve_left hz).2.1.1 j hj with h2 | h2
    · exact Or.inl h2
    · right
      refine ⟨h2.1.1, ?_⟩
      rcases points_kn h.1 h2.1.1 with h3 | h3
      · have := h2.1.2.1; omega
      · exact h3
/-- The node, and the page, of a number. -/
def nodeS (p : PoolD) (xs xb : Int) (n : Nat) : Int := kidSF p xs xb (n / 8)
def nodeB (p : PoolD) (xs xb : Int) (n : Nat) : Int := kidBF p xs xb (n / 8)
def pageS (p : PoolD) (xs xb : Int) (n : Nat) : Int := kidSF p (nodeS p xs xb n) (nodeB p xs xb n) (n % 8)
def pageB (p : PoolD) (xs xb : Int) (n : Nat) : Int := kidBF p (nodeS p xs xb n) (nodeB p xs xb n) (n % 8)
theorem page_ok {p : PoolD} {xs xb : Int} (h : TreeR p xs xb) {n : Nat} (hn : n < 64) : Nil (pageS p xs xb n) (pageB p xs xb n) ∨ PageAt p (pageS p xs xb n) (pageB p xs xb n) := by
  by_cases hz : Nil xs xb
  · left
    have e : Nil (nodeS p xs xb n) (nodeB p xs xb n) := by unfold nodeS nodeB kidSF kidBF; rw [if_pos hz, if_pos hz]; exact ⟨rfl, rfl⟩
    unfold pageS pageB kidSF kidBF
    rw [if_pos e, if_pos e]
    exact ⟨rfl, rfl⟩
  · have e1 : nodeS p xs xb n = kidS (p.s xs.toNat) (n / 8) := if_neg hz
    have e2 : nodeB p xs xb n = kidB (p.s xs.toNat) (n / 8) := if_neg hz
    by_cases hn2 : Nil (nodeS p xs xb n) (nodeB p xs xb n)
    · left
      unfold pageS pageB kidSF kidBF
      rw [if_pos hn2, if_pos hn2]
      exact ⟨rfl, rfl⟩
    · have e3 : pageS p xs xb n = kidS (p.s (nodeS p xs xb n).toNat) (n % 8) := if_neg hn2
      have e4 : pageB p xs xb n = kidB (p.s (nodeS p xs xb n).toNat) (n % 8) := if_neg hn2
      rw [e3, e4]
      rcases (h.2.resolve_left hz).2.1.1 (n / 8) (by omega) with h2 | h2
      · rw [← e1, ← e2] at h2; exact absurd h2 hn2
      · have := h2.2.1 (n % 8) (by omega)
        rw [← e1] at this
        exact this

/-- The four variables with which the call begins. -/
theorem start4 (w : World) (a0 a1 x0 x1 : Value) (t1 t2 : TypeId) :
    Box2 ((((w.alloc (.cells #[a0, a1] t1)).alloc (.cells #[x0, x1] t2)).alloc (.cells #[.int .i64 0, .int .i64 0] t2)).alloc (.cells #[.int .i64 0, .int .i64 0] t2)) w.heap.size a0 a1 ∧
    Box2 ((((w.alloc (.cells #[a0, a1] t1)).alloc (.cells #[x0, x1] t2)).alloc (.cells #[.int .i64 0, .int .i64 0] t2)).alloc (.cells #[.int .i64 0, .int .i64 0] t2)) (w.heap.size + 1) x0 x1 ∧
    Box2 ((((w.alloc (.cells #[a0, a1] t1)).alloc (.cells #[x0, x1] t2)).alloc (.cells #[.int .i64 0, .int .i64 0] t2)).alloc (.cells #[.int .i64 0, .int .i64 0] t2)) (w.heap.size + 2) (.int .i64 0) (.int .i64 0) ∧
    Box2 ((((w.alloc (.cells #[a0, a1] t1)).alloc (.cells #[x0, x1] t2)).alloc (.cells #[.int .i64 0, .int .i64 0] t2)).alloc (.cells #[.int .i64 0, .int .i64 0] t2)) (w.heap.size + 2 + 1) (.int .i64 0) (.int .i64 0) ∧
    Below w.heap.size w ((((w.alloc (.cells #[a0, a1] t1)).alloc (.cells #[x0, x1] t2)).alloc (.cells #[.int .i64 0, .int .i64 0] t2)).alloc (.cells #[.int .i64 0, .int .i64 0] t2)) ∧
    ((((w.alloc (.cells #[a0, a1] t1)).alloc (.cells #[x0, x1] t2)).alloc (.cells #[.int .i64 0, .int .i64 0] t2)).alloc (.cells #[.int .i64 0, .int .i64 0] t2)).heap.size = w.heap.size + 4 := by
  obtain ⟨h1, h2, h3, h4⟩ := start22 w a0 a1 x0 x1 t1 t2
  generalize (w.alloc (.cells #[a0, a1] t1)).alloc (.cells #[x0, x1] t2) = W at h1 h2 h3 h4 ⊢
  have b1 := below_alloc W (.cells #[.int .i64 0, .int .i64 0] t2)
  have b2 := below_alloc (W.alloc (.cells #[.int .i64 0, .int .i64 0] t2)) (.cells #[.int .i64 0, .int .i64 0] t2)
  have n1 := (Box2.new W (.int .i64 0) (.int .i64 0) t2).below b2
  have n2 := Box2.new (W.alloc (.cells #[.int .i64 0, .int .i64 0] t2)) (.int .i64 0) (.int .i64 0) t2
  rw [h4] at n1
  rw [World.size_alloc, h4] at n2
  exact ⟨(h1.below b1).below b2, (h2.below b1).below b2, n1, n2, below_next (below_next h3 b1) b2, by rw [World.size_alloc, World.size_alloc, h4]⟩
theorem two_put (w : World) (b : Nat) (u v : Value) : Turned (fun k => k = b) w ((w.setCell ⟨b, 0, none⟩ u).setCell ⟨b, 1, none⟩ v) := ((Turned.refl (fun k => k = b) w).setCell (p := ⟨b, 0, none⟩) rfl u).setCell (p := ⟨b, 1, none⟩) rfl v
/-- The i-th pointer of a row. -/
theorem row_at {w : World} {base g cp : Nat} {f h : Nat → Int} (hr : RowL w base (.slice (some ⟨g, 0, none⟩) 8 cp) (rowF f h 8)) {i : Nat} (hi : i < 8) : w.cell? ⟨g, i * 2, none⟩ = some (.int .i64 (f i)) ∧ w.cell? ⟨g, i * 2 + 1, none⟩ = some (.int .i64 (h i)) := by
  obtain ⟨b, cap, e, _, _, _, hcell⟩ := owns_cell hr (by rw [rowF_len]; omega)
  simp only [Value.slice.injEq, Option.some.injEq, Addr.mk.injEq, and_true] at e
  obtain ⟨rfl, _⟩ := e
  have h1 := (hcell _ _ (pcl_get (rowF f h 8) i (by rw [rowF_len]; exact hi)).1).1
  have h2 := (hcell _ _ (pcl_get (rowF f h 8) i (by rw [rowF_len]; exact hi)).2).1
  have := rowF_at f h hi
  unfold fstL sndL at this
  rw [this.1] at h1
  rw [this.2] at h2
  exact ⟨h1, h2⟩

set_option maxRecDepth 20000 in
set_option maxHeartbeats 2000000 in
theorem l02Path_any (v0 v1 : Value) (lo hi : Nat) (p : PoolD) (xs xb : Int) (n : Nat) (w : World) (h1 : PoolAt w lo hi v0 v1 p) (hT : TreeR p xs xb) (hn : n < 64) :
    Calls Tryz.prog 98 #[.agg #[v0, v1], .agg #[.int .i64 xs, .int .i64 xb], .int .i64 (n : Int)] w fun e w' => e = .returned (.tuple #[.agg #[.int .i64 (pageS p xs xb n), .int .i64 (pageB p xs xb n)], .agg #[.int .i64 (nodeS p xs xb n), .int .i64 (nodeB p xs xb n)]]) ∧ Below w.heap.size w w' := by
  have Hp := hideT h1
  have HT := hideT hT
  obtain ⟨a, c, a', c', rfl, rfl⟩ : ∃ a c a' c', v0 = .slice a p.n c ∧ v1 = .slice a' p.hn c' := by
    obtain ⟨⟨_, a, c, h1, _⟩, ⟨_, a', c', h3, _⟩⟩ := h1
    exact ⟨a, c, a', c', h1, h3⟩
  clear h1 hT
  have hst := start4 w (.slice a p.n c) (.slice a' p.hn c') (.int .i64 xs) (.int .i64 xb) 34 43
  have hq : (n : Int).tdiv 8 = ((n / 8 : Nat) : Int) := (Int.ofNat_tdiv n 8).symm
  have hr : (n : Int).tmod 8 = ((n % 8 : Nat) : Int) := (Int.ofNat_tmod n 8).symm
  have hq8 : ((n / 8 : Nat) : Int) < 8 := by omega
  have hr8 : ((n % 8 : Nat) : Int) < 8 := by omega
  have hn' : (n : Int) < 64 := by omega
  have hm0 : 0 ≤ (n : Int) % 8 := by omega
  have hm8 : (n : Int) % 8 < 8 := by omega
  have hmt : ((n : Int) % 8).toNat = n % 8 := by omega
  go_enter Tryz.func98, Tryz.ntmps98
  go_wp2_with fail
  generalize ((((w.alloc (.cells #[.slice a p.n c, .slice a' p.hn c'] 34)).alloc (.cells #[.int .i64 xs, .int .i64 xb] 43)).alloc (.cells #[.int .i64 0, .int .i64 0] 43)).alloc (.cells #[.int .i64 0, .int .i64 0] 43)) = W0 at hst ⊢
  obtain ⟨hB, hX, hR1, hR2, hba, hz⟩ := hst
  refine (l02Kids_any _ _ lo hi p xs xb W0 (Hp.out.below hba) (root_ok HT.out)).mono ?_
  rintro e w1 ⟨g, cp, rfl, hrow, hb1⟩
  obtain ⟨q0, q1⟩ := row_at hrow (show n / 8 < 8 by omega)
  have hal := below_alloc w1 (.cells #[.int .i64 (kidSF p xs xb (n / 8)), .int .i64 (kidBF p xs xb (n / 8))] 43)
  have hC := below_next hb1 hal
  have HBW := hideT (hB.below hC)
  have HR1 := hideT (hR1.below hC)
  have HR2 := hideT (hR2.below hC)
  have HNW := hideT (show Box2 (w1.alloc (.cells #[.int .i64 (kidSF p xs xb (n / 8)), .int .i64 (kidBF p xs xb (n / 8))] 43)) w1.heap.size (.int .i64 (nodeS p xs xb n)) (.int .i64 (nodeB p xs xb n)) from Box2.new w1 _ _ _)
  have hbW := below_next hba hC
  have HKn := hideT (show KidsOk p (nodeS p xs xb n) (nodeB p xs xb n) from node_ok HT.out (by omega))
  have hzW : w.heap.size + 4 ≤ w1.heap.size := by have := hb1.size; omega
  clear hrow hb1 hal hC hB hX hR1 hR2 hba hz
  have hXW : w1.heap.size < (w1.alloc (.cells #[.int .i64 (kidSF p xs xb (n / 8)), .int .i64 (kidBF p xs xb (n / 8))] 43)).heap.size := by rw [World.size_alloc]; omega
  go_wp2_with fail
  generalize w1.alloc (.cells #[.int .i64 (kidSF p xs xb (n / 8)), .int .i64 (kidBF p xs xb (n / 8))] 43) = W at HBW HR1 HR2 HNW hbW hXW ⊢
  clear q0 q1
  generalize w1.heap.size = X at HNW hzW hXW ⊢
  obtain ⟨⟨x0, x1⟩, ⟨x2, x3⟩⟩ := HBW.out
  obtain ⟨⟨y0, y1⟩, ⟨y2, y3⟩⟩ := HNW.out
  refine wp_region_held_drew (S := (fun w' => w'.cell? ⟨w.heap.size, 0, none⟩ = some (.slice a p.n c) ∧ w'.cell? ⟨w.heap.size, 1, none⟩ = some (.slice a' p.hn c') ∧ w'.cell? ⟨X, 0, none⟩ = some (.int .i64 (nodeS p xs xb n)) ∧ w'.cell? ⟨X, 1, none⟩ = some (.int .i64 (nodeB p xs xb n)))) (by kernel_rfl) ?_ (fun hHeld => ?_)
  · (try dsimp only)
    go_keep
  refine tk 0 (h := tk 1 (h := tk 3 (h := tk 4 (h := tk 7 (h := ?_)))))
  refine rd [2] (rc (fun K hK => ?_) .nil)
  go_simp
  go_at_call 137
  refine (l02Kids_any _ _ lo hi p (nodeS p xs xb n) (nodeB p xs xb n) _ ?_ HKn.out).mono ?_
  · first | exact Hp.out.below hbW | exact Hp.out.below hbW.drew
  rintro e wa ⟨g2, cp2, rfl, hrow2, hba⟩
  have hCa : Below W.heap.size W wa := (by first | exact hba | exact below_undrew hba)
  obtain ⟨⟨k0, _⟩, ⟨k1, _⟩⟩ := HBW.out.below hCa
  obtain ⟨⟨k2, _⟩, ⟨k3, _⟩⟩ := HNW.out.below hCa
  obtain ⟨r0, r1⟩ := row_at hrow2 (show n % 8 < 8 by omega)
  obtain ⟨⟨l0, l1⟩, ⟨l2, l3⟩⟩ : Box2 wa (w.heap.size + 1 + 1) (.int .i64 0) (.int .i64 0) := HR1.out.below hCa
  obtain ⟨⟨m0, m1⟩, ⟨m2, m3⟩⟩ : Box2 wa (w.heap.size + 1 + 1 + 1) (.int .i64 0) (.int .i64 0) := HR2.out.below hCa
  (try go_wp2_with fail)
  refine hK.out _ _ (by (try dsimp only); go_keep) ?_
  clear hK K hHeld
  intro hHeld
  try simp only [Act.put, s1, s2, s3]
  refine tk 5 (h := ?_)
  refine rd [6] (rc (fun K hK => ?_) .nil)
  go_simp
  
  (try go_wp2_with fail)
  refine hK.out _ _ (by (try dsimp only); go_keep) ?_
  clear hK K hHeld
  intro hHeld
  try simp only [Act.put, s1, s2, s3]
  refine rd [8] (rc (fun K hK => ?_) .nil)
  go_simp
  
  (try go_wp2_with fail)
  refine hK.out _ _ (by (try dsimp only); exact ⟨((HBW.out.below hCa).turned (two_put _ _ _ _) (by omega)).1.1, ((HBW.out.below hCa).turned (two_put _ _ _ _) (by omega)).2.1, ((HNW.out.below hCa).turned (two_put _ _ _ _) (by omega)).1.1, ((HNW.out.below hCa).turned (two_put _ _ _ _) (by omega)).2.1⟩) ?_
  clear hK K hHeld
  intro hHeld
  try simp only [Act.put, s1, s2, s3]
  refine rd [9] (rc (fun K hK => ?_) .nil)
  go_simp
  
  (try go_wp2_with fail)
  refine hK.out _ _ (by (try dsimp only); exact ⟨(((HBW.out.below hCa).turned (two_put _ _ _ _) (by omega)).turned (two_put _ _ _ _) (by omega)).1.1, (((HBW.out.below hCa).turned (two_put _ _ _ _) (by omega)).turned (two_put _ _ _ _) (by omega)).2.1, (((HNW.out.below hCa).turned (two_put _ _ _ _) (by omega)).turned (two_put _ _ _ _) (by omega)).1.1, (((HNW.out.below hCa).turned (two_put _ _ _ _) (by omega)).turned (two_put _ _ _ _) (by omega)).2.1⟩) ?_
  clear hK K hHeld
  intro hHeld
  try simp only [Act.put, s1, s2, s3]
  refine wpAnyH_done (by kernel_rfl) ?_ _
  have hB5 : Below w.heap.size w wa := below_next hbW hCa
  go_wp2
  refine bodyPost_ret (v := .tuple #[.agg #[.int .i64 (pageS p xs xb n), .int .i64 (pageB p xs xb n)], .agg #[.int .i64 (nodeS p xs xb n), .int .i64 (nodeB p xs xb n)]]) (by simp [results, Tryz.results98, go_sem, l0, l2, m0, m2, pageS, pageB]) rfl ⟨rfl, ?_⟩
  exact (((hB5.setCell (by show w.heap.size ≤ w.heap.size + 1 + 1; omega) _).setCell (by show w.heap.size ≤ w.heap.size + 1 + 1; omega) _).setCell (by show w.heap.size ≤ w.heap.size + 1 + 1 + 1; omega) _).setCell (by show w.heap.size ≤ w.heap.size + 1 + 1 + 1; omega) _

end Go.Proofs.YtjpbmpjddbekgaaGreat

namespace Go.Proofs.YtjpbmpjddbekgaaGreat
open Go.RowKit
set_option linter.unusedVariables false

theorem mem_catQ {f : Nat → List Quad} {x : Quad} : ∀ k, x ∈ catQ f k ↔ ∃ i, i < k ∧ x ∈ f i
  | 0 => by simp [catQ]
  | k + 1 => by
    rw [catQ, List.mem_append, mem_catQ k]
    constructor
    · rintro (⟨i, hi, h⟩ | h)
      · exact ⟨i, by omega, h⟩
      · exact ⟨k, by omega, h⟩
    · rintro ⟨i, hi, h⟩
      by_cases e : i = k
      · subst e; exact Or.inr h
      · exact Or.inl ⟨i, by omega, h⟩
theorem mem_stepQ {p : PoolD} {L : Int} {G : Int → Int → Int → List Quad} {num xs xb : Int} {x : Quad} : x ∈ stepQ p L G num xs xb ↔ ¬ Nil xs xb ∧ (x = ((L, num), (xs, xb)) ∨ ∃ i, i < 8 ∧ x ∈ G (num * 8 + (i : Nat)) (kidS (p.s xs.toNat) i) (kidB (p.s xs.toNat) i)) := by
  unfold stepQ
  by_cases hz : Nil xs xb
  · rw [if_pos hz]; simp [hz]
  · rw [if_neg hz, List.mem_cons, mem_catQ]
    exact ⟨fun h => ⟨hz, h⟩, fun h => h.2⟩
theorem mem_pageQ {p : PoolD} {num xs xb : Int} {x : Quad} : x ∈ pageQ p num xs xb ↔ ¬ Nil xs xb ∧ x = ((2, num), (xs, xb)) := by
  rw [pageQ_eq]
  by_cases hz : Nil xs xb
  · rw [if_pos hz]; simp [hz]
  · rw [if_neg hz]; simp [hz]
theorem told_page {p : PoolD} {rs rb a : Int} {y : Int × Int} (hx : ((2, a), y) ∈ treeQ p rs rb) : ∃ n : Nat, n < 64 ∧ a = n ∧ y = (pageS p rs rb n, pageB p rs rb n) := by
  unfold treeQ at hx
  obtain ⟨hz, h | ⟨i, hi, h⟩⟩ := mem_stepQ.1 hx
  · injection h with h1 h2
    injection h1 with h1 h3
    exact absurd h1 (by decide)
  · unfold nodeQ at h
    obtain ⟨hz1, h | ⟨j, hj, h⟩⟩ := mem_stepQ.1 h
    · injection h with h1 h2
      injection h1 with h1 h3
      exact absurd h1 (by decide)
    · obtain ⟨hz2, h⟩ := mem_pageQ.1 h
      injection h with h1 h2
      injection h1 with _ h1
      refine ⟨i * 8 + j, by omega, by rw [h1]; omega, ?_⟩
      have e1 : (i * 8 + j) / 8 = i := by omega
      have e2 : (i * 8 + j) % 8 = j := by omega
      unfold pageS pageB nodeS nodeB
      rw [e1, e2]
      have n1 : kidSF p rs rb i = kidS (p.s rs.toNat) i := if_neg hz
      have n2 : kidBF p rs rb i = kidB (p.s rs.toNat) i := if_neg hz
      rw [n1, n2]
      rw [show kidSF p (kidS (p.s rs.toNat) i) (kidB (p.s rs.toNat) i) j = _ from if_neg hz1, show kidBF p (kidS (p.s rs.toNat) i) (kidB (p.s rs.toNat) i) j = _ from if_neg hz1]
      exact h2
theorem page_there {p : PoolD} {rs rb : Int} {n : Nat} (hn : n < 64) (h : ¬ Nil (pageS p rs rb n) (pageB p rs rb n)) : ((2, (n : Int)), (pageS p rs rb n, pageB p rs rb n)) ∈ treeQ p rs rb := by
  have hz1 : ¬ Nil (nodeS p rs rb n) (nodeB p rs rb n) := fun hz => h (by unfold pageS pageB kidSF kidBF; rw [if_pos hz, if_pos hz]; exact ⟨rfl, rfl⟩)
  have hz : ¬ Nil rs rb := fun hz => hz1 (by unfold nodeS nodeB kidSF kidBF; rw [if_pos hz, if_pos hz]; exact ⟨rfl, rfl⟩)
  have n1 : nodeS p rs rb n = kidS (p.s rs.toNat) (n / 8) := if_neg hz
  have n2 : nodeB p rs rb n = kidB (p.s rs.toNat) (n / 8) := if_neg hz
  unfold treeQ
  refine mem_stepQ.2 ⟨hz, Or.inr ⟨n / 8, by omega, ?_⟩⟩
  rw [← n1, ← n2]
  unfold nodeQ
  refine mem_stepQ.2 ⟨hz1, Or.inr ⟨n % 8, by omega, ?_⟩⟩
  have p1 : pageS p rs rb n = kidS (p.s (nodeS p rs rb n).toNat) (n % 8) := if_neg hz1
  have p2 : pageB p rs rb n = kidB (p.s (nodeS p rs rb n).toNat) (n % 8) := if_neg hz1
  rw [← p1, ← p2]
  refine mem_pageQ.2 ⟨h, ?_⟩
  rw [show (0 * 8 + ((n / 8 : Nat) : Int)) * 8 + ((n % 8 : Nat) : Int) = (n : Int) by omega]

/-- What stands in a place where all that was told has been laid. -/
def fillQ (l : List Quad) (n : Nat) : Int × Int := l.foldl (fun acc x => if x.1 = (2, (n : Int)) then x.2 else acc) (0, 0)
theorem fillQ_next (l : List Quad) (x : Quad) (n : Nat) : fillQ (l ++ [x]) n = if x.1 = (2, (n : Int)) then x.2 else fillQ l n := by
  unfold fillQ
  rw [List.foldl_append]
  rfl
theorem fill_from {v : Int × Int} {n : Nat} : ∀ (l : List Quad) (acc : Int × Int), (∀ x ∈ l, x.1 = (2, (n : Int)) → x.2 = v) → (acc = v ∨ ∃ x ∈ l, x.1 = (2, (n : Int))) → l.foldl (fun acc x => if x.1 = (2, (n : Int)) then x.2 else acc) acc = v
  | [], acc, _, h => by
    rcases h with h | ⟨x, hx, _⟩
    · exact h
    · exact absurd hx (by simp)
  | y :: l, acc, hall, h => by
    rw [List.foldl_cons]
    refine fill_from l _ (fun x hx => hall x (List.mem_cons_of_mem _ hx)) ?_
    by_cases e : y.1 = (2, (n : Int))
    · left
      rw [if_pos e]
      exact hall y List.mem_cons_self e
    · rw [if_neg e]
      rcases h with h | ⟨x, hx, hx2⟩
      · exact Or.inl h
      · rcases List.mem_cons.1 hx with rfl | hx
        · exact absurd hx2 e
        · exact Or.inr ⟨x, hx, hx2⟩
/-- All pages of a tree, each in its place. -/
theorem fill_tree (p : PoolD) (rs rb : Int) {n : Nat} (hn : n < 64) : fillQ (treeQ p rs rb) n = (pageS p rs rb n, pageB p rs rb n) := by
  unfold fillQ
  refine fill_from _ _ (fun x hx e => ?_) ?_
  · obtain ⟨⟨l, a⟩, y⟩ := x
    simp only at e
    injection e with e1 e2
    subst e1 e2
    obtain ⟨m, hm, e3, e4⟩ := told_page hx
    obtain rfl : n = m := by omega
    exact e4
  · by_cases hz : Nil (pageS p rs rb n) (pageB p rs rb n)
    · left
      obtain ⟨h1, h2⟩ := hz
      rw [h1, h2]
    · exact Or.inr ⟨_, page_there hn hz, rfl⟩
/-- The numbers that are told of pages are less than 64. -/
theorem told_small {p : PoolD} {rs rb : Int} {x : Quad} (hx : x ∈ treeQ p rs rb) (h : x.1.1 = 2) : 0 ≤ x.1.2 ∧ x.1.2 < 64 := by
  obtain ⟨⟨l, a⟩, y⟩ := x
  simp only at h
  subst h
  obtain ⟨n, hn, e, -⟩ := told_page hx
  simp only
  omega

end Go.Proofs.YtjpbmpjddbekgaaGreat

namespace Go.Proofs.YtjpbmpjddbekgaaGreat
open Go.RowKit Go.Maps
set_option linter.unusedVariables false

/-- A list of numbers, as cells. -/
def iclP (l : List Int) : List Value := l.map (fun x => .int .i64 x)
theorem iclP_len (l : List Int) : (iclP l).length = l.length := by simp [iclP]
theorem iclP_append (l m : List Int) : iclP (l ++ m) = iclP l ++ iclP m := by simp [iclP]
theorem iclP_get (l : List Int) (i : Nat) (h : i < l.length) : (iclP l)[i]? = some (.int .i64 (l.getD i 0)) := by
  simp [iclP, h, List.getD]
theorem infoIntP : (Tryz.prog.info? 2).map (fun i => (i.zero, i.size, i.bytes)) = some (some (.int .i64 0), 1, 8) := by kernel_rfl
/-- A row of numbers that a call has built; an empty one has no room behind it. -/
def RowP (w : World) (base : Nat) (v : Value) (l : List Int) : Prop := w.ownsRow base 2 1 v l.length (iclP l) ∧ (l = [] → ∃ a, v = .slice a 0 0)
theorem RowP.below {w w1 : World} {base : Nat} {v : Value} {l : List Int} (h : RowP w base v l) (hb : Below w.heap.size w w1) : RowP w1 base v l :=
  ⟨h.1.kept (grownL hb none) (by cases v.ownBlock <;> simp), h.2⟩
theorem RowP.nil (w : World) (base : Nat) : RowP w base (.slice none 0 0) [] := ⟨World.ownsRow_nil _ _ _ _, fun _ => ⟨none, rfl⟩⟩
theorem RowP.mono {w : World} {base base' : Nat} {v : Value} {l : List Int} (h : RowP w base v l) (hb : base' ≤ base) : RowP w base' v l := by
  refine ⟨⟨h.1.1, h.1.2.imp id ?_⟩, h.2⟩
  rintro ⟨g, cap, cur, e, h1, h2⟩
  exact ⟨g, cap, cur, e, Nat.le_trans hb h1, h2⟩
theorem RowP.lt {w : World} {base : Nat} {v : Value} {l : List Int} (h : RowP w base v l) {q : Nat} (hq : v.ownBlock = some q) : base ≤ q ∧ q < w.heap.size := by
  rcases h.1.2 with ⟨rfl, _⟩ | ⟨g, cap, cur, rfl, hb, hg, _⟩
  · simp [Value.ownBlock] at hq
  · simp only [Value.ownBlock, Option.some.injEq] at hq
    subst hq
    exact ⟨hb, (Array.getElem?_eq_some_iff.1 hg).1⟩
theorem RowP.next {w : World} {base g cap : Nat} {l : List Int} {x : Int} (h : w.ownsRow base 2 1 (.slice (some ⟨g, 0, none⟩) (l.length + 1) cap) (l.length + 1) (iclP l ++ [.int .i64 x])) : RowP w base (.slice (some ⟨g, 0, none⟩) (l.length + 1) cap) (l ++ [x]) := by
  refine ⟨?_, fun e => by simp at e⟩
  rw [List.length_append, iclP_append]
  exact h
def numI (l : List Int) (i : Nat) : Int := l.getD i 0
/-- To be written, too. -/
theorem RowP.own {w : World} {base : Nat} {v : Value} {l : List Int} (h : RowP w base v l) (hm : l.length ≤ maxLen) : ∃ b, IntsOwn w b v l.length (numI l) ∧ (0 < l.length → base ≤ b ∧ b < w.heap.size) := by
  obtain ⟨h, hz⟩ := h
  by_cases h0 : 0 < l.length
  · have h' := h
    obtain ⟨hm', ⟨e, e0⟩ | ⟨g, cap, cur, rfl, hb, hg, hle, hmx, hsz, htk⟩⟩ := h
    · omega
    · obtain ⟨g', cap', e, hcp, hb', hlt, hcell⟩ := owns_cell h' h0
      simp only [Value.slice.injEq, Option.some.injEq, Addr.mk.injEq, and_true, true_and] at e
      obtain ⟨rfl, rfl⟩ := e
      refine ⟨g, ⟨hm, _, cap, rfl, hcp, fun _ => ⟨0, rfl, fun i hi => ?_⟩, fun hlt2 => ⟨h0, rfl, hmx, cur, hg, by omega⟩⟩, fun _ => ⟨hb, hlt⟩⟩
      rw [Nat.zero_add]
      exact hcell _ _ (iclP_get l i hi)
  · obtain rfl : l = [] := List.length_eq_zero_iff.1 (by omega)
    obtain ⟨a, rfl⟩ := hz rfl
    exact ⟨0, ⟨hm, a, 0, rfl, Nat.le_refl _, fun h => absurd h h0, fun hlt => absurd hlt (Nat.lt_irrefl _)⟩, fun h => absurd h h0⟩

/-- The page of a number is not the same in the two trees. -/
def PageNe (p : PoolD) (a b c d : Int) (n : Nat) : Prop := ¬ (pageS p a b n = pageS p c d n ∧ pageB p a b n = pageB p c d n)
instance (p : PoolD) (a b c d : Int) (n : Nat) : Decidable (PageNe p a b c d n) := by unfold PageNe; infer_instance
/-- The numbers, less than n, of the pages that are not the same. -/
def apartL (p : PoolD) (a b c d : Int) : Nat → List Int
  | 0 => []
  | n + 1 => if PageNe p a b c d n then apartL p a b c d n ++ [(n : Int)] else apartL p a b c d n
theorem apartL_yes {p : PoolD} {a b c d : Int} {n : Nat} (h : PageNe p a b c d n) : apartL p a b c d (n + 1) = apartL p a b c d n ++ [(n : Int)] := if_pos h
theorem apartL_no {p : PoolD} {a b c d : Int} {n : Nat} (h : ¬ PageNe p a b c d n) : apartL p a b c d (n + 1) = apartL p a b c d n := if_neg h
theorem apartL_len (p : PoolD) (a b c d : Int) : ∀ n, (apartL p a b c d n).length ≤ n
  | 0 => Nat.le_refl _
  | n + 1 => by
    have := apartL_len p a b c d n
    by_cases h : PageNe p a b c d n
    · rw [apartL_yes h, List.length_append]; simp; omega
    · rw [apartL_no h]; omega
theorem pageS_zero (p : PoolD) (n : Nat) : pageS p 0 0 n = 0 := by
  have h1 : nodeS p 0 0 n = 0 := by unfold nodeS kidSF; exact if_pos ⟨rfl, rfl⟩
  have h2 : nodeB p 0 0 n = 0 := by unfold nodeB kidBF; exact if_pos ⟨rfl, rfl⟩
  unfold pageS kidSF
  rw [h1, h2]
  exact if_pos ⟨rfl, rfl⟩
theorem pageB_zero (p : PoolD) (n : Nat) : pageB p 0 0 n = 0 := by
  have h1 : nodeS p 0 0 n = 0 := by unfold nodeS kidSF; exact if_pos ⟨rfl, rfl⟩
  have h2 : nodeB p 0 0 n = 0 := by unfold nodeB kidBF; exact if_pos ⟨rfl, rfl⟩
  unfold pageB kidBF
  rw [h1, h2]
  exact if_pos ⟨rfl, rfl⟩
theorem pageNe_zero {p : PoolD} {a b : Int} {n : Nat} : PageNe p a b 0 0 n ↔ ¬ Nil (pageS p a b n) (pageB p a b n) := by
  unfold PageNe
  rw [pageS_zero, pageB_zero]
  rfl
theorem apartL_same (p : PoolD) (a b : Int) : ∀ n, apartL p a b a b n = []
  | 0 => rfl
  | n + 1 => by
    rw [apartL_no (by unfold PageNe; exact fun h => h ⟨rfl, rfl⟩), apartL_same p a b n]

/-- The answer is a new list of numbers; what was there is as it was. -/
def NewInts (l : List Int) (w : World) (e : Ending) (w' : World) : Prop := ∃ v, e = .returned v ∧ RowP w' w.heap.size v l ∧ Below w.heap.size w w'

end Go.Proofs.YtjpbmpjddbekgaaGreat

namespace Go.Proofs.YtjpbmpjddbekgaaGreat
open Go.RowKit Go.Maps
set_option linter.unusedVariables false

theorem snaps_has {W : WorldD} {vd : Nat → Value} (x : Int) : Maps.has (putD (fun i => keyN (W.snaps i).id) (fun i => snapV (vd i) (W.snaps i)) W.pn) (keyN x) = true ↔ HasId W x := by
  rw [putD_has (fun i => keyN_key _)]
  constructor
  · rintro ⟨i, hi, e⟩
    exact ⟨i, hi, keyN_inj e⟩
  · rintro ⟨i, hi, e⟩
    exact ⟨i, hi, by rw [e]⟩

set_option maxRecDepth 20000 in
set_option maxHeartbeats 1000000 in
theorem hasId_any (v0 v1 v2 v3 : Value) (lo hi : Nat) (W : WorldD) (x : Int) (w : World) (h : WorldAt w lo hi v0 v1 v2 v3 W) (hn : W.pn ≤ 20) (hwf : IdsWf W.pn W.snaps) (hD : IdsDist W) (hx : (Lit.int .i64 x).wf = true) :
    Calls Tryz.prog 101 #[worldV v0 v1 v2 v3 W, .int .i64 x] w fun e w' => BoolIs (HasId W x) e ∧ Below w.heap.size w w' := by
  have Hp := hideW h
  have HD := hideW hD
  have Hkey := hideW (keyN_of hx)
  clear h hD hx
  have ha := below_alloc w (.cells #[v0, v1, .int .i64 W.time, .int .i64 W.next, v2, v3] 38)
  obtain ⟨⟨x0, -⟩, ⟨x2, -⟩, ⟨x4, -⟩, ⟨x6, -⟩, ⟨x8, -⟩, ⟨x10, -⟩⟩ := Box6.new w v0 v1 (.int .i64 W.time) (.int .i64 W.next) v2 v3 38
  go_enter Tryz.func101, Tryz.ntmps101
  go_wp2_with fail
  clear x0 x2 x4 x6 x8 x10
  generalize w.alloc (.cells #[v0, v1, .int .i64 W.time, .int .i64 W.next, v2, v3] 38) = W0 at ha ⊢
  refine (snapsById_any v0 v1 v2 v3 lo hi W W0 (Hp.out.below ha) hn hwf).mono ?_
  rintro e w1 ⟨vd, rfl, hm, hd, hb1⟩
  obtain ⟨a, c, hat, -⟩ := snaps_look HD.out hd x
  have HM := hideW hm
  have Hat := hideW hat
  have hB1 := below_next ha hb1
  have Hhas := hideW (@snaps_has W vd x)
  clear hm hd hat ha hb1
  unfold snapV at Hat
  generalize aheadOf W x = S at *
  have hal2 := below_alloc w1 (.cells #[.int .i64 S.id, .string S.name, .string S.set, .int .i64 S.prev, .int .i64 S.time, .int .i64 S.rs, .int .i64 S.rb, .slice a S.dn c] 46)
  have hB2 := below_next hB1 hal2
  clear hal2
  obtain ⟨t, ht⟩ : ∃ t, Maps.has (putD (fun i => keyN (W.snaps i).id) (fun i => snapV (vd i) (W.snaps i)) W.pn) (keyN x) = t := ⟨_, rfl⟩
  have Ht := hideW ht
  have HB := hideW (show t = true ↔ HasId W x by rw [← ht]; exact Hhas.out)
  clear ht Hhas
  go_wp2_with (first
    | (at_lookup; refine wpList_lookup_raw_ok _ rfl _ _ 98 rfl 2 46 lawI snapsT (zeroSnapV _) (W0.heap.size + 1) W.pn _ rfl HM.out _ _ rfl Hkey.out _ Hat.out t Ht.out ?_)
    | go_in)
  go_ret
  exact ⟨⟨t, rfl, HB.out⟩, hB2⟩

end Go.Proofs.YtjpbmpjddbekgaaGreat

namespace Go.Proofs.YtjpbmpjddbekgaaGreat
open Go.RowKit Go.Maps
set_option linter.unusedVariables false

open Classical in
/-- What Pages, what Changed answer. -/
noncomputable def pagesAns (W : WorldD) (x : ByteArray) : List Int := if SpecW W then apartL W.pool (setAt W x).rs (setAt W x).rb 0 0 64 else []
theorem pagesAns_no {W : WorldD} {x : ByteArray} (h : ¬ SpecW W) : pagesAns W x = [] := if_neg h
theorem pagesAns_yes {W : WorldD} {x : ByteArray} (h : SpecW W) : pagesAns W x = apartL W.pool (setAt W x).rs (setAt W x).rb 0 0 64 := if_pos h
theorem pagesAns_zero {W : WorldD} {x : ByteArray} (h : SpecW W → setAt W x = zeroSetD) : pagesAns W x = [] := by
  by_cases hS : SpecW W
  · rw [pagesAns_yes hS, h hS]
    exact apartL_same W.pool 0 0 64
  · exact pagesAns_no hS
open Classical in
noncomputable def changedAns (W : WorldD) (x y : Int) : List Int := if SpecW W ∧ HasId W x ∧ HasId W y then apartL W.pool (aheadOf W x).rs (aheadOf W x).rb (aheadOf W y).rs (aheadOf W y).rb 64 else []
theorem changedAns_no {W : WorldD} {x y : Int} (h : ¬ (SpecW W ∧ HasId W x ∧ HasId W y)) : changedAns W x y = [] := if_neg h
theorem changedAns_yes {W : WorldD} {x y : Int} (h : SpecW W ∧ HasId W x ∧ HasId W y) : changedAns W x y = apartL W.pool (aheadOf W x).rs (aheadOf W x).rb (aheadOf W y).rs (aheadOf W y).rb 64 := if_pos h
theorem pagesAns_len (W : WorldD) (x : ByteArray) : (pagesAns W x).length ≤ 64 := by
  by_cases hS : SpecW W
  · rw [pagesAns_yes hS]; exact apartL_len _ _ _ _ _ _
  · rw [pagesAns_no hS]; exact Nat.zero_le _
theorem changedAns_len (W : WorldD) (x y : Int) : (changedAns W x y).length ≤ 64 := by
  by_cases hS : SpecW W ∧ HasId W x ∧ HasId W y
  · rw [changedAns_yes hS]; exact apartL_len _ _ _ _ _ _
  · rw [changedAns_no hS]; exact Nat.zero_le _

end Go.Proofs.YtjpbmpjddbekgaaGreat

namespace Go.Proofs.YtjpbmpjddbekgaaGreat
open Go.RowKit Go.Shelf Go.Maps
set_option linter.unusedVariables false
attribute [local go_sem] Oper.semAt_some

/-- The cells of an array of 64 pointers. -/
def PgAt (X : World) (V : Nat) (f : Nat → Int × Int) : Prop := ∀ n, n < 64 → Cell X V (n * 2) (.int .i64 (f n).1) ∧ Cell X V (n * 2 + 1) (.int .i64 (f n).2)
theorem PgAt.below {X Y : World} {V : Nat} {f : Nat → Int × Int} (h : PgAt X V f) (t : Below X.heap.size X Y) : PgAt Y V f := fun n hn => ⟨(h n hn).1.below t, (h n hn).2.below t⟩
theorem PgAt.own {B : Nat} {X Y : World} {row : Option Nat} {V : Nat} {f : Nat → Int × Int} (h : PgAt X V f) (hg : X.grownBy Y row) (hr : ∀ r, row = some r → B ≤ r ∧ ∃ ob : Obj, X.heap[r]? = some ob ∧ ob.isCells = false) : PgAt Y V f := fun n hn => ⟨cell_own (h n hn).1 hg hr, cell_own (h n hn).2 hg hr⟩
theorem PgAt.put {X : World} {V : Nat} {f g : Nat → Int × Int} (h : PgAt X V f) {k : Nat} (hk : k < 64) (y : Int × Int) (hg : ∀ n, n < 64 → g n = if n = k then y else f n) : PgAt ((X.setCell ⟨V, k * 2, none⟩ (.int .i64 y.1)).setCell ⟨V, k * 2 + 1, none⟩ (.int .i64 y.2)) V g := fun n hn => by
  rw [hg n hn]
  by_cases e : n = k
  · subst e
    rw [if_pos rfl]
    exact ⟨((h n hn).1.set _).other _ (Or.inr (by omega)), ((h n hn).2.other _ (Or.inr (by omega))).set _⟩
  · rw [if_neg e]
    exact ⟨((h n hn).1.other _ (Or.inr (by omega))).other _ (Or.inr (by omega)), ((h n hn).2.other _ (Or.inr (by omega))).other _ (Or.inr (by omega))⟩
theorem zero_eq : Tryz.zeroCells173 = Array.replicate 128 (.int .i64 0) := by kernel_rfl
theorem zero_at {i : Nat} (h : i < 128) : Tryz.zeroCells173[i]? = some (.int .i64 0) := by
  rw [zero_eq, Array.getElem?_replicate, if_pos h]
theorem PgAt.new (w : World) : PgAt (w.alloc (.cells Tryz.zeroCells173 173)) w.heap.size (fun _ => (0, 0)) := fun n hn => by
  have hb : (w.alloc (.cells Tryz.zeroCells173 173)).heap[w.heap.size]? = some (.cells Tryz.zeroCells173 173) := heap_alloc_new _ _
  exact ⟨cell_of_block hb (zero_at (by omega)), cell_of_block hb (zero_at (by omega))⟩

end Go.Proofs.YtjpbmpjddbekgaaGreat

namespace Go.Proofs.YtjpbmpjddbekgaaGreat
open Go.RowKit Go.Shelf Go.Maps
set_option linter.unusedVariables false
attribute [local go_sem] Oper.semAt_some

/-- The cells of an array of 64 pointers, one by one. -/
def pgV (f : Nat → Int × Int) (j : Nat) : Value := .int .i64 (if j % 2 = 0 then (f (j / 2)).1 else (f (j / 2)).2)
def pgC (f : Nat → Int × Int) : Array Value := ((List.range 128).map (pgV f)).toArray
theorem pgU : Tryz.prog.underlying 173 = some (.array 64 43) := by kernel_rfl
theorem pgI : (Tryz.prog.info? 173).map (·.size) = some 128 := by kernel_rfl
theorem PgAt.cell {X : World} {V : Nat} {f : Nat → Int × Int} (h : PgAt X V f) {j : Nat} (hj : j < 128) : Cell X V j (pgV f j) := by
  unfold pgV
  by_cases e : j % 2 = 0
  · rw [if_pos e]
    have := (h (j / 2) (by omega)).1
    rw [show j / 2 * 2 = j by omega] at this
    exact this
  · rw [if_neg e]
    have := (h (j / 2) (by omega)).2
    rw [show j / 2 * 2 + 1 = j by omega] at this
    exact this
theorem run_loadPg {X : World} {V : Nat} {f : Nat → Int × Int} (h : PgAt X V f) : (loadVar 173 ⟨V, 0, none⟩).run Tryz.prog X = .ok (.agg (pgC f)) X := by
  have hl : (loadCells ⟨V, 0, none⟩ (pgC f).toList.length).run Tryz.prog X = .ok (pgC f).toList.toArray X :=
    run_loadCells_list (P := Tryz.prog) X ⟨V, 0, none⟩ (pgC f).toList (fun j v hv => by
      have hadd : (⟨V, 0, none⟩ : Addr).add j = ⟨V, j, none⟩ := by unfold Addr.add; split <;> simp_all
      have hj : j < 128 := by
        have := (List.getElem?_eq_some_iff.1 hv).1
        simp [pgC] at this
        exact this
      simp [pgC, hj] at hv
      rw [hadd, ← hv]
      exact (h.cell hj).1)
  cases hq : Tryz.prog.info? 173 with
  | none => have := pgI; simp [hq] at this
  | some i =>
    have hs : i.size = 128 := by have := pgI; simpa [hq] using this
    have hagg : (isAgg 173).run Tryz.prog X = .ok true X := by
      unfold isAgg
      rw [Sem.run_bind, run_underlying pgU X]
      simp
    have h8 : (pgC f).size = 128 := by simp [pgC]
    simp only [Array.length_toList, Array.toArray_toList, h8] at hl
    simp [loadVar, Sem.run_bind, hagg, sizeOf, typeInfo, hq, hs, hl]

end Go.Proofs.YtjpbmpjddbekgaaGreat
