/- What spec.l02Kids leaves: a new row of eight pointers. -/
import Derived.Test.YtikhipekmlhibaaG17
import Derived.Test.YtikhipekmlhibaaG1
import Derived.Scope
import Derived.WalkMore
import Derived.Deep.MidRow
import Derived.Deep.DeepCutAuto
namespace Go.Proofs.Ytikhipekmlhibaa
open Go.RowKit
set_option linter.unusedVariables false

/-- n pointers, by their number. -/
def rowF (f g : Nat → Int) (n : Nat) : List (Int × Int) := (List.range n).map fun i => (f i, g i)
theorem rowF_len (f g : Nat → Int) (n : Nat) : (rowF f g n).length = n := by simp [rowF]
theorem rowF_succ (f g : Nat → Int) (n : Nat) : rowF f g (n + 1) = rowF f g n ++ [(f n, g n)] := by simp [rowF, List.range_succ]
theorem rowF_at (f g : Nat → Int) {n i : Nat} (h : i < n) : fstL (rowF f g n) i = f i ∧ sndL (rowF f g n) i = g i := by
  have : (rowF f g n).getD i (0, 0) = (f i, g i) := by
    rw [List.getD_eq_getElem?_getD, List.getElem?_eq_getElem (by rw [rowF_len]; exact h), Option.getD_some]
    simp [rowF]
  unfold fstL sndL
  rw [this]
  exact ⟨rfl, rfl⟩
theorem rowF_congr {f g f' g' : Nat → Int} {n : Nat} (h : ∀ i, i < n → f i = f' i ∧ g i = g' i) : rowF f g n = rowF f' g' n := by
  unfold rowF
  apply List.map_congr_left
  intro i hi
  rw [List.mem_range] at hi
  rw [(h i hi).1, (h i hi).2]

/-- The cells of pointers that are read. -/
theorem pcl_cells {w : World} {b off : Nat} {f g : Nat → Int} : ∀ {n : Nat}, (∀ i, i < n → w.cell? ⟨b, off + i * 2, none⟩ = some (.int .i64 (f i)) ∧ w.cell? ⟨b, off + i * 2 + 1, none⟩ = some (.int .i64 (g i))) → ∀ j u, (pcl (rowF f g n))[j]? = some u → w.cell? ⟨b, off + j, none⟩ = some u
  | 0, _, j, u, hj => by simp [rowF, pcl] at hj
  | n + 1, h, j, u, hj => by
    rw [rowF_succ, pcl_append] at hj
    by_cases hlt : j < n * 2
    · rw [List.getElem?_append_left (by rw [pcl_len, rowF_len]; exact hlt)] at hj
      exact pcl_cells (fun i hi => h i (by omega)) j u hj
    · rw [List.getElem?_append_right (by rw [pcl_len, rowF_len]; omega), pcl_len, rowF_len] at hj
      obtain ⟨h1, h2⟩ := h n (Nat.lt_succ_self n)
      have hj2 : j - n * 2 < 2 := by
        have := (List.getElem?_eq_some_iff.1 hj).1
        simpa [pcl] using this
      by_cases e : j = n * 2
      · subst e
        rw [h1]
        simpa [pcl] using hj
      · obtain rfl : j = n * 2 + 1 := by omega
        rw [show n * 2 + 1 - n * 2 = 1 by omega] at hj
        rw [← Nat.add_assoc, h2]
        simpa [pcl] using hj

/-- The slot and the birth of the i-th Kid of what a pointer points at, none's being none. -/
def kidSF (p : PoolD) (xs xb : Int) (i : Nat) : Int := if Nil xs xb then 0 else kidS (p.s xs.toNat) i
def kidBF (p : PoolD) (xs xb : Int) (i : Nat) : Int := if Nil xs xb then 0 else kidB (p.s xs.toNat) i

theorem zero_row : pcl (rowF (fun _ => 0) (fun _ => 0) 8) = (zeros #[.int .i64 0, .int .i64 0] 8).toList := by kernel_rfl

set_option maxRecDepth 20000 in
set_option maxHeartbeats 1000000 in
theorem l02Kids_any (v0 v1 : Value) (lo hi : Nat) (p : PoolD) (xs xb : Int) (w : World) (h1 : PoolAt w lo hi v0 v1 p) (hP : Nil xs xb ∨ (Points p xs xb ∧ (p.s xs.toNat).kn = 8)) :
    Calls Try.prog 78 #[.agg #[v0, v1], .agg #[.int .i64 xs, .int .i64 xb]] w fun e w' => ∃ b cp, e = .returned (.slice (some ⟨b, 0, none⟩) 8 cp) ∧ RowL w' w.heap.size (.slice (some ⟨b, 0, none⟩) 8 cp) (rowF (kidSF p xs xb) (kidBF p xs xb) 8) ∧ Below w.heap.size w w' := by
  have Hp := hideT h1
  have HP := hideT hP
  obtain ⟨a, c, a', c', rfl, rfl⟩ : ∃ a c a' c', v0 = .slice a p.n c ∧ v1 = .slice a' p.hn c' := by
    obtain ⟨⟨_, a, c, h1, _⟩, ⟨_, a', c', h3, _⟩⟩ := h1
    exact ⟨a, c, a', c', h1, h3⟩
  clear h1 hP
  have hst := start22 w (.slice a p.n c) (.slice a' p.hn c') (.int .i64 xs) (.int .i64 xb) 26 33
  obtain ⟨i0, hi0, hzz⟩ := Option.map_eq_some_iff.1 infoPtrL
  simp only [Prod.mk.injEq] at hzz
  have HI := hideT (And.intro hi0 hzz)
  clear hi0 hzz
  go_enter Try.func78, Try.ntmps78
  go_wp2_with fail
  generalize (w.alloc (.cells #[.slice a p.n c, .slice a' p.hn c'] 26)).alloc (.cells #[.int .i64 xs, .int .i64 xb] 33) = W at hst ⊢
  obtain ⟨hB, hX, hba, hz⟩ := hst
  refine (l01None_any xs xb W).mono ?_
  rintro e w1 ⟨⟨t, rfl, ht⟩, hb1⟩
  have HB1 := hideT (hB.below hb1)
  have HX1 := hideT (hX.below hb1)
  have hB1 := below_next hba hb1
  have hz1 : w.heap.size + 2 ≤ w1.heap.size := by have := hb1.size; omega
  clear hB hX hba hb1 hz
  by_cases hn : Nil xs xb
  · have HN := hideT hn
    obtain rfl : t = true := ht.2 hn
    clear ht hn
    have hmk := make_zeros 27 33 (.agg #[.int .i64 0, .int .i64 0]) 2 16 (by kernel_rfl) infoPtr rfl 8 (by omega) (by omega)
    have hmk' : ∀ w, (Instr.makeSlice 27 (.int .i64 8) (.int .i64 8)).run Try.prog w = .ok (.slice (some ⟨w.heap.size, 0, none⟩) 8 8) (w.alloc (.cells (zeros #[.int .i64 0, .int .i64 0] 8) 33)) := hmk
    clear hmk
    have hlit := World.ownsRow_lit (e := 33) (size := 2) (base := w.heap.size) w1 (zeros #[.int .i64 0, .int .i64 0] 8) 8 (by omega) (by unfold maxLen; omega) (by decide +kernel)
    have hB2 := below_next hB1 (below_alloc w1 (.cells (zeros #[.int .i64 0, .int .i64 0] 8) 33))
    have Hlit := hideT hlit
    clear hlit
    go_wp2
    go_ret
    refine ⟨_, _, rfl, ?_, hB2⟩
    have e0 : rowF (kidSF p xs xb) (kidBF p xs xb) 8 = rowF (fun _ => 0) (fun _ => 0) 8 := rowF_congr (fun i _ => ⟨if_pos HN.out, if_pos HN.out⟩)
    unfold RowL
    rw [e0, zero_row, rowF_len]
    exact Hlit.out
  · have HN := hideT hn
    obtain rfl : t = false := bool_no ht hn
    clear ht hn
    obtain ⟨hPt, h8⟩ := HP.out.resolve_left HN.out
    have Hrow : Hid (rowF (kidSF p xs xb) (kidBF p xs xb) 8 = rowF (p.s xs.toNat).ks (p.s xs.toNat).kb 8) := rowF_congr (fun i hi => ⟨(if_neg HN.out).trans (kidS_at h8 hi), (if_neg HN.out).trans (kidB_at h8 hi)⟩)
    obtain ⟨k, rfl⟩ := Int.eq_ofNat_of_zero_le hPt.2.1
    have hk : k < p.n := by have := hPt.2.2.1; omega
    have hk' : (k : Int) < (p.n : Int) := by omega
    rw [Int.toNat_natCast] at h8 Hrow
    clear hPt HP
    obtain ⟨b, off, ka, kc, rfl, hsc⟩ := Hp.out.1.cells hk
    have Hkw : Hid (PtrsAt w lo hi (.slice ka 8 kc) 8 (p.s k).ks (p.s k).kb) := by have := hsc.slot.2.1; rw [h8] at this; exact this
    have hal := below_alloc w1 (.cells #[] 33)
    have hBa := below_next hB1 hal
    obtain ⟨q0, q1, q2, _⟩ := hsc.below hBa
    rw [h8] at q1
    have HBb := hideT (HB1.out.below hal)
    have HXb := hideT (HX1.out.below hal)
    have Hlit := hideT (World.ownsRow_lit (e := 33) (size := 2) (base := w.heap.size) w1 #[] 0 (by omega) (by unfold maxLen; omega) rfl)
    have hza : (w1.alloc (.cells #[] 33)).heap.size = w1.heap.size + 1 := World.size_alloc _ _
    obtain ⟨⟨x0, x1⟩, ⟨x2, x3⟩⟩ := HBb.out
    obtain ⟨⟨y0, y1⟩, ⟨y2, y3⟩⟩ := HXb.out
    have Hk2 := hideT (Hkw.out.below hBa)
    clear hal hsc HB1 HX1 h8 Hkw
    go_wp2_with (first
      | (at_builtin; refine wpList_append_opt rfl _ _ 27 rfl w.heap.size 33 i0 (.agg #[.int .i64 0, .int .i64 0]) 2 16 (by kernel_rfl) HI.out.1 HI.out.2.1 HI.out.2.2.1 HI.out.2.2.2 rfl (by decide) (.slice (some ⟨w1.heap.size, 0, none⟩) 0 0) 0 [] rfl ?c0 ka 8 kc (pcl (rowF (p.s k).ks (p.s k).kb 8)) rfl (by rw [pcl_len, rowF_len]) (pcl_one _) ?c1 ?c3 ?c4 ?c5 ?_)
      | fail)
    case c0 => exact Hlit.out
    case c1 =>
      intro h0
      obtain ⟨_, a2, c2, hv, _, hx⟩ := Hk2.out
      simp only [Value.slice.injEq, true_and] at hv
      obtain ⟨rfl, rfl⟩ := hv
      obtain ⟨kb, koff, ha, _, _, h3⟩ := hx (by omega)
      exact ⟨kb, koff, ha, pcl_cells h3⟩
    case c3 => unfold maxLen; omega
    case c4 => omega
    case c5 => omega
    intro v3 w3 hown3 hgrow3
    obtain ⟨g3, cp3, rfl, _⟩ := World.ownsRow.form hown3 (by omega)
    have Hr3 : Hid (RowL w3 w.heap.size (.slice (some ⟨g3, 0, none⟩) 8 cp3) (rowF (kidSF p k xb) (kidBF p k xb) 8)) := by
      unfold RowL
      rw [Hrow.out, rowF_len]
      exact hown3
    have hB3 := hBa.grown hgrow3 hBa.size (fun q hq => by simp only [Value.ownBlock, Option.some.injEq] at hq; omega)
    clear hown3 hgrow3
    go_wp2
    go_ret
    exact ⟨_, _, rfl, Hr3.out, hB3⟩

end Go.Proofs.Ytikhipekmlhibaa

namespace Go.Proofs.Ytikhipekmlhibaa
open Go.RowKit
set_option linter.unusedVariables false

/-- A pointer that is none, or that of a node, as the Kids are read through it. -/
def KidsOk (p : PoolD) (xs xb : Int) : Prop := Nil xs xb ∨ (Points p xs xb ∧ (p.s xs.toNat).kn = 8)
theorem root_ok {p : PoolD} {xs xb : Int} (h : TreeR p xs xb) : KidsOk p xs xb := by
  rcases h.2 with h2 | h2
  · exact Or.inl h2
  · right
    refine ⟨h2.1.1, ?_⟩
    rcases points_kn h.1 h2.1.1 with h3 | h3
    · have := h2.1.2.1; omega
    · exact h3
theorem node_ok {p : PoolD} {xs xb : Int} (h : TreeR p xs xb) {j : Nat} (hj : j < 8) : KidsOk p (kidSF p xs xb j) (kidBF p xs xb j) := by
  by_cases hz : Nil xs xb
  · left; unfold kidSF kidBF; rw [if_pos hz, if_pos hz]; exact ⟨rfl, rfl⟩
  · unfold kidSF kidBF
    rw [if_neg hz, if_neg hz]
    rcases (h.2.resolve_left hz).2.1.1 j hj with h2 | h2
    · exact Or.inl h2
    · right
      refine ⟨h2.1.1, ?_⟩
      rcases points_kn h.1 h2.1.1 with h3 | h3
      · have := h2.1.2.1; omega
      · exact h3
/-- The node, and the page, of a number. -/
def nodeS (p : PoolD) (xs xb : Int) (n : Nat) : Int := kidSF p xs xb (n / 8)
def nodeB (p : PoolD) (xs xb : Int) (n : Nat) : Int := kidBF p xs xb (n / 8)
def pageS (p : PoolD) (xs xb : Int) (n : Nat) : Int := kidSF p (nodeS p xs xb n) (nodeB p xs xb n) (n % 8)
def pageB (p : PoolD) (xs xb : Int) (n : Nat) : Int := kidBF p (nodeS p xs xb n) (nodeB p xs xb n) (n % 8)
theorem page_ok {p : PoolD} {xs xb : Int} (h : TreeR p xs xb) {n : Nat} (hn : n < 64) : Nil (pageS p xs xb n) (pageB p xs xb n) ∨ PageAt p (pageS p xs xb n) (pageB p xs xb n) := by
  by_cases hz : Nil xs xb
  · left
    have e : Nil (nodeS p xs xb n) (nodeB p xs xb n) := by unfold nodeS nodeB kidSF kidBF; rw [if_pos hz, if_pos hz]; exact ⟨rfl, rfl⟩
    unfold pageS pageB kidSF kidBF
    rw [if_pos e, if_pos e]
    exact ⟨rfl, rfl⟩
  · have e1 : nodeS p xs xb n = kidS (p.s xs.toNat) (n / 8) := if_neg hz
    have e2 : nodeB p xs xb n = kidB (p.s xs.toNat) (n / 8) := if_neg hz
    by_cases hn2 : Nil (nodeS p xs xb n) (nodeB p xs xb n)
    · left
      unfold pageS pageB kidSF kidBF
      rw [if_pos hn2, if_pos hn2]
      exact ⟨rfl, rfl⟩
    · have e3 : pageS p xs xb n = kidS (p.s (nodeS p xs xb n).toNat) (n % 8) := if_neg hn2
      have e4 : pageB p xs xb n = kidB (p.s (nodeS p xs xb n).toNat) (n % 8) := if_neg hn2
      rw [e3, e4]
      rcases (h.2.resolve_left hz).2.1.1 (n / 8) (by omega) with h2 | h2
      · rw [← e1, ← e2] at h2; exact absurd h2 hn2
      · have := h2.2.1 (n % 8) (by omega)
        rw [← e1] at this
        exact this

/-- The four variables with which the call begins. -/
theorem start4 (w : World) (a0 a1 x0 x1 : Value) (t1 t2 : TypeId) :
    Box2 ((((w.alloc (.cells #[a0, a1] t1)).alloc (.cells #[x0, x1] t2)).alloc (.cells #[.int .i64 0, .int .i64 0] t2)).alloc (.cells #[.int .i64 0, .int .i64 0] t2)) w.heap.size a0 a1 ∧
    Box2 ((((w.alloc (.cells #[a0, a1] t1)).alloc (.cells #[x0, x1] t2)).alloc (.cells #[.int .i64 0, .int .i64 0] t2)).alloc (.cells #[.int .i64 0, .int .i64 0] t2)) (w.heap.size + 1) x0 x1 ∧
    Box2 ((((w.alloc (.cells #[a0, a1] t1)).alloc (.cells #[x0, x1] t2)).alloc (.cells #[.int .i64 0, .int .i64 0] t2)).alloc (.cells #[.int .i64 0, .int .i64 0] t2)) (w.heap.size + 2) (.int .i64 0) (.int .i64 0) ∧
    Box2 ((((w.alloc (.cells #[a0, a1] t1)).alloc (.cells #[x0, x1] t2)).alloc (.cells #[.int .i64 0, .int .i64 0] t2)).alloc (.cells #[.int .i64 0, .int .i64 0] t2)) (w.heap.size + 2 + 1) (.int .i64 0) (.int .i64 0) ∧
    Below w.heap.size w ((((w.alloc (.cells #[a0, a1] t1)).alloc (.cells #[x0, x1] t2)).alloc (.cells #[.int .i64 0, .int .i64 0] t2)).alloc (.cells #[.int .i64 0, .int .i64 0] t2)) ∧
    ((((w.alloc (.cells #[a0, a1] t1)).alloc (.cells #[x0, x1] t2)).alloc (.cells #[.int .i64 0, .int .i64 0] t2)).alloc (.cells #[.int .i64 0, .int .i64 0] t2)).heap.size = w.heap.size + 4 := by
  obtain ⟨h1, h2, h3, h4⟩ := start22 w a0 a1 x0 x1 t1 t2
  generalize (w.alloc (.cells #[a0, a1] t1)).alloc (.cells #[x0, x1] t2) = W at h1 h2 h3 h4 ⊢
  have b1 := below_alloc W (.cells #[.int .i64 0, .int .i64 0] t2)
  have b2 := below_alloc (W.alloc (.cells #[.int .i64 0, .int .i64 0] t2)) (.cells #[.int .i64 0, .int .i64 0] t2)
  have n1 := (Box2.new W (.int .i64 0) (.int .i64 0) t2).below b2
  have n2 := Box2.new (W.alloc (.cells #[.int .i64 0, .int .i64 0] t2)) (.int .i64 0) (.int .i64 0) t2
  rw [h4] at n1
  rw [World.size_alloc, h4] at n2
  exact ⟨(h1.below b1).below b2, (h2.below b1).below b2, n1, n2, below_next (below_next h3 b1) b2, by rw [World.size_alloc, World.size_alloc, h4]⟩
theorem two_put (w : World) (b : Nat) (u v : Value) : Turned (fun k => k = b) w ((w.setCell ⟨b, 0, none⟩ u).setCell ⟨b, 1, none⟩ v) := ((Turned.refl (fun k => k = b) w).setCell (p := ⟨b, 0, none⟩) rfl u).setCell (p := ⟨b, 1, none⟩) rfl v
/-- The i-th pointer of a row. -/
theorem row_at {w : World} {base g cp : Nat} {f h : Nat → Int} (hr : RowL w base (.slice (some ⟨g, 0, none⟩) 8 cp) (rowF f h 8)) {i : Nat} (hi : i < 8) : w.cell? ⟨g, i * 2, none⟩ = some (.int .i64 (f i)) ∧ w.cell? ⟨g, i * 2 + 1, none⟩ = some (.int .i64 (h i)) := by
  obtain ⟨b, cap, e, _, _, _, hcell⟩ := owns_cell hr (by rw [rowF_len]; omega)
  simp only [Value.slice.injEq, Option.some.injEq, Addr.mk.injEq, and_true] at e
  obtain ⟨rfl, _⟩ := e
  have h1 := (hcell _ _ (pcl_get (rowF f h 8) i (by rw [rowF_len]; exact hi)).1).1
  have h2 := (hcell _ _ (pcl_get (rowF f h 8) i (by rw [rowF_len]; exact hi)).2).1
  have := rowF_at f h hi
  unfold fstL sndL at this
  rw [this.1] at h1
  rw [this.2] at h2
  exact ⟨h1, h2⟩

set_option maxRecDepth 20000 in
set_option maxHeartbeats 2000000 in
theorem l02Path_any (v0 v1 : Value) (lo hi : Nat) (p : PoolD) (xs xb : Int) (n : Nat) (w : World) (h1 : PoolAt w lo hi v0 v1 p) (hT : TreeR p xs xb) (hn : n < 64) :
    Calls Try.prog 77 #[.agg #[v0, v1], .agg #[.int .i64 xs, .int .i64 xb], .int .i64 (n : Int)] w fun e w' => e = .returned (.tuple #[.agg #[.int .i64 (pageS p xs xb n), .int .i64 (pageB p xs xb n)], .agg #[.int .i64 (nodeS p xs xb n), .int .i64 (nodeB p xs xb n)]]) ∧ Below w.heap.size w w' := by
  have Hp := hideT h1
  have HT := hideT hT
  obtain ⟨a, c, a', c', rfl, rfl⟩ : ∃ a c a' c', v0 = .slice a p.n c ∧ v1 = .slice a' p.hn c' := by
    obtain ⟨⟨_, a, c, h1, _⟩, ⟨_, a', c', h3, _⟩⟩ := h1
    exact ⟨a, c, a', c', h1, h3⟩
  clear h1 hT
  have hst := start4 w (.slice a p.n c) (.slice a' p.hn c') (.int .i64 xs) (.int .i64 xb) 26 33
  have hq : (n : Int).tdiv 8 = ((n / 8 : Nat) : Int) := (Int.ofNat_tdiv n 8).symm
  have hr : (n : Int).tmod 8 = ((n % 8 : Nat) : Int) := (Int.ofNat_tmod n 8).symm
  have hq8 : ((n / 8 : Nat) : Int) < 8 := by omega
  have hr8 : ((n % 8 : Nat) : Int) < 8 := by omega
  have hn' : (n : Int) < 64 := by omega
  have hm0 : 0 ≤ (n : Int) % 8 := by omega
  have hm8 : (n : Int) % 8 < 8 := by omega
  have hmt : ((n : Int) % 8).toNat = n % 8 := by omega
  go_enter Try.func77, Try.ntmps77
  go_wp2_with fail
  generalize ((((w.alloc (.cells #[.slice a p.n c, .slice a' p.hn c'] 26)).alloc (.cells #[.int .i64 xs, .int .i64 xb] 33)).alloc (.cells #[.int .i64 0, .int .i64 0] 33)).alloc (.cells #[.int .i64 0, .int .i64 0] 33)) = W0 at hst ⊢
  obtain ⟨hB, hX, hR1, hR2, hba, hz⟩ := hst
  refine (l02Kids_any _ _ lo hi p xs xb W0 (Hp.out.below hba) (root_ok HT.out)).mono ?_
  rintro e w1 ⟨g, cp, rfl, hrow, hb1⟩
  obtain ⟨q0, q1⟩ := row_at hrow (show n / 8 < 8 by omega)
  have hal := below_alloc w1 (.cells #[.int .i64 (kidSF p xs xb (n / 8)), .int .i64 (kidBF p xs xb (n / 8))] 33)
  have hC := below_next hb1 hal
  have HBW := hideT (hB.below hC)
  have HR1 := hideT (hR1.below hC)
  have HR2 := hideT (hR2.below hC)
  have HNW := hideT (show Box2 (w1.alloc (.cells #[.int .i64 (kidSF p xs xb (n / 8)), .int .i64 (kidBF p xs xb (n / 8))] 33)) w1.heap.size (.int .i64 (nodeS p xs xb n)) (.int .i64 (nodeB p xs xb n)) from Box2.new w1 _ _ _)
  have hbW := below_next hba hC
  have HKn := hideT (show KidsOk p (nodeS p xs xb n) (nodeB p xs xb n) from node_ok HT.out (by omega))
  have hzW : w.heap.size + 4 ≤ w1.heap.size := by have := hb1.size; omega
  clear hrow hb1 hal hC hB hX hR1 hR2 hba hz
  have hXW : w1.heap.size < (w1.alloc (.cells #[.int .i64 (kidSF p xs xb (n / 8)), .int .i64 (kidBF p xs xb (n / 8))] 33)).heap.size := by rw [World.size_alloc]; omega
  go_wp2_with fail
  generalize w1.alloc (.cells #[.int .i64 (kidSF p xs xb (n / 8)), .int .i64 (kidBF p xs xb (n / 8))] 33) = W at HBW HR1 HR2 HNW hbW hXW ⊢
  clear q0 q1
  generalize w1.heap.size = X at HNW hzW hXW ⊢
  obtain ⟨⟨x0, x1⟩, ⟨x2, x3⟩⟩ := HBW.out
  obtain ⟨⟨y0, y1⟩, ⟨y2, y3⟩⟩ := HNW.out
  refine wp_region_held_drew (S := (fun w' => w'.cell? ⟨w.heap.size, 0, none⟩ = some (.slice a p.n c) ∧ w'.cell? ⟨w.heap.size, 1, none⟩ = some (.slice a' p.hn c') ∧ w'.cell? ⟨X, 0, none⟩ = some (.int .i64 (nodeS p xs xb n)) ∧ w'.cell? ⟨X, 1, none⟩ = some (.int .i64 (nodeB p xs xb n)))) (by kernel_rfl) ?_ (fun hHeld => ?_)
  · (try dsimp only)
    go_keep
  refine wpAnyH_take (i := 0) (oi := ({ dst := some 16, op := Op.load 26 (Operand.tmp 3), type := 26, pos := "l02_tree.go:99", after := #[], guard := none } : Oper)) (v := ?_) rfl (by kernel_rfl) (by kernel_rfl) (by kernel_rfl) (fun _ _ _ h => h) (Or.inl ⟨by rfl, ?_⟩) (by assumption) ?_
  rotate_left
  · (intro w hSw; (try dsimp only at hSw); go_simp; try with_reducible rfl)
  try simp only [Act.put, List.setIfInBounds_toArray, List.set_cons_zero, List.set_cons_succ]
  refine wpAnyH_take (i := 1) (oi := ({ dst := some 17, op := Op.load 33 (Operand.tmp 8), type := 33, pos := "l02_tree.go:99", after := #[], guard := none } : Oper)) (v := ?_) rfl (by kernel_rfl) (by kernel_rfl) (by kernel_rfl) (fun _ _ _ h => h) (Or.inl ⟨by rfl, ?_⟩) (by assumption) ?_
  rotate_left
  · (intro w hSw; (try dsimp only at hSw); go_simp; try with_reducible rfl)
  try simp only [Act.put, List.setIfInBounds_toArray, List.set_cons_zero, List.set_cons_succ]
  refine wpAnyH_take (i := 3) (oi := ({ dst := some 19, op := Op.move (Operand.tmp 2), type := 2, pos := "l02_tree.go:99", after := #[], guard := none } : Oper)) (v := ?_) rfl (by kernel_rfl) (by kernel_rfl) (by kernel_rfl) (fun _ _ _ h => h) (Or.inl ⟨by rfl, ?_⟩) (by assumption) ?_
  rotate_left
  · (intro w hSw; (try dsimp only at hSw); go_simp; try with_reducible rfl)
  try simp only [Act.put, List.setIfInBounds_toArray, List.set_cons_zero, List.set_cons_succ]
  refine wpAnyH_take (i := 4) (oi := ({ dst := some 20, op := Op.binOp BinOp.rem 2 (Operand.tmp 19) (Operand.const (Value.int IntKind.i64 8)) 2, type := 2, pos := "l02_tree.go:99", after := #[{ on := 3, ground := Ground.data }], guard := none } : Oper)) (v := ?_) rfl (by kernel_rfl) (by kernel_rfl) (by kernel_rfl) (fun _ _ _ h => h) (Or.inl ⟨by rfl, ?_⟩) (by assumption) ?_
  rotate_left
  · (intro w hSw; (try dsimp only at hSw); go_simp; try with_reducible rfl)
  try simp only [Act.put, List.setIfInBounds_toArray, List.set_cons_zero, List.set_cons_succ]
  refine wpAnyH_take (i := 7) (oi := ({ dst := some 23, op := Op.load 33 (Operand.tmp 8), type := 33, pos := "l02_tree.go:99", after := #[{ on := 8, ground := Ground.gcOnly Departure.lateStores }], guard := none } : Oper)) (v := ?_) rfl (by kernel_rfl) (by kernel_rfl) (by kernel_rfl) (fun _ _ _ h => h) (Or.inl ⟨by rfl, ?_⟩) (by assumption) ?_
  rotate_left
  · (intro w hSw; (try dsimp only at hSw); go_simp; try with_reducible rfl)
  try simp only [Act.put, List.setIfInBounds_toArray, List.set_cons_zero, List.set_cons_succ]
  refine wpAnyH_ready (rs := [2]) (by kernel_rfl) (by simp) ?_
  refine AllReadyH.cons (o := ({ dst := some 18, op := Op.call { callee := Callee.value (Operand.func 78), args := #[Operand.tmp 16, Operand.tmp 17], argTypes := #[26, 33] }, type := 27, pos := "l02_tree.go:99", after := #[{ on := 0, ground := Ground.data }, { on := 1, ground := Ground.data }], guard := none } : Oper)) rfl (fun K hK => ?_) AllReadyH.nil
  go_simp
  go_at_call 78
  refine (l02Kids_any _ _ lo hi p (nodeS p xs xb n) (nodeB p xs xb n) _ ?_ HKn.out).mono ?_
  · first | exact Hp.out.below hbW | exact Hp.out.below hbW.drew
  rintro e wa ⟨g2, cp2, rfl, hrow2, hba⟩
  have hCa : Below W.heap.size W wa := (by first | exact hba | exact below_undrew hba)
  obtain ⟨⟨k0, _⟩, ⟨k1, _⟩⟩ := HBW.out.below hCa
  obtain ⟨⟨k2, _⟩, ⟨k3, _⟩⟩ := HNW.out.below hCa
  obtain ⟨r0, r1⟩ := row_at hrow2 (show n % 8 < 8 by omega)
  obtain ⟨⟨l0, l1⟩, ⟨l2, l3⟩⟩ : Box2 wa (w.heap.size + 1 + 1) (.int .i64 0) (.int .i64 0) := HR1.out.below hCa
  obtain ⟨⟨m0, m1⟩, ⟨m2, m3⟩⟩ : Box2 wa (w.heap.size + 1 + 1 + 1) (.int .i64 0) (.int .i64 0) := HR2.out.below hCa
  (try go_wp2_with fail)
  refine hK.out _ _ ?_ (fun hHeldN => ?_)
  · (try dsimp only)
    go_keep
  clear hK K hHeld
  have hHeld := hHeldN
  clear hHeldN
  try simp only [Act.put, List.setIfInBounds_toArray, List.set_cons_zero, List.set_cons_succ]
  refine wpAnyH_take (i := 5) (oi := ({ dst := some 21, op := Op.indexAddr 27 (Operand.tmp 18) (Operand.tmp 20), type := 0, pos := "l02_tree.go:99", after := #[{ on := 2, ground := Ground.data }, { on := 4, ground := Ground.data }], guard := none } : Oper)) (v := ?_) rfl (by kernel_rfl) (by kernel_rfl) (by kernel_rfl) (fun _ _ _ h => h) (Or.inl ⟨by rfl, ?_⟩) (by assumption) ?_
  rotate_left
  · (intro w hSw; (try dsimp only at hSw); go_simp; try with_reducible rfl)
  try simp only [Act.put, List.setIfInBounds_toArray, List.set_cons_zero, List.set_cons_succ]
  refine wpAnyH_ready (rs := [6]) (by kernel_rfl) (by simp) ?_
  refine AllReadyH.cons (o := ({ dst := some 22, op := Op.load 33 (Operand.tmp 21), type := 33, pos := "l02_tree.go:99", after := #[{ on := 5, ground := Ground.data }], guard := none } : Oper)) rfl (fun K hK => ?_) AllReadyH.nil
  go_simp
  
  (try go_wp2_with fail)
  refine hK.out _ _ ?_ (fun hHeldN => ?_)
  · (try dsimp only)
    go_keep
  clear hK K hHeld
  have hHeld := hHeldN
  clear hHeldN
  try simp only [Act.put, List.setIfInBounds_toArray, List.set_cons_zero, List.set_cons_succ]
  refine wpAnyH_ready (rs := [8]) (by kernel_rfl) (by simp) ?_
  refine AllReadyH.cons (o := ({ dst := none, op := Op.store 33 (Operand.tmp 6) (Operand.tmp 22), type := 0, pos := "l02_tree.go:99", after := #[{ on := 6, ground := Ground.data }, { on := 2, ground := Ground.chain }, { on := 0, ground := Ground.phase }, { on := 1, ground := Ground.phase }, { on := 2, ground := Ground.phase }, { on := 3, ground := Ground.phase }, { on := 4, ground := Ground.phase }, { on := 5, ground := Ground.phase }, { on := 6, ground := Ground.phase }, { on := 7, ground := Ground.textOnly Departure.lateStores }], guard := none } : Oper)) rfl (fun K hK => ?_) AllReadyH.nil
  go_simp
  
  (try go_wp2_with fail)
  refine hK.out _ _ ?_ (fun hHeldN => ?_)
  · (try dsimp only)
    exact ⟨((HBW.out.below hCa).turned (two_put _ _ _ _) (by omega)).1.1, ((HBW.out.below hCa).turned (two_put _ _ _ _) (by omega)).2.1, ((HNW.out.below hCa).turned (two_put _ _ _ _) (by omega)).1.1, ((HNW.out.below hCa).turned (two_put _ _ _ _) (by omega)).2.1⟩
  clear hK K hHeld
  have hHeld := hHeldN
  clear hHeldN
  try simp only [Act.put, List.setIfInBounds_toArray, List.set_cons_zero, List.set_cons_succ]
  refine wpAnyH_ready (rs := [9]) (by kernel_rfl) (by simp) ?_
  refine AllReadyH.cons (o := ({ dst := none, op := Op.store 33 (Operand.tmp 7) (Operand.tmp 23), type := 0, pos := "l02_tree.go:99", after := #[{ on := 7, ground := Ground.data }, { on := 8, ground := Ground.chain }, { on := 0, ground := Ground.phase }, { on := 1, ground := Ground.phase }, { on := 2, ground := Ground.phase }, { on := 3, ground := Ground.phase }, { on := 4, ground := Ground.phase }, { on := 5, ground := Ground.phase }, { on := 6, ground := Ground.phase }, { on := 7, ground := Ground.phase }, { on := 8, ground := Ground.phase }], guard := none } : Oper)) rfl (fun K hK => ?_) AllReadyH.nil
  go_simp
  
  (try go_wp2_with fail)
  refine hK.out _ _ ?_ (fun hHeldN => ?_)
  · (try dsimp only)
    exact ⟨(((HBW.out.below hCa).turned (two_put _ _ _ _) (by omega)).turned (two_put _ _ _ _) (by omega)).1.1, (((HBW.out.below hCa).turned (two_put _ _ _ _) (by omega)).turned (two_put _ _ _ _) (by omega)).2.1, (((HNW.out.below hCa).turned (two_put _ _ _ _) (by omega)).turned (two_put _ _ _ _) (by omega)).1.1, (((HNW.out.below hCa).turned (two_put _ _ _ _) (by omega)).turned (two_put _ _ _ _) (by omega)).2.1⟩
  clear hK K hHeld
  have hHeld := hHeldN
  clear hHeldN
  try simp only [Act.put, List.setIfInBounds_toArray, List.set_cons_zero, List.set_cons_succ]
  refine wpAnyH_done (by kernel_rfl) ?_ _
  have hB5 : Below w.heap.size w wa := below_next hbW hCa
  go_wp2
  refine bodyPost_ret (v := .tuple #[.agg #[.int .i64 (pageS p xs xb n), .int .i64 (pageB p xs xb n)], .agg #[.int .i64 (nodeS p xs xb n), .int .i64 (nodeB p xs xb n)]]) (by simp [results, Try.results77, go_sem, l0, l2, m0, m2, pageS, pageB]) rfl ⟨rfl, ?_⟩
  exact (((hB5.setCell (by show w.heap.size ≤ w.heap.size + 1 + 1; omega) _).setCell (by show w.heap.size ≤ w.heap.size + 1 + 1; omega) _).setCell (by show w.heap.size ≤ w.heap.size + 1 + 1 + 1; omega) _).setCell (by show w.heap.size ≤ w.heap.size + 1 + 1 + 1; omega) _

end Go.Proofs.Ytikhipekmlhibaa

namespace Go.Proofs.Ytikhipekmlhibaa
open Go Go.RowKit

/-- As Q; by a goto: J. -/
def hop (J : Nat → Act → World → Prop) (Q : Exit → Act → World → Prop) : Exit → Act → World → Prop
  | .goto l, a, w => J l a w
  | e, a, w => Q e a w

/-- From the label on, with at most n jumps more. -/
def JU (P : Program) (c : Code) (Q : Exit → Act → World → Prop) : Nat → Nat → Act → World → Prop
  | 0, _, _, _ => False
  | n + 1, l, a, w => ∃ rest, findLabel c l = some rest ∧ rest.wp P (hop (JU P c Q n) Q) a w

theorem wp_scope_hops {P : Program} {a : Act} {w : World} {Q : Exit → Act → World → Prop} {c : Code} (n : Nat) (first : c.wp P (hop (JU P c Q n) Q) a w) : (Code.scope c).wp P Q a w := by
  intro b k cs
  have key : ∀ n l rest a w, findLabel c l = some rest → rest.wp P (hop (JU P c Q n) Q) a w → ∃ e a' w', Q e a' w' ∧ Arrives P (lone (b.at a (.code rest :: .inScope c :: k)) cs w) b k cs e a' w' := by
    intro n
    induction n with
    | zero =>
      intro l rest a w hf hw
      obtain ⟨e, a₁, w₁, hq, harr⟩ := hw b (.inScope c :: k) cs
      cases e with
      | normal => exact ⟨.normal, a₁, w₁, hq, Steps.trans harr (.one step_inScope)⟩
      | exit id => exact ⟨.exit id, a₁, w₁, hq, fun k' hk => harr k' (by simp [exitTo, hk])⟩
      | goto l' => exact False.elim hq
      | ret => exact ⟨_, a₁, w₁, hq, harr⟩
      | panic ch => exact ⟨_, a₁, w₁, hq, harr⟩
      | outgrown => exact ⟨_, a₁, w₁, hq, harr⟩
    | succ n ih =>
      intro l rest a w hf hw
      obtain ⟨e, a₁, w₁, hq, harr⟩ := hw b (.inScope c :: k) cs
      cases e with
      | normal => exact ⟨.normal, a₁, w₁, hq, Steps.trans harr (.one step_inScope)⟩
      | exit id => exact ⟨.exit id, a₁, w₁, hq, fun k' hk => harr k' (by simp [exitTo, hk])⟩
      | goto l' =>
        obtain ⟨rest', hf', hw'⟩ := hq
        obtain ⟨e₂, a₂, w₂, hq₂, harr₂⟩ := ih l' rest' a₁ w₁ hf' hw'
        have hg : gotoIn l' (.inScope c :: k) = some (.code rest' :: .inScope c :: k) := by simp [gotoIn, hf']
        exact ⟨e₂, a₂, w₂, hq₂, .of_steps (harr _ hg) harr₂⟩
      | ret => exact ⟨_, a₁, w₁, hq, harr⟩
      | panic ch => exact ⟨_, a₁, w₁, hq, harr⟩
      | outgrown => exact ⟨_, a₁, w₁, hq, harr⟩
  obtain ⟨e, a₁, w₁, hq, harr⟩ := first b (.inScope c :: k) cs
  cases e with
  | normal => exact ⟨.normal, a₁, w₁, hq, .head step_scope (Steps.trans harr (.one step_inScope))⟩
  | exit id => exact ⟨.exit id, a₁, w₁, hq, fun k' hk => .head step_scope (harr k' (by simp [exitTo, hk]))⟩
  | goto l' =>
    match n, hq with
    | n + 1, hq =>
      obtain ⟨rest', hf', hw'⟩ := hq
      obtain ⟨e₂, a₂, w₂, hq₂, harr₂⟩ := key n l' rest' a₁ w₁ hf' hw'
      have hg : gotoIn l' (.inScope c :: k) = some (.code rest' :: .inScope c :: k) := by simp [gotoIn, hf']
      exact ⟨e₂, a₂, w₂, hq₂, .of_steps (.head step_scope (harr _ hg)) harr₂⟩
  | ret => exact ⟨_, a₁, w₁, hq, .of_steps (.one step_scope) harr⟩
  | panic ch => exact ⟨_, a₁, w₁, hq, .of_steps (.one step_scope) harr⟩
  | outgrown => exact ⟨_, a₁, w₁, hq, .of_steps (.one step_scope) harr⟩

end Go.Proofs.Ytikhipekmlhibaa

namespace Go.Proofs.Ytikhipekmlhibaa
open Go.RowKit
set_option linter.unusedVariables false

def wayZ : Array Value := #[.int .i64 0, .int .i64 0, .int .i64 0, .int .i64 0, .int .i64 0, .int .i64 0, .int .i64 0, .int .i64 0, .int .i64 0, .int .i64 0, .int .i64 0, .int .i64 0, .int .i64 0, .int .i64 0, .int .i64 0, .int .i64 0, .int .i64 0, .int .i64 0, .int .i64 0, .int .i64 0, .int .i64 0, .int .i64 0, .int .i64 0, .int .i64 0, .int .i64 0, .int .i64 0, .int .i64 0, .int .i64 0, .int .i64 0, .int .i64 0, .int .i64 0, .int .i64 0, .int .i64 0, .int .i64 0, .int .i64 0, .int .i64 0, .int .i64 0, .int .i64 0, .int .i64 0, .int .i64 0, .slice none 0 0]
def wayC (n : Nat) : Array Value := #[.int .i64 ((n : Int) / 8), .int .i64 ((n : Int) % 8), .int .i64 0, .int .i64 0, .int .i64 0, .int .i64 0, .int .i64 0, .int .i64 0, .int .i64 0, .int .i64 0, .int .i64 0, .int .i64 0, .int .i64 0, .int .i64 0, .int .i64 0, .int .i64 0, .int .i64 0, .int .i64 0, .int .i64 0, .int .i64 0, .int .i64 0, .int .i64 0, .int .i64 0, .int .i64 0, .int .i64 0, .int .i64 0, .int .i64 0, .int .i64 0, .int .i64 0, .int .i64 0, .int .i64 0, .int .i64 0, .int .i64 0, .int .i64 0, .int .i64 0, .int .i64 0, .int .i64 0, .int .i64 0, .int .i64 0, .int .i64 0, .slice none 0 0]
theorem infoWay : (Try.prog.info? 98).map (·.size) = some 41 := by kernel_rfl
theorem infoWayC (n : Nat) : (Try.prog.info? 98).map (·.size) = some (wayC n).size := infoWay
theorem wayC_one (n : Nat) : (wayC n).all (·.oneCell') = true := by simp [wayC, Value.oneCell']

/-- The cells of the variable in the block B. -/
def WayAt (w : World) (B : Nat) (f : Nat → Value) : Prop := ∀ i, i < 41 → Cell w B i (f i)
theorem WayAt.lt {w : World} {B : Nat} {f : Nat → Value} (h : WayAt w B f) : B < w.heap.size := (h 0 (by omega)).lt
theorem WayAt.below {w w' : World} {B : Nat} {f : Nat → Value} (h : WayAt w B f) (t : Below w.heap.size w w') : WayAt w' B f := fun i hi => (h i hi).below t
theorem WayAt.turned {S : Nat → Prop} {w w' : World} {B : Nat} {f : Nat → Value} (h : WayAt w B f) (t : Turned S w w') (hs : ¬ S B) : WayAt w' B f := fun i hi => (h i hi).turned t hs
theorem WayAt.congr {w : World} {B : Nat} {f g : Nat → Value} (h : WayAt w B f) (e : ∀ i, i < 41 → f i = g i) : WayAt w B g := fun i hi => e i hi ▸ h i hi
theorem WayAt.put {w : World} {B : Nat} {f : Nat → Value} (h : WayAt w B f) (o : Nat) (v : Value) : WayAt (w.setCell ⟨B, o, none⟩ v) B (fun i => if i = o then v else f i) := fun i hi => by
  show Cell _ B i (if i = o then v else f i)
  by_cases e : i = o
  · subst e
    rw [if_pos rfl]
    exact (h i hi).set v
  · rw [if_neg e]
    exact (h i hi).other v (Or.inr (fun h => e h.symm))
theorem WayAt.there {w : World} {B : Nat} {f : Nat → Value} (h : WayAt w B f) {o n : Nat} (hn : o + n ≤ 41) : w.there B o n := fun j hj => ⟨by rw [(h (o + j) (by omega)).1]; rfl, (h (o + j) (by omega)).2⟩
theorem WayAt.range {w : World} {B : Nat} {f : Nat → Value} (h : WayAt w B f) : w.rangeAt B 0 ((List.range 41).map f) := fun j v hv => by
  have hj : j < 41 := by have := (List.getElem?_eq_some_iff.1 hv).1; simpa using this
  rw [Nat.zero_add, (h j hj).1]
  simpa [hj] using hv
theorem WayAt.puts {w : World} {B : Nat} {f : Nat → Value} (h : WayAt w B f) (o : Nat) (vs : List Value) (hv : o + vs.length ≤ 41) : WayAt (w.setCells B o vs) B (fun i => if o ≤ i ∧ i < o + vs.length then vs.getD (i - o) undef else f i) := fun i hi => by
  refine ⟨?_, ?_⟩
  · show _ = some (if o ≤ i ∧ i < o + vs.length then vs.getD (i - o) undef else f i)
    by_cases e : o ≤ i ∧ i < o + vs.length
    · rw [if_pos e]
      have := World.cell?_setCells_in B vs o w (fun j hj => by rw [(h (o + j) (by omega)).1]; rfl) (i - o) (by omega)
      rw [show o + (i - o) = i by omega] at this
      rw [this, List.getD_eq_getElem?_getD, List.getElem?_eq_getElem (by omega), Option.getD_some]
    · rw [if_neg e, World.cell?_setCells_out B vs o w ⟨B, i, none⟩ (fun _ _ => by show i < o ∨ o + vs.length ≤ i; omega)]
      exact (h i hi).1
  · rw [World.frozen?_setCells]
    exact (h i hi).2

end Go.Proofs.Ytikhipekmlhibaa

namespace Go.Proofs.Ytikhipekmlhibaa
open Go.RowKit
set_option linter.unusedVariables false

def wayF (f : Nat → Value) : Array Value := ((List.range 41).map f).toArray
theorem wayF_size (f : Nat → Value) : (wayF f).size = 41 := by simp [wayF]
theorem infoWayF (f : Nat → Value) : (Try.prog.info? 98).map (·.size) = some (wayF f).size := by rw [wayF_size]; exact infoWay
theorem rowWay : (Try.prog.underlying 98).map (fun d => d.isRow) = some true := by kernel_rfl

/-- The variable as it begins. -/
def way0 (n : Nat) (i : Nat) : Value := if i = 0 then .int .i64 ((n : Int) / 8) else if i = 1 then .int .i64 ((n : Int) % 8) else if i = 40 then .slice none 0 0 else .int .i64 0
theorem way_new (W : World) (n : Nat) : WayAt (W.alloc (.cells (wayC n) 98)) W.heap.size (way0 n) := fun i hi => by
  refine cell_of_block (i := i) (heap_alloc_new W (.cells (wayC n) 98)) ?_
  have : wayC n = wayF (way0 n) := by rfl
  rw [this]
  simp [wayF, hi]

end Go.Proofs.Ytikhipekmlhibaa

namespace Go.Proofs.Ytikhipekmlhibaa
open Go Go.RowKit
set_option linter.unusedVariables false

theorem hop_mono {J J' : Nat → Act → World → Prop} {Q : Exit → Act → World → Prop} (h : ∀ l a w, J l a w → J' l a w) : ∀ {e : Exit} {a : Act} {w : World}, hop J Q e a w → hop J' Q e a w
  | .goto l, a, w, he => h l a w he
  | .normal, _, _, he => he
  | .exit _, _, _, he => he
  | .ret, _, _, he => he
  | .panic _, _, _, he => he
  | .outgrown, _, _, he => he

/-- A scope with labels: R n l holds where the run comes to the label l, with at most n jumps left. -/
theorem wp_scope_inv {P : Program} {a : Act} {w : World} {Q : Exit → Act → World → Prop} {c : Code} (R : Nat → Nat → Act → World → Prop) (n : Nat) (zero : ∀ l a w, ¬ R 0 l a w)
    (step : ∀ n l a w, R (n + 1) l a w → ∃ rest, findLabel c l = some (Code.skip.seq rest) ∧ rest.wp P (hop (R n) Q) a w)
    (first : (∀ l a w rest, findLabel c l = some (Code.skip.seq rest) → R (n + 1) l a w → rest.wp P (hop (R n) Q) a w) → c.wp P (hop (R n) Q) a w) : (Code.scope c).wp P Q a w := by
  have key : ∀ n l a w, R n l a w → JU P c Q n l a w := by
    intro n
    induction n with
    | zero => intro l a w h; exact absurd h (zero l a w)
    | succ n ih =>
      intro l a w h
      obtain ⟨rest, hf, hw⟩ := step n l a w h
      exact ⟨_, hf, Code.wp_mono (fun e a w he => hop_mono ih he) (wp_seq (wp_skip hw))⟩
  refine wp_scope_hops n (Code.wp_mono (fun e a w he => hop_mono (key n) he) (first ?_))
  intro l a w rest hf hR
  obtain ⟨rest', hf', hw⟩ := step n l a w hR
  rw [hf] at hf'
  simp only [Option.some.injEq, Code.seq.injEq, true_and] at hf'
  rw [hf']
  exact hw

/-- What is met on each level: root, node, page. -/
def metS (p : PoolD) (xs xb : Int) (n L : Nat) : Int := if L = 0 then xs else if L = 1 then nodeS p xs xb n else pageS p xs xb n
def metB (p : PoolD) (xs xb : Int) (n L : Nat) : Int := if L = 0 then xb else if L = 1 then nodeB p xs xb n else pageB p xs xb n
/-- The place among the Kids on each level. -/
def plc (n L : Nat) : Nat := if L = 0 then n / 8 else n % 8
/-- The cells of the Kids of what is met. -/
def kidC (p : PoolD) (xs xb : Int) (n L j : Nat) : Int := if Nil (metS p xs xb n L) (metB p xs xb n L) then 0 else kidCell (p.s (metS p xs xb n L).toNat) j
theorem met_next (p : PoolD) (xs xb : Int) (n : Nat) {L : Nat} (h : L < 2) : metS p xs xb n (L + 1) = kidC p xs xb n L (plc n L * 2) ∧ metB p xs xb n (L + 1) = kidC p xs xb n L (plc n L * 2 + 1) := by
  rcases L with _ | _ | L
  · exact ⟨rfl, rfl⟩
  · exact ⟨rfl, rfl⟩
  · omega
theorem plc_lt {n L : Nat} (h : n < 64) : plc n L < 8 := by unfold plc; split <;> omega
theorem met_nil {p : PoolD} {xs xb : Int} {n L : Nat} (h : Nil (metS p xs xb n L) (metB p xs xb n L)) (hL : L < 2) : Nil (metS p xs xb n (L + 1)) (metB p xs xb n (L + 1)) := by
  rw [(met_next p xs xb n hL).1, (met_next p xs xb n hL).2]
  unfold kidC
  rw [if_pos h, if_pos h]
  exact ⟨rfl, rfl⟩
theorem met_ok {p : PoolD} {xs xb : Int} {n L : Nat} (h : TreeR p xs xb) (hn : n < 64) (hL : L < 2) : KidsOk p (metS p xs xb n L) (metB p xs xb n L) := by
  rcases L with _ | _ | L
  · exact root_ok h
  · exact node_ok h (by omega)
  · omega

/-- The variable with the Kids of K levels and what is met on M of them. -/
def wayV (p : PoolD) (xs xb : Int) (n K M : Nat) (o : Value) (i : Nat) : Value :=
  if i < 2 then .int .i64 (plc n i : Nat)
  else if i < 34 then .int .i64 (if (i - 2) / 16 < K then kidC p xs xb n ((i - 2) / 16) ((i - 2) % 16) else 0)
  else if i < 40 then .int .i64 (if (i - 34) / 2 < M then (if (i - 34) % 2 = 0 then metS p xs xb n ((i - 34) / 2) else metB p xs xb n ((i - 34) / 2)) else 0)
  else o
theorem way_zero (p : PoolD) (xs xb : Int) (n : Nat) {i : Nat} (hi : i < 41) : way0 n i = wayV p xs xb n 0 0 (.slice none 0 0) i := by
  unfold way0 wayV
  by_cases h0 : i = 0
  · subst h0; rfl
  by_cases h1 : i = 1
  · subst h1; rfl
  rw [if_neg h0, if_neg h1, if_neg (show ¬ i < 2 by omega)]
  by_cases h2 : i = 40
  · subst h2; rfl
  rw [if_neg h2]
  by_cases h3 : i < 34
  · rw [if_pos h3, if_neg (Nat.not_lt_zero _)]
  · rw [if_neg h3, if_pos (by omega), if_neg (Nat.not_lt_zero _)]
theorem way_met {p : PoolD} {xs xb : Int} {n K L : Nat} {o : Value} {w : World} {B : Nat} (hL : L < 3) (h : WayAt w B (wayV p xs xb n K L o)) :
    WayAt ((w.setCell ⟨B, 34 + L * 2, none⟩ (.int .i64 (metS p xs xb n L))).setCell ⟨B, 34 + L * 2 + 1, none⟩ (.int .i64 (metB p xs xb n L))) B (wayV p xs xb n K (L + 1) o) := by
  refine ((h.put _ _).put _ _).congr fun i hi => ?_
  show (if i = 34 + L * 2 + 1 then _ else if i = 34 + L * 2 then _ else _) = _
  by_cases h1 : i = 34 + L * 2 + 1
  · subst h1
    rw [if_pos rfl]
    unfold wayV
    rw [if_neg (by omega), if_neg (by omega), if_pos (by omega), show (34 + L * 2 + 1 - 34) / 2 = L by omega, show (34 + L * 2 + 1 - 34) % 2 = 1 by omega, if_pos (by omega), if_neg (by omega)]
  rw [if_neg h1]
  by_cases h2 : i = 34 + L * 2
  · subst h2
    rw [if_pos rfl]
    unfold wayV
    rw [if_neg (by omega), if_neg (by omega), if_pos (by omega), show (34 + L * 2 - 34) / 2 = L by omega, show (34 + L * 2 - 34) % 2 = 0 by omega, if_pos (by omega), if_pos rfl]
  rw [if_neg h2]
  unfold wayV
  by_cases h3 : i < 2
  · rw [if_pos h3, if_pos h3]
  by_cases h4 : i < 34
  · rw [if_neg h3, if_neg h3, if_pos h4, if_pos h4]
  rw [if_neg h3, if_neg h3, if_neg h4, if_neg h4]
  by_cases h5 : i < 40
  · rw [if_pos h5, if_pos h5]
    by_cases h6 : (i - 34) / 2 < L
    · rw [if_pos h6, if_pos (show (i - 34) / 2 < L + 1 by omega)]
    · rw [if_neg h6, if_neg (by omega)]
  · rw [if_neg h5, if_neg h5]
theorem way_kids {p : PoolD} {xs xb : Int} {n L M : Nat} {o : Value} {w : World} {B : Nat} (hL : L < 2) (h : WayAt w B (wayV p xs xb n L M o)) (hN : ¬ Nil (metS p xs xb n L) (metB p xs xb n L)) :
    WayAt (w.setCells B (2 + L * 16) (kidsA (p.s (metS p xs xb n L).toNat)).toList) B (wayV p xs xb n (L + 1) M o) := by
  have hlen : (kidsA (p.s (metS p xs xb n L).toNat)).toList.length = 16 := by simp [kidsA, arr16_size]
  refine (h.puts (2 + L * 16) _ (by omega)).congr fun i hi => ?_
  show (if 2 + L * 16 ≤ i ∧ i < 2 + L * 16 + _ then _ else _) = _
  rw [hlen]
  by_cases h1 : 2 + L * 16 ≤ i ∧ i < 2 + L * 16 + 16
  · rw [if_pos h1]
    have hj : i - (2 + L * 16) < 16 := by omega
    have e : (kidsA (p.s (metS p xs xb n L).toNat)).toList.getD (i - (2 + L * 16)) undef = .int .i64 (kidCell (p.s (metS p xs xb n L).toNat) (i - (2 + L * 16))) := by
      rw [List.getD_eq_getElem?_getD, Array.getElem?_toList]
      have := arr16_at (kidCell (p.s (metS p xs xb n L).toNat)) hj
      rw [show kidsA (p.s (metS p xs xb n L).toNat) = arr16 (kidCell (p.s (metS p xs xb n L).toNat)) from rfl, this]
      rfl
    rw [e]
    unfold wayV kidC
    rw [if_neg (by omega), if_pos (by omega), show (i - 2) / 16 = L by omega, if_pos (by omega), if_neg hN, show (i - 2) % 16 = i - (2 + L * 16) by omega]
  · rw [if_neg h1]
    unfold wayV
    by_cases h3 : i < 2
    · rw [if_pos h3, if_pos h3]
    rw [if_neg h3, if_neg h3]
    by_cases h4 : i < 34
    · rw [if_pos h4, if_pos h4]
      by_cases h6 : (i - 2) / 16 < L
      · rw [if_pos h6, if_pos (by omega)]
      · rw [if_neg h6, if_neg (by omega)]
    · rw [if_neg h4, if_neg h4]
/-- Below what is none there is nothing. -/
theorem way_end {p : PoolD} {xs xb : Int} {n L : Nat} {o : Value} {w : World} {B : Nat} (hL : L < 3) (h : WayAt w B (wayV p xs xb n L (L + 1) o)) (hN : L < 2 → Nil (metS p xs xb n L) (metB p xs xb n L)) : WayAt w B (wayV p xs xb n 2 3 o) := by
  refine h.congr fun i hi => ?_
  have hz : ∀ K, L ≤ K → K < 3 → L < 2 → Nil (metS p xs xb n K) (metB p xs xb n K) := fun K h1 h2 h3 => by
    have n0 := hN h3
    by_cases e : K = L
    · subst e; exact n0
    have n1 := met_nil n0 h3
    by_cases e1 : K = L + 1
    · subst e1; exact n1
    have n2 := met_nil n1 (by omega)
    rw [show K = L + 1 + 1 by omega]
    exact n2
  unfold wayV
  by_cases h3 : i < 2
  · rw [if_pos h3, if_pos h3]
  rw [if_neg h3, if_neg h3]
  by_cases h4 : i < 34
  · rw [if_pos h4, if_pos h4]
    by_cases h6 : (i - 2) / 16 < L
    · rw [if_pos h6, if_pos (by omega)]
    · rw [if_neg h6, if_pos (by omega)]
      unfold kidC
      rw [if_pos (hz _ (by omega) (by omega) (by omega))]
  · rw [if_neg h4, if_neg h4]
    by_cases h5 : i < 40
    · rw [if_pos h5, if_pos h5]
      by_cases h6 : (i - 34) / 2 < L + 1
      · rw [if_pos h6, if_pos (show (i - 34) / 2 < 3 by omega)]
      · rw [if_neg h6, if_pos (show (i - 34) / 2 < 3 by omega)]
        have := hz ((i - 34) / 2) (by omega) (by omega) (by omega)
        split
        · rw [this.1]
        · rw [this.2]
    · rw [if_neg h5, if_neg h5]
theorem way_old {p : PoolD} {xs xb : Int} {n K M : Nat} {o : Value} {w : World} {B : Nat} (o' : Value) (h : WayAt w B (wayV p xs xb n K M o)) : WayAt (w.setCell ⟨B, 40, none⟩ o') B (wayV p xs xb n K M o') := by
  refine (h.put _ _).congr fun i hi => ?_
  show (if i = 40 then _ else _) = _
  by_cases e : i = 40
  · subst e; rfl
  · rw [if_neg e]
    unfold wayV
    by_cases h3 : i < 2
    · rw [if_pos h3, if_pos h3]
    rw [if_neg h3, if_neg h3]
    by_cases h4 : i < 34
    · rw [if_pos h4, if_pos h4]
    · rw [if_neg h4, if_neg h4, if_pos (show i < 40 by omega), if_pos (show i < 40 by omega)]

/-- What was met, from the page up to the root. -/
def oldW (p : PoolD) (xs xb : Int) (n k : Nat) : List (Int × Int) := kidsUp (fun i => metS p xs xb n (2 - i)) (fun i => metB p xs xb n (2 - i)) k

end Go.Proofs.Ytikhipekmlhibaa
