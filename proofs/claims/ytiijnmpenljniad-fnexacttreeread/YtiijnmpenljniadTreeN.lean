/- What spec.l02Path answers in a right tree. -/
import Derived.Test.YtiijnmpenljniadTreeM
namespace Go.Proofs.Ytiijnmpenljniad
open Go.RowKit
set_option linter.unusedVariables false

/-- A pointer that is none, or that of a node, as the Kids are read through it. -/
def KidsOk (p : PoolD) (xs xb : Int) : Prop := Nil xs xb ∨ (Points p xs xb ∧ (p.s xs.toNat).kn = 8)
theorem root_ok {p : PoolD} {xs xb : Int} (h : TreeR p xs xb) : KidsOk p xs xb := by
  rcases h.2 with h2 | h2
  · exact Or.inl h2
  · right
    refine ⟨h2.1.1, ?_⟩
    rcases points_kn h.1 h2.1.1 with h3 | h3
    · have := h2.1.2.1; omega
    · exact h3
theorem node_ok {p : PoolD} {xs xb : Int} (h : TreeR p xs xb) {j : Nat} (hj : j < 8) : KidsOk p (kidSF p xs xb j) (kidBF p xs xb j) := by
  by_cases hz : Nil xs xb
  · left; unfold kidSF kidBF; rw [if_pos hz, if_pos hz]; exact ⟨rfl, rfl⟩
  · unfold kidSF kidBF
    rw [if_neg hz, if_neg hz]
    rcases (h.2.resolve_left hz).2.1.1 j hj with h2 | h2
    · exact Or.inl h2
    · right
      refine ⟨h2.1.1, ?_⟩
      rcases points_kn h.1 h2.1.1 with h3 | h3
      · have := h2.1.2.1; omega
      · exact h3
/-- The node, and the page, of a number. -/
def nodeS (p : PoolD) (xs xb : Int) (n : Nat) : Int := kidSF p xs xb (n / 8)
def nodeB (p : PoolD) (xs xb : Int) (n : Nat) : Int := kidBF p xs xb (n / 8)
def pageS (p : PoolD) (xs xb : Int) (n : Nat) : Int := kidSF p (nodeS p xs xb n) (nodeB p xs xb n) (n % 8)
def pageB (p : PoolD) (xs xb : Int) (n : Nat) : Int := kidBF p (nodeS p xs xb n) (nodeB p xs xb n) (n % 8)
theorem page_ok {p : PoolD} {xs xb : Int} (h : TreeR p xs xb) {n : Nat} (hn : n < 64) : Nil (pageS p xs xb n) (pageB p xs xb n) ∨ PageAt p (pageS p xs xb n) (pageB p xs xb n) := by
  by_cases hz : Nil xs xb
  · left
    have e : Nil (nodeS p xs xb n) (nodeB p xs xb n) := by unfold nodeS nodeB kidSF kidBF; rw [if_pos hz, if_pos hz]; exact ⟨rfl, rfl⟩
    unfold pageS pageB kidSF kidBF
    rw [if_pos e, if_pos e]
    exact ⟨rfl, rfl⟩
  · have e1 : nodeS p xs xb n = kidS (p.s xs.toNat) (n / 8) := if_neg hz
    have e2 : nodeB p xs xb n = kidB (p.s xs.toNat) (n / 8) := if_neg hz
    by_cases hn2 : Nil (nodeS p xs xb n) (nodeB p xs xb n)
    · left
      unfold pageS pageB kidSF kidBF
      rw [if_pos hn2, if_pos hn2]
      exact ⟨rfl, rfl⟩
    · have e3 : pageS p xs xb n = kidS (p.s (nodeS p xs xb n).toNat) (n % 8) := if_neg hn2
      have e4 : pageB p xs xb n = kidB (p.s (nodeS p xs xb n).toNat) (n % 8) := if_neg hn2
      rw [e3, e4]
      rcases (h.2.resolve_left hz).2.1.1 (n / 8) (by omega) with h2 | h2
      · rw [← e1, ← e2] at h2; exact absurd h2 hn2
      · have := h2.2.1 (n % 8) (by omega)
        rw [← e1] at this
        exact this

/-- The four variables with which the call begins. -/
theorem start4 (w : World) (a0 a1 x0 x1 : Value) (t1 t2 : TypeId) :
    Box2 ((((w.alloc (.cells #[a0, a1] t1)).alloc (.cells #[x0, x1] t2)).alloc (.cells #[.int .i64 0, .int .i64 0] t2)).alloc (.cells #[.int .i64 0, .int .i64 0] t2)) w.heap.size a0 a1 ∧
    Box2 ((((w.alloc (.cells #[a0, a1] t1)).alloc (.cells #[x0, x1] t2)).alloc (.cells #[.int .i64 0, .int .i64 0] t2)).alloc (.cells #[.int .i64 0, .int .i64 0] t2)) (w.heap.size + 1) x0 x1 ∧
    Box2 ((((w.alloc (.cells #[a0, a1] t1)).alloc (.cells #[x0, x1] t2)).alloc (.cells #[.int .i64 0, .int .i64 0] t2)).alloc (.cells #[.int .i64 0, .int .i64 0] t2)) (w.heap.size + 2) (.int .i64 0) (.int .i64 0) ∧
    Box2 ((((w.alloc (.cells #[a0, a1] t1)).alloc (.cells #[x0, x1] t2)).alloc (.cells #[.int .i64 0, .int .i64 0] t2)).alloc (.cells #[.int .i64 0, .int .i64 0] t2)) (w.heap.size + 2 + 1) (.int .i64 0) (.int .i64 0) ∧
    Below w.heap.size w ((((w.alloc (.cells #[a0, a1] t1)).alloc (.cells #[x0, x1] t2)).alloc (.cells #[.int .i64 0, .int .i64 0] t2)).alloc (.cells #[.int .i64 0, .int .i64 0] t2)) ∧
    ((((w.alloc (.cells #[a0, a1] t1)).alloc (.cells #[x0, x1] t2)).alloc (.cells #[.int .i64 0, .int .i64 0] t2)).alloc (.cells #[.int .i64 0, .int .i64 0] t2)).heap.size = w.heap.size + 4 := by
  obtain ⟨h1, h2, h3, h4⟩ := start22 w a0 a1 x0 x1 t1 t2
  generalize (w.alloc (.cells #[a0, a1] t1)).alloc (.cells #[x0, x1] t2) = W at h1 h2 h3 h4 ⊢
  have b1 := below_alloc W (.cells #[.int .i64 0, .int .i64 0] t2)
  have b2 := below_alloc (W.alloc (.cells #[.int .i64 0, .int .i64 0] t2)) (.cells #[.int .i64 0, .int .i64 0] t2)
  have n1 := (Box2.new W (.int .i64 0) (.int .i64 0) t2).below b2
  have n2 := Box2.new (W.alloc (.cells #[.int .i64 0, .int .i64 0] t2)) (.int .i64 0) (.int .i64 0) t2
  rw [h4] at n1
  rw [World.size_alloc, h4] at n2
  exact ⟨(h1.below b1).below b2, (h2.below b1).below b2, n1, n2, below_next (below_next h3 b1) b2, by rw [World.size_alloc, World.size_alloc, h4]⟩
theorem two_put (w : World) (b : Nat) (u v : Value) : Turned (fun k => k = b) w ((w.setCell ⟨b, 0, none⟩ u).setCell ⟨b, 1, none⟩ v) := ((Turned.refl (fun k => k = b) w).setCell (p := ⟨b, 0, none⟩) rfl u).setCell (p := ⟨b, 1, none⟩) rfl v
/-- The i-th pointer of a row. -/
theorem row_at {w : World} {base g cp : Nat} {f h : Nat → Int} (hr : RowL w base (.slice (some ⟨g, 0, none⟩) 8 cp) (rowF f h 8)) {i : Nat} (hi : i < 8) : w.cell? ⟨g, i * 2, none⟩ = some (.int .i64 (f i)) ∧ w.cell? ⟨g, i * 2 + 1, none⟩ = some (.int .i64 (h i)) := by
  obtain ⟨b, cap, e, _, _, _, hcell⟩ := owns_cell hr (by rw [rowF_len]; omega)
  simp only [Value.slice.injEq, Option.some.injEq, Addr.mk.injEq, and_true] at e
  obtain ⟨rfl, _⟩ := e
  have h1 := (hcell _ _ (pcl_get (rowF f h 8) i (by rw [rowF_len]; exact hi)).1).1
  have h2 := (hcell _ _ (pcl_get (rowF f h 8) i (by rw [rowF_len]; exact hi)).2).1
  have := rowF_at f h hi
  unfold fstL sndL at this
  rw [this.1] at h1
  rw [this.2] at h2
  exact ⟨h1, h2⟩

set_option maxRecDepth 20000 in
set_option maxHeartbeats 2000000 in
theorem l02Path_any (v0 v1 : Value) (lo hi : Nat) (p : PoolD) (xs xb : Int) (n : Nat) (w : World) (h1 : PoolAt w lo hi v0 v1 p) (hT : TreeR p xs xb) (hn : n < 64) :
    Calls Try.prog 71 #[.agg #[v0, v1], .agg #[.int .i64 xs, .int .i64 xb], .int .i64 (n : Int)] w fun e w' => e = .returned (.tuple #[.agg #[.int .i64 (pageS p xs xb n), .int .i64 (pageB p xs xb n)], .agg #[.int .i64 (nodeS p xs xb n), .int .i64 (nodeB p xs xb n)]]) ∧ Below w.heap.size w w' := by
  have Hp := hideT h1
  have HT := hideT hT
  obtain ⟨a, c, a', c', rfl, rfl⟩ : ∃ a c a' c', v0 = .slice a p.n c ∧ v1 = .slice a' p.hn c' := by
    obtain ⟨⟨_, a, c, h1, _⟩, ⟨_, a', c', h3, _⟩⟩ := h1
    exact ⟨a, c, a', c', h1, h3⟩
  clear h1 hT
  have hst := start4 w (.slice a p.n c) (.slice a' p.hn c') (.int .i64 xs) (.int .i64 xb) 33 35
  have hq : (n : Int).tdiv 8 = ((n / 8 : Nat) : Int) := (Int.ofNat_tdiv n 8).symm
  have hr : (n : Int).tmod 8 = ((n % 8 : Nat) : Int) := (Int.ofNat_tmod n 8).symm
  have hq8 : ((n / 8 : Nat) : Int) < 8 := by omega
  have hr8 : ((n % 8 : Nat) : Int) < 8 := by omega
  have hn' : (n : Int) < 64 := by omega
  have hm0 : 0 ≤ (n : Int) % 8 := by omega
  have hm8 : (n : Int) % 8 < 8 := by omega
  have hmt : ((n : Int) % 8).toNat = n % 8 := by omega
  go_enter Try.func71, Try.ntmps71
  go_wp2_with fail
  generalize ((((w.alloc (.cells #[.slice a p.n c, .slice a' p.hn c'] 33)).alloc (.cells #[.int .i64 xs, .int .i64 xb] 35)).alloc (.cells #[.int .i64 0, .int .i64 0] 35)).alloc (.cells #[.int .i64 0, .int .i64 0] 35)) = W0 at hst ⊢
  obtain ⟨hB, hX, hR1, hR2, hba, hz⟩ := hst
  refine (l02Kids_any _ _ lo hi p xs xb W0 (Hp.out.below hba) (root_ok HT.out)).mono ?_
  rintro e w1 ⟨g, cp, rfl, hrow, hb1⟩
  obtain ⟨q0, q1⟩ := row_at hrow (show n / 8 < 8 by omega)
  have hal := below_alloc w1 (.cells #[.int .i64 (kidSF p xs xb (n / 8)), .int .i64 (kidBF p xs xb (n / 8))] 35)
  have hC := below_next hb1 hal
  have HBW := hideT (hB.below hC)
  have HR1 := hideT (hR1.below hC)
  have HR2 := hideT (hR2.below hC)
  have HNW := hideT (show Box2 (w1.alloc (.cells #[.int .i64 (kidSF p xs xb (n / 8)), .int .i64 (kidBF p xs xb (n / 8))] 35)) w1.heap.size (.int .i64 (nodeS p xs xb n)) (.int .i64 (nodeB p xs xb n)) from Box2.new w1 _ _ _)
  have hbW := below_next hba hC
  have HKn := hideT (show KidsOk p (nodeS p xs xb n) (nodeB p xs xb n) from node_ok HT.out (by omega))
  have hzW : w.heap.size + 4 ≤ w1.heap.size := by have := hb1.size; omega
  clear hrow hb1 hal hC hB hX hR1 hR2 hba hz
  have hXW : w1.heap.size < (w1.alloc (.cells #[.int .i64 (kidSF p xs xb (n / 8)), .int .i64 (kidBF p xs xb (n / 8))] 35)).heap.size := by rw [World.size_alloc]; omega
  go_wp2_with fail
  generalize w1.alloc (.cells #[.int .i64 (kidSF p xs xb (n / 8)), .int .i64 (kidBF p xs xb (n / 8))] 35) = W at HBW HR1 HR2 HNW hbW hXW ⊢
  clear q0 q1
  generalize w1.heap.size = X at HNW hzW hXW ⊢
  obtain ⟨⟨x0, x1⟩, ⟨x2, x3⟩⟩ := HBW.out
  obtain ⟨⟨y0, y1⟩, ⟨y2, y3⟩⟩ := HNW.out
  refine wp_region_held_drew (S := (fun w' => w'.cell? ⟨w.heap.size, 0, none⟩ = some (.slice a p.n c) ∧ w'.cell? ⟨w.heap.size, 1, none⟩ = some (.slice a' p.hn c') ∧ w'.cell? ⟨X, 0, none⟩ = some (.int .i64 (nodeS p xs xb n)) ∧ w'.cell? ⟨X, 1, none⟩ = some (.int .i64 (nodeB p xs xb n)))) (by kernel_rfl) ?_ (fun hHeld => ?_)
  · (try dsimp only)
    go_keep
  refine wpAnyH_take (i := 0) (oi := ({ dst := some 16, op := Op.load 33 (Operand.tmp 3), type := 33, pos := "l02_tree.go:99", after := #[], guard := none } : Oper)) (v := ?_) rfl (by kernel_rfl) (by kernel_rfl) (by kernel_rfl) (fun _ _ _ h => h) (Or.inl ⟨by rfl, ?_⟩) (by assumption) ?_
  rotate_left
  · (intro w hSw; (try dsimp only at hSw); go_simp; try with_reducible rfl)
  try simp only [Act.put, List.setIfInBounds_toArray, List.set_cons_zero, List.set_cons_succ]
  refine wpAnyH_take (i := 1) (oi := ({ dst := some 17, op := Op.load 35 (Operand.tmp 8), type := 35, pos := "l02_tree.go:99", after := #[], guard := none } : Oper)) (v := ?_) rfl (by kernel_rfl) (by kernel_rfl) (by kernel_rfl) (fun _ _ _ h => h) (Or.inl ⟨by rfl, ?_⟩) (by assumption) ?_
  rotate_left
  · (intro w hSw; (try dsimp only at hSw); go_simp; try with_reducible rfl)
  try simp only [Act.put, List.setIfInBounds_toArray, List.set_cons_zero, List.set_cons_succ]
  refine wpAnyH_take (i := 3) (oi := ({ dst := some 19, op := Op.move (Operand.tmp 2), type := 2, pos := "l02_tree.go:99", after := #[], guard := none } : Oper)) (v := ?_) rfl (by kernel_rfl) (by kernel_rfl) (by kernel_rfl) (fun _ _ _ h => h) (Or.inl ⟨by rfl, ?_⟩) (by assumption) ?_
  rotate_left
  · (intro w hSw; (try dsimp only at hSw); go_simp; try with_reducible rfl)
  try simp only [Act.put, List.setIfInBounds_toArray, List.set_cons_zero, List.set_cons_succ]
  refine wpAnyH_take (i := 4) (oi := ({ dst := some 20, op := Op.binOp BinOp.rem 2 (Operand.tmp 19) (Operand.const (Value.int IntKind.i64 8)) 2, type := 2, pos := "l02_tree.go:99", after := #[{ on := 3, ground := Ground.data }], guard := none } : Oper)) (v := ?_) rfl (by kernel_rfl) (by kernel_rfl) (by kernel_rfl) (fun _ _ _ h => h) (Or.inl ⟨by rfl, ?_⟩) (by assumption) ?_
  rotate_left
  · (intro w hSw; (try dsimp only at hSw); go_simp; try with_reducible rfl)
  try simp only [Act.put, List.setIfInBounds_toArray, List.set_cons_zero, List.set_cons_succ]
  refine wpAnyH_take (i := 7) (oi := ({ dst := some 23, op := Op.load 35 (Operand.tmp 8), type := 35, pos := "l02_tree.go:99", after := #[{ on := 8, ground := Ground.gcOnly Departure.lateStores }], guard := none } : Oper)) (v := ?_) rfl (by kernel_rfl) (by kernel_rfl) (by kernel_rfl) (fun _ _ _ h => h) (Or.inl ⟨by rfl, ?_⟩) (by assumption) ?_
  rotate_left
  · (intro w hSw; (try dsimp only at hSw); go_simp; try with_reducible rfl)
  try simp only [Act.put, List.setIfInBounds_toArray, List.set_cons_zero, List.set_cons_succ]
  refine wpAnyH_ready (rs := [2]) (by kernel_rfl) (by simp) ?_
  refine AllReadyH.cons (o := ({ dst := some 18, op := Op.call { callee := Callee.value (Operand.func 95), args := #[Operand.tmp 16, Operand.tmp 17], argTypes := #[33, 35] }, type := 40, pos := "l02_tree.go:99", after := #[{ on := 0, ground := Ground.data }, { on := 1, ground := Ground.data }], guard := none } : Oper)) rfl (fun K hK => ?_) AllReadyH.nil
  go_simp
  go_at_call 95
  refine (l02Kids_any _ _ lo hi p (nodeS p xs xb n) (nodeB p xs xb n) _ ?_ HKn.out).mono ?_
  · first | exact Hp.out.below hbW | exact Hp.out.below hbW.drew
  rintro e wa ⟨g2, cp2, rfl, hrow2, hba⟩
  have hCa : Below W.heap.size W wa := (by first | exact hba | exact below_undrew hba)
  obtain ⟨⟨k0, _⟩, ⟨k1, _⟩⟩ := HBW.out.below hCa
  obtain ⟨⟨k2, _⟩, ⟨k3, _⟩⟩ := HNW.out.below hCa
  obtain ⟨r0, r1⟩ := row_at hrow2 (show n % 8 < 8 by omega)
  obtain ⟨⟨l0, l1⟩, ⟨l2, l3⟩⟩ : Box2 wa (w.heap.size + 1 + 1) (.int .i64 0) (.int .i64 0) := HR1.out.below hCa
  obtain ⟨⟨m0, m1⟩, ⟨m2, m3⟩⟩ : Box2 wa (w.heap.size + 1 + 1 + 1) (.int .i64 0) (.int .i64 0) := HR2.out.below hCa
  (try go_wp2_with fail)
  refine hK.out _ _ ?_ (fun hHeldN => ?_)
  · (try dsimp only)
    go_keep
  clear hK K hHeld
  have hHeld := hHeldN
  clear hHeldN
  try simp only [Act.put, List.setIfInBounds_toArray, List.set_cons_zero, List.set_cons_succ]
  refine wpAnyH_take (i := 5) (oi := ({ dst := some 21, op := Op.indexAddr 40 (Operand.tmp 18) (Operand.tmp 20), type := 0, pos := "l02_tree.go:99", after := #[{ on := 2, ground := Ground.data }, { on := 4, ground := Ground.data }], guard := none } : Oper)) (v := ?_) rfl (by kernel_rfl) (by kernel_rfl) (by kernel_rfl) (fun _ _ _ h => h) (Or.inl ⟨by rfl, ?_⟩) (by assumption) ?_
  rotate_left
  · (intro w hSw; (try dsimp only at hSw); go_simp; try with_reducible rfl)
  try simp only [Act.put, List.setIfInBounds_toArray, List.set_cons_zero, List.set_cons_succ]
  refine wpAnyH_ready (rs := [6]) (by kernel_rfl) (by simp) ?_
  refine AllReadyH.cons (o := ({ dst := some 22, op := Op.load 35 (Operand.tmp 21), type := 35, pos := "l02_tree.go:99", after := #[{ on := 5, ground := Ground.data }], guard := none } : Oper)) rfl (fun K hK => ?_) AllReadyH.nil
  go_simp
  
  (try go_wp2_with fail)
  refine hK.out _ _ ?_ (fun hHeldN => ?_)
  · (try dsimp only)
    go_keep
  clear hK K hHeld
  have hHeld := hHeldN
  clear hHeldN
  try simp only [Act.put, List.setIfInBounds_toArray, List.set_cons_zero, List.set_cons_succ]
  refine wpAnyH_ready (rs := [8]) (by kernel_rfl) (by simp) ?_
  refine AllReadyH.cons (o := ({ dst := none, op := Op.store 35 (Operand.tmp 6) (Operand.tmp 22), type := 0, pos := "l02_tree.go:99", after := #[{ on := 6, ground := Ground.data }, { on := 2, ground := Ground.chain }, { on := 0, ground := Ground.phase }, { on := 1, ground := Ground.phase }, { on := 2, ground := Ground.phase }, { on := 3, ground := Ground.phase }, { on := 4, ground := Ground.phase }, { on := 5, ground := Ground.phase }, { on := 6, ground := Ground.phase }, { on := 7, ground := Ground.textOnly Departure.lateStores }], guard := none } : Oper)) rfl (fun K hK => ?_) AllReadyH.nil
  go_simp
  
  (try go_wp2_with fail)
  refine hK.out _ _ ?_ (fun hHeldN => ?_)
  · (try dsimp only)
    exact ⟨((HBW.out.below hCa).turned (two_put _ _ _ _) (by omega)).1.1, ((HBW.out.below hCa).turned (two_put _ _ _ _) (by omega)).2.1, ((HNW.out.below hCa).turned (two_put _ _ _ _) (by omega)).1.1, ((HNW.out.below hCa).turned (two_put _ _ _ _) (by omega)).2.1⟩
  clear hK K hHeld
  have hHeld := hHeldN
  clear hHeldN
  try simp only [Act.put, List.setIfInBounds_toArray, List.set_cons_zero, List.set_cons_succ]
  refine wpAnyH_ready (rs := [9]) (by kernel_rfl) (by simp) ?_
  refine AllReadyH.cons (o := ({ dst := none, op := Op.store 35 (Operand.tmp 7) (Operand.tmp 23), type := 0, pos := "l02_tree.go:99", after := #[{ on := 7, ground := Ground.data }, { on := 8, ground := Ground.chain }, { on := 0, ground := Ground.phase }, { on := 1, ground := Ground.phase }, { on := 2, ground := Ground.phase }, { on := 3, ground := Ground.phase }, { on := 4, ground := Ground.phase }, { on := 5, ground := Ground.phase }, { on := 6, ground := Ground.phase }, { on := 7, ground := Ground.phase }, { on := 8, ground := Ground.phase }], guard := none } : Oper)) rfl (fun K hK => ?_) AllReadyH.nil
  go_simp
  
  (try go_wp2_with fail)
  refine hK.out _ _ ?_ (fun hHeldN => ?_)
  · (try dsimp only)
    exact ⟨(((HBW.out.below hCa).turned (two_put _ _ _ _) (by omega)).turned (two_put _ _ _ _) (by omega)).1.1, (((HBW.out.below hCa).turned (two_put _ _ _ _) (by omega)).turned (two_put _ _ _ _) (by omega)).2.1, (((HNW.out.below hCa).turned (two_put _ _ _ _) (by omega)).turned (two_put _ _ _ _) (by omega)).1.1, (((HNW.out.below hCa).turned (two_put _ _ _ _) (by omega)).turned (two_put _ _ _ _) (by omega)).2.1⟩
  clear hK K hHeld
  have hHeld := hHeldN
  clear hHeldN
  try simp only [Act.put, List.setIfInBounds_toArray, List.set_cons_zero, List.set_cons_succ]
  refine wpAnyH_done (by kernel_rfl) ?_ _
  have hB5 : Below w.heap.size w wa := below_next hbW hCa
  go_wp2
  refine bodyPost_ret (v := .tuple #[.agg #[.int .i64 (pageS p xs xb n), .int .i64 (pageB p xs xb n)], .agg #[.int .i64 (nodeS p xs xb n), .int .i64 (nodeB p xs xb n)]]) (by simp [results, Try.results71, go_sem, l0, l2, m0, m2, pageS, pageB]) rfl ⟨rfl, ?_⟩
  exact (((hB5.setCell (by show w.heap.size ≤ w.heap.size + 1 + 1; omega) _).setCell (by show w.heap.size ≤ w.heap.size + 1 + 1; omega) _).setCell (by show w.heap.size ≤ w.heap.size + 1 + 1 + 1; omega) _).setCell (by show w.heap.size ≤ w.heap.size + 1 + 1 + 1; omega) _

end Go.Proofs.Ytiijnmpenljniad
