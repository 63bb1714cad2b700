/- What impl.apart, impl.treeThere and impl.TreeRight answer. -/
import Derived.Test.YtebegmdbpapfgaaGreatG7
import Derived.Deep.DeepCutAuto
import Derived.Deep.RegionWith
namespace Go.Proofs.YtebegmdbpapfgaaGreat
open Go.RowKit
set_option linter.unusedVariables false

def ApartF (p : PoolD) (n : Nat) (f g : Nat → Int) : Prop := ∀ i, i < n → ¬ HasP i f g (f i) (g i) ∧ ¬ Has p.hn p.h (f i)

set_option maxRecDepth 20000 in
set_option maxHeartbeats 2000000 in
theorem apart_any (v0 v1 v : Value) (lo hi lo' hi' n : Nat) (p : PoolD) (f g : Nat → Int) (w : World) (h1 : PoolAt w lo hi v0 v1 p) (h2 : PtrsAt w lo' hi' v n f g) :
    Calls Tryz.prog 134 #[.agg #[v0, v1], v] w fun e w' => BoolIs (ApartF p n f g) e ∧ Below w.heap.size w w' := by
  have Hp := hideT h1
  have Hl := hideT h2
  obtain ⟨a, c, a', c', rfl, rfl⟩ : ∃ a c a' c', v0 = .slice a p.n c ∧ v1 = .slice a' p.hn c' := by
    obtain ⟨⟨_, a, c, h1, _⟩, ⟨_, a', c', h3, _⟩⟩ := h1
    exact ⟨a, c, a', c', h1, h3⟩
  obtain ⟨m1, la, lc, rfl, mc, _⟩ := id h2
  unfold maxLen at m1
  clear h1 h2
  have ha := below_alloc w (.cells #[.slice a p.n c, .slice a' p.hn c'] 34)
  have HB := hideT (Box2.new w (.slice a p.n c) (.slice a' p.hn c') 34)
  go_enter Tryz.func134, Tryz.ntmps134
  go_wp2
  go_loopw [9] (fun i wr => ∃ k : Nat, k ≤ n ∧ i = .int .i64 k ∧ ApartF p k f g ∧ Box2 wr w.heap.size (.slice a p.n c) (.slice a' p.hn c') ∧ Below w.heap.size w wr) (fun i _ => n - (intOf i).toNat)
  case atStart => exact ⟨0, Nat.zero_le _, rfl, fun j hj => absurd hj (Nat.not_lt_zero _), HB.out, ha⟩
  case round =>
    obtain ⟨k, hk, rfl, hall, hX, hb⟩ := hrel
    have Hall := hideT hall
    have HX := hideT hX
    clear hall hX
    by_cases hlt : k < n
    · have hlt' : (k : Int) < (n : Int) := by omega
      have hkc : (k : Int) ≤ (lc : Int) := by omega
      obtain ⟨b, off, rfl, q0, q1⟩ := (Hl.out.below hb).cellsT hlt
      have hal := below_alloc wr (.cells #[.int .i64 (f k), .int .i64 (g k)] 58)
      have HX1 := hideT (HX.out.below hal)
      have HV := hideT (Box2.new wr (.int .i64 (f k)) (.int .i64 (g k)) 58)
      have hb1 := below_next hb hal
      have hz1 : w.heap.size < wr.heap.size := HX.out.1.lt
      have hz2 : (wr.alloc (.cells #[.int .i64 (f k), .int .i64 (g k)] 58)).heap.size = wr.heap.size + 1 := World.size_alloc _ _
      go_upto_region 4 with fail
      generalize wr.alloc (.cells #[.int .i64 (f k), .int .i64 (g k)] 58) = wx at HX1 HV hb1 hz2 ⊢
      clear q0 q1 hal HX
      have Htk := hideT ((Hl.out.below hb1).take (m := k) (c' := lc) (by omega) (by omega))
      obtain ⟨⟨x0, x1⟩, ⟨x2, x3⟩⟩ := HX1.out
      obtain ⟨⟨y0, y1⟩, ⟨y2, y3⟩⟩ := HV.out
      by_cases hh : HasP k f g (f k) (g k)
      · have HH := hideT hh
        clear hh
        first
          | (go_region_with (first
              | (go_at_call 138
                 refine (containsPtr_any _ k lo' hi' f g (f k) (g k) _ ?_).mono ?_
                 (first | exact Htk.out | exact Htk.out.below (Below.refl _ _).drew)
                 rintro e w2 ⟨⟨t2, rfl, ht2⟩, hb2⟩
                 obtain rfl : t2 = true := ht2.2 HH.out
                 clear ht2
                 have hC2 : Below wx.heap.size wx w2 := (by first | exact hb2 | exact below_undrew hb2)
                 obtain ⟨⟨k0, _⟩, ⟨k1, _⟩⟩ := HX1.out.below hC2
                 obtain ⟨⟨k2, _⟩, ⟨k3, _⟩⟩ := HV.out.below hC2)))
          | fail
        all_goals
          have hB2 := below_next hb1 hC2
          go_wp2
          go_ret
          exact ⟨BoolIs.no fun h => (h k hlt).1 HH.out, hB2⟩
      · have HH := hideT hh
        clear hh
        go_region_held3 (fun w' => w'.cell? ⟨w.heap.size, 0, none⟩ = some (.slice a p.n c) ∧ w'.cell? ⟨w.heap.size, 1, none⟩ = some (.slice a' p.hn c') ∧ w'.cell? ⟨wr.heap.size, 0, none⟩ = some (.int .i64 (f k)) ∧ w'.cell? ⟨wr.heap.size, 1, none⟩ = some (.int .i64 (g k))) (go_keep)
          (first
            | (go_at_call 138
               refine (containsPtr_any _ k lo' hi' f g (f k) (g k) _ ?_).mono ?_
               (first | exact Htk.out | exact Htk.out.below (Below.refl _ _).drew)
               rintro e w2 ⟨⟨t2, rfl, ht2⟩, hb2⟩
               obtain rfl : t2 = false := bool_no ht2 HH.out
               clear ht2
               have hC2 : Below wx.heap.size wx w2 := (by first | exact hb2 | exact below_undrew hb2)
               obtain ⟨⟨k0, _⟩, ⟨k1, _⟩⟩ := HX1.out.below hC2
               obtain ⟨⟨k2, _⟩, ⟨k3, _⟩⟩ := HV.out.below hC2)
            | (go_at_call 129
               refine (contains_any _ p.hn lo hi p.h (f k) _ ?_).mono ?_
               exact (Hp.out.2.below (below_next hb1 hC2))
               rintro e w3 ⟨⟨t3, rfl, ht3⟩, rfl⟩))
        have hB2 := below_next hb1 hC2
        have HX2 := hideT (HX1.out.below hC2)
        have HT3 := hideT ht3
        clear ht3 hC2 hb2 x0 x1 x2 x3 y0 y1 y2 y3 k0 k1 k2 k3
        cases t3
        · go_wp2
          go_roundw
          case rel => exact ⟨k + 1, by omega, by go_num, relNext (n := n) hlt Hall.out ⟨HH.out, fun h => absurd (HT3.out.2 h) (by simp)⟩, HX2.out, hB2⟩
          case measure => simp [intOf]; omega
        · go_wp2
          go_ret
          exact ⟨BoolIs.no fun h => (h k hlt).2 (HT3.out.1 trivial), hB2⟩
    · obtain rfl : k = n := by omega
      go_wp2
      go_ret
      exact ⟨BoolIs.yes Hall.out, hb⟩

/-- A row of pointers, to read. -/
theorem row_ptrs {w : World} {base : Nat} {v : Value} {l : List (Int × Int)} (hm : l.length ≤ maxLen) (h : w.ownsRow base 58 2 v l.length (pcl l)) : PtrsAt w 0 w.heap.size v l.length (fun i => (l.getD i (0, 0)).1) (fun i => (l.getD i (0, 0)).2) := by
  by_cases h0 : 0 < l.length
  · obtain ⟨g, cap, rfl, hcp, hb, hlt, hcell⟩ := owns_cell h h0
    refine ⟨hm, _, cap, rfl, hcp, fun _ => ⟨g, 0, rfl, Nat.zero_le _, hlt, fun i hi => ?_⟩⟩
    have get : ∀ (l : List (Int × Int)) i, i < l.length → (pcl l)[i * 2]? = some (.int .i64 (l.getD i (0, 0)).1) ∧ (pcl l)[i * 2 + 1]? = some (.int .i64 (l.getD i (0, 0)).2) := by
      intro l
      induction l with
      | nil => intro i hi; simp at hi
      | cons x l ih =>
        intro i hi
        cases i with
        | zero => exact ⟨rfl, rfl⟩
        | succ i =>
          have := ih i (by simpa using hi)
          rw [show (i + 1) * 2 = i * 2 + 1 + 1 by omega]
          simpa [pcl] using this
    rw [Nat.zero_add]
    exact ⟨(hcell _ _ (get l i hi).1).1, (hcell _ _ (get l i hi).2).1⟩
  · obtain ⟨a, cap, rfl, hcp⟩ := owns_form h
    exact ⟨hm, a, cap, rfl, hcp, fun h => absurd h h0⟩

theorem apart_list (p : PoolD) (l : List (Int × Int)) : ApartF p l.length (fun i => (l.getD i (0, 0)).1) (fun i => (l.getD i (0, 0)).2) ↔ Apart p l := by
  have getE : ∀ i (h : i < l.length), l.getD i (0, 0) = l[i] := fun i h => by rw [List.getD_eq_getElem?_getD, List.getElem?_eq_getElem h, Option.getD_some]
  constructor
  · intro h
    refine ⟨?_, fun x hx => ?_⟩
    · rw [List.Nodup, List.pairwise_iff_getElem]
      intro i j hi hj hij e
      refine (h j hj).1 ⟨i, hij, ?_, ?_⟩
      · show (l.getD i (0, 0)).1 = (l.getD j (0, 0)).1
        rw [getE i hi, getE j hj, e]
      · show (l.getD i (0, 0)).2 = (l.getD j (0, 0)).2
        rw [getE i hi, getE j hj, e]
    · obtain ⟨i, hi, rfl⟩ := List.getElem_of_mem hx
      have := (h i hi).2
      simp only [getE i hi] at this
      exact this
  · rintro ⟨h1, h2⟩ i hi
    refine ⟨?_, ?_⟩
    · rintro ⟨j, hj, e1, e2⟩
      simp only [getE i hi, getE j (by omega)] at e1 e2
      rw [List.Nodup, List.pairwise_iff_getElem] at h1
      exact h1 j i (by omega) hi hj (Prod.ext e1 e2)
    · simp only [getE i hi]
      exact h2 _ (List.getElem_mem hi)

end Go.Proofs.YtebegmdbpapfgaaGreat

namespace Go.Proofs.YtebegmdbpapfgaaGreat
open Go.RowKit
set_option linter.unusedVariables false

set_option maxRecDepth 20000 in
set_option maxHeartbeats 4000000 in
theorem treeThere_any (v0 v1 : Value) (lo hi : Nat) (p : PoolD) (xs xb : Int) (w : World) (h1 : PoolAt w lo hi v0 v1 p) (hR : Right p) :
    Calls Tryz.prog 109 #[.agg #[v0, v1], .agg #[.int .i64 xs, .int .i64 xb]] w fun e w' => BoolIs (TreeOkI p xs xb) e ∧ Below w.heap.size w w' := by
  have Hp := hideT h1
  have HR := hideT hR
  obtain ⟨a, c, a', c', rfl, rfl⟩ : ∃ a c a' c', v0 = .slice a p.n c ∧ v1 = .slice a' p.hn c' := by
    obtain ⟨⟨_, a, c, h1, _⟩, ⟨_, a', c', h3, _⟩⟩ := h1
    exact ⟨a, c, a', c', h1, h3⟩
  clear h1 hR
  have hst := start22 w (.slice a p.n c) (.slice a' p.hn c') (.int .i64 xs) (.int .i64 xb) 34 58
  by_cases hn : Nil xs xb
  · have HN := hideT hn
    obtain ⟨rfl, rfl⟩ := hn
    obtain ⟨_, _, hba, _⟩ := hst
    go_enter Tryz.func109, Tryz.ntmps109
    go_wp2
    go_ret
    exact ⟨BoolIs.yes (Or.inl HN.out), hba⟩
  · have HN := hideT hn
    have e0 := not_nil_bool hn
    clear hn
    have Hend : Hid (∀ t : Bool, (t = true ↔ Points p xs xb ∧ Shape0 p (p.s xs.toNat) ∧ Apart p (treeL p xs xb)) → BoolIs (TreeOkI p xs xb) (.returned (.bool t))) := fun t ht => ⟨t, rfl, ht.trans ⟨fun h => Or.inr h, fun h => h.resolve_left HN.out⟩⟩
    go_enter Tryz.func109, Tryz.ntmps109
    go_upto_region 1 with fail
    generalize (w.alloc (.cells #[.slice a p.n c, .slice a' p.hn c'] 34)).alloc (.cells #[.int .i64 xs, .int .i64 xb] 58) = W at hst ⊢
    obtain ⟨hB, hX, hba, hz⟩ := hst
    have HB := hideT hB
    have HX := hideT hX
    clear hB hX
    go_cut [7] (fun v wc => v = .bool false ∧ W = wc)
    case first =>
      obtain ⟨⟨y0, y1⟩, ⟨y2, y3⟩⟩ := HX.out
      rcases e0 with e0 | ⟨e0, e1⟩
      all_goals
        go_wp2_with fail
        go_meet
        case rel => exact ⟨rfl, rfl⟩
    case rest =>
      obtain ⟨rfl, rfl⟩ := hcut
      clear e0
      obtain ⟨⟨x0, x1⟩, ⟨x2, x3⟩⟩ := HB.out
      obtain ⟨⟨y0, y1⟩, ⟨y2, y3⟩⟩ := HX.out
      go_upto_region 3 with fail
      by_cases hP : Points p xs xb
      · have HP := hideT hP
        clear hP
        by_cases hSh : Shape0 p (p.s xs.toNat)
        · have HSh := hideT hSh
          clear hSh
          go_region_held3 (fun w' => w'.cell? ⟨w.heap.size, 0, none⟩ = some (.slice a p.n c) ∧ w'.cell? ⟨w.heap.size, 1, none⟩ = some (.slice a' p.hn c') ∧ w'.cell? ⟨w.heap.size + 1, 0, none⟩ = some (.int .i64 xs) ∧ w'.cell? ⟨w.heap.size + 1, 1, none⟩ = some (.int .i64 xb)) (go_keep)
            (first
              | (go_at_call 132
                 refine (isPtr_any _ p.n lo hi p.s xs xb _ ?_).mono ?_
                 (first | exact Hp.out.1.below hba | exact Hp.out.1.below hba.drew)
                 rintro e w1 ⟨⟨t1, rfl, ht1⟩, hb1⟩
                 rw [isPtr_iff HR.out] at ht1
                 obtain rfl : t1 = true := ht1.2 HP.out
                 clear ht1
                 have hC1 : Below W.heap.size W w1 := (by first | exact hb1 | exact below_undrew hb1)
                 obtain ⟨⟨k0, _⟩, ⟨k1, _⟩⟩ := HB.out.below hC1
                 obtain ⟨⟨k2, _⟩, ⟨k3, _⟩⟩ := HX.out.below hC1)
              | (go_at_call 133
                 refine (shape0_any p HR.out _ lo hi xs xb _ ?_ HP.out).mono ?_
                 exact Hp.out.1.below (below_next hba hC1)
                 rintro e w2 ⟨⟨t2, rfl, ht2⟩, hb2⟩
                 obtain rfl : t2 = true := ht2.2 HSh.out
                 clear ht2
                 have hC2 := below_next hC1 hb2
                 obtain ⟨⟨l0, _⟩, ⟨l1, _⟩⟩ := HB.out.below hC2
                 obtain ⟨⟨l2, _⟩, ⟨l3, _⟩⟩ := HX.out.below hC2)
              | (go_at_call 135
                 refine (ptrs0_any p HR.out _ lo hi xs xb _ ?_ (Or.inr HP.out)).mono ?_
                 exact Hp.out.1.below (below_next hba hC2)
                 rintro e w3 ⟨v3, rfl, hrow3, hb3⟩
                 obtain ⟨na, nc, rfl, _⟩ := owns_form hrow3
                 have hC3 := below_next hC2 hb3
                 have hpt := row_ptrs (by have := treeL_len p xs xb; unfold maxLen; omega) hrow3
                 obtain ⟨⟨m0, _⟩, ⟨m1, _⟩⟩ := HB.out.below hC3
                 obtain ⟨⟨m2, _⟩, ⟨m3, _⟩⟩ := HX.out.below hC3)
              | (go_at_call 134
                 refine (apart_any _ _ _ lo hi 0 w3.heap.size _ p _ _ _ ?_ hpt).mono ?_
                 exact Hp.out.below (below_next hba hC3)
                 rintro e w4 ⟨⟨t4, rfl, ht4⟩, hb4⟩
                 rw [apart_list] at ht4
                 have hC4 := below_next hC3 hb4
                 obtain ⟨⟨n0, _⟩, ⟨n1, _⟩⟩ := HB.out.below hC4
                 obtain ⟨⟨n2, _⟩, ⟨n3, _⟩⟩ := HX.out.below hC4))
          have hB4 := below_next hba hC4
          have HT := hideT ht4
          clear ht4
          go_wp2
          go_ret
          exact ⟨Hend.out t4 (HT.out.trans ⟨fun h => ⟨HP.out, HSh.out, h⟩, fun h => h.2.2⟩), hB4⟩
        · have HSh := hideT hSh
          clear hSh
          refine wp_region_held_drew (S := (fun w' => w'.cell? ⟨w.heap.size, 0, none⟩ = some (.slice a p.n c) ∧ w'.cell? ⟨w.heap.size, 1, none⟩ = some (.slice a' p.hn c') ∧ w'.cell? ⟨w.heap.size + 1, 0, none⟩ = some (.int .i64 xs) ∧ w'.cell? ⟨w.heap.size + 1, 1, none⟩ = some (.int .i64 xb))) (by kernel_rfl) ?_ (fun hHeld => ?_)
          · (try dsimp only)
            go_keep
          refine wpAnyH_take (i := 0) (oi := ({ dst := some 8, op := Op.fieldAddr 34 (Operand.tmp 2) 0, type := 0, pos := "l02_tree.go:106", after := #[], guard := none } : Oper)) (v := ?_) rfl (by kernel_rfl) (by kernel_rfl) (by kernel_rfl) (fun _ _ _ h => h) (Or.inl ⟨by rfl, ?_⟩) (by assumption) ?_
          rotate_left
          · (intro w hSw; (try dsimp only at hSw); go_simp; try with_reducible rfl)
          try simp only [Act.put, List.setIfInBounds_toArray, List.set_cons_zero, List.set_cons_succ]
          refine wpAnyH_take (i := 1) (oi := ({ dst := some 9, op := Op.load 32 (Operand.tmp 8), type := 32, pos := "l02_tree.go:106", after := #[{ on := 0, ground := Ground.data }], guard := none } : Oper)) (v := ?_) rfl (by kernel_rfl) (by kernel_rfl) (by kernel_rfl) (fun _ _ _ h => h) (Or.inl ⟨by rfl, ?_⟩) (by assumption) ?_
          rotate_left
          · (intro w hSw; (try dsimp only at hSw); go_simp; try with_reducible rfl)
          try simp only [Act.put, List.setIfInBounds_toArray, List.set_cons_zero, List.set_cons_succ]
          refine wpAnyH_take (i := 2) (oi := ({ dst := some 10, op := Op.load 58 (Operand.tmp 3), type := 58, pos := "l02_tree.go:106", after := #[], guard := none } : Oper)) (v := ?_) rfl (by kernel_rfl) (by kernel_rfl) (by kernel_rfl) (fun _ _ _ h => h) (Or.inl ⟨by rfl, ?_⟩) (by assumption) ?_
          rotate_left
          · (intro w hSw; (try dsimp only at hSw); go_simp; try with_reducible rfl)
          try simp only [Act.put, List.setIfInBounds_toArray, List.set_cons_zero, List.set_cons_succ]
          refine wpAnyH_ready (rs := [3]) (by kernel_rfl) (by simp) ?_
          refine AllReadyH.cons (o := ({ dst := some 11, op := Op.call { callee := Callee.value (Operand.func 132), args := #[Operand.tmp 9, Operand.tmp 10], argTypes := #[32, 58] }, type := 4, pos := "l02_tree.go:106", after := #[{ on := 1, ground := Ground.data }, { on := 2, ground := Ground.data }], guard := none } : Oper)) rfl (fun K hK => ?_) AllReadyH.nil
          go_simp
          go_at_call 132
          refine (isPtr_any _ p.n lo hi p.s xs xb _ ?_).mono ?_
          · first | exact Hp.out.1.below hba | exact Hp.out.1.below hba.drew
          rintro e w1 ⟨⟨t1, rfl, ht1⟩, hb1⟩
          rw [isPtr_iff HR.out] at ht1
          obtain rfl : t1 = true := ht1.2 HP.out
          clear ht1
          have hC1 : Below W.heap.size W w1 := (by first | exact hb1 | exact below_undrew hb1)
          obtain ⟨⟨k0, _⟩, ⟨k1, _⟩⟩ := HB.out.below hC1
          obtain ⟨⟨k2, _⟩, ⟨k3, _⟩⟩ := HX.out.below hC1
          (try go_wp2_with fail)
          refine hK.out _ _ ?_ (fun hHeldN => ?_)
          · (try dsimp only)
            go_keep
          clear hK K hHeld
          have hHeld := hHeldN
          clear hHeldN
          try simp only [Act.put, List.setIfInBounds_toArray, List.set_cons_zero, List.set_cons_succ]
          refine wpAnyH_take (i := 4) (oi := ({ dst := some 12, op := Op.move (Operand.tmp 11), type := 4, pos := "l02_tree.go:106", after := #[{ on := 3, ground := Ground.data }, { on := 3, ground := Ground.chain }], guard := none } : Oper)) (v := ?_) rfl (by kernel_rfl) (by kernel_rfl) (by kernel_rfl) (fun _ _ _ h => h) (Or.inl ⟨by rfl, ?_⟩) (by assumption) ?_
          rotate_left
          · (intro w hSw; (try dsimp only at hSw); go_simp; try with_reducible rfl)
          try simp only [Act.put, List.setIfInBounds_toArray, List.set_cons_zero, List.set_cons_succ]
          refine wpAnyH_take (i := 5) (oi := ({ dst := some 13, op := Op.fieldAddr 34 (Operand.tmp 2) 0, type := 0, pos := "l02_tree.go:106", after := #[{ on := 4, ground := Ground.guard }], guard := some (4, true) } : Oper)) (v := ?_) rfl (by kernel_rfl) (by kernel_rfl) (by kernel_rfl) (fun _ _ _ h => h) (Or.inl ⟨by rfl, ?_⟩) (by assumption) ?_
          rotate_left
          · (intro w hSw; (try dsimp only at hSw); go_simp; try with_reducible rfl)
          try simp only [Act.put, List.setIfInBounds_toArray, List.set_cons_zero, List.set_cons_succ]
          refine wpAnyH_take (i := 6) (oi := ({ dst := some 14, op := Op.load 32 (Operand.tmp 13), type := 32, pos := "l02_tree.go:106", after := #[{ on := 5, ground := Ground.data }, { on := 4, ground := Ground.guard }], guard := some (4, true) } : Oper)) (v := ?_) rfl (by kernel_rfl) (by kernel_rfl) (by kernel_rfl) (fun _ _ _ h => h) (Or.inl ⟨by rfl, ?_⟩) (by assumption) ?_
          rotate_left
          · (intro w hSw; (try dsimp only at hSw); go_simp; try with_reducible rfl)
          try simp only [Act.put, List.setIfInBounds_toArray, List.set_cons_zero, List.set_cons_succ]
          refine wpAnyH_take (i := 7) (oi := ({ dst := some 15, op := Op.load 58 (Operand.tmp 3), type := 58, pos := "l02_tree.go:106", after := #[{ on := 4, ground := Ground.guard }], guard := some (4, true) } : Oper)) (v := ?_) rfl (by kernel_rfl) (by kernel_rfl) (by kernel_rfl) (fun _ _ _ h => h) (Or.inl ⟨by rfl, ?_⟩) (by assumption) ?_
          rotate_left
          · (intro w hSw; (try dsimp only at hSw); go_simp; try with_reducible rfl)
          try simp only [Act.put, List.setIfInBounds_toArray, List.set_cons_zero, List.set_cons_succ]
          refine wpAnyH_ready (rs := [8]) (by kernel_rfl) (by simp) ?_
          refine AllReadyH.cons (o := ({ dst := some 16, op := Op.call { callee := Callee.value (Operand.func 133), args := #[Operand.tmp 14, Operand.tmp 15, Operand.const (Value.int IntKind.i64 0)], argTypes := #[32, 58, 3] }, type := 4, pos := "l02_tree.go:106", after := #[{ on := 6, ground := Ground.data }, { on := 7, ground := Ground.data }, { on := 4, ground := Ground.chain }, { on := 4, ground := Ground.guard }], guard := some (4, true) } : Oper)) rfl (fun K hK => ?_) AllReadyH.nil
          go_simp
          go_at_call 133
          refine (shape0_any p HR.out _ lo hi xs xb _ ?_ HP.out).mono ?_
          · exact Hp.out.1.below (below_next hba hC1)
          rintro e w2 ⟨⟨t2, rfl, ht2⟩, hb2⟩
          obtain rfl : t2 = false := bool_no ht2 HSh.out
          clear ht2
          have hC2 := below_next hC1 hb2
          obtain ⟨⟨l0, _⟩, ⟨l1, _⟩⟩ := HB.out.below hC2
          obtain ⟨⟨l2, _⟩, ⟨l3, _⟩⟩ := HX.out.below hC2
          (try go_wp2_with fail)
          refine hK.out _ _ ?_ (fun hHeldN => ?_)
          · (try dsimp only)
            go_keep
          clear hK K hHeld
          have hHeld := hHeldN
          clear hHeldN
          try simp only [Act.put, List.setIfInBounds_toArray, List.set_cons_zero, List.set_cons_succ]
          refine wpAnyH_take (i := 9) (oi := ({ dst := some 17, op := Op.pick (Operand.tmp 12) (Operand.tmp 16) (Operand.const (Value.bool false)), type := 4, pos := "l02_tree.go:106", after := #[{ on := 4, ground := Ground.data }, { on := 8, ground := Ground.data }], guard := none } : Oper)) (v := ?_) rfl (by kernel_rfl) (by kernel_rfl) (by kernel_rfl) (fun _ _ _ h => h) (Or.inl ⟨by rfl, ?_⟩) (by assumption) ?_
          rotate_left
          · (intro w hSw; (try dsimp only at hSw); go_simp; try with_reducible rfl)
          try simp only [Act.put, List.setIfInBounds_toArray, List.set_cons_zero, List.set_cons_succ]
          refine wpAnyH_take (i := 10) (oi := ({ dst := some 18, op := Op.move (Operand.tmp 17), type := 4, pos := "l02_tree.go:106", after := #[{ on := 9, ground := Ground.data }, { on := 8, ground := Ground.chain }], guard := none } : Oper)) (v := ?_) rfl (by kernel_rfl) (by kernel_rfl) (by kernel_rfl) (fun _ _ _ h => h) (Or.inl ⟨by rfl, ?_⟩) (by assumption) ?_
          rotate_left
          · (intro w hSw; (try dsimp only at hSw); go_simp; try with_reducible rfl)
          try simp only [Act.put, List.setIfInBounds_toArray, List.set_cons_zero, List.set_cons_succ]
          refine wpAnyH_take (i := 11) (oi := ({ dst := some 19, op := Op.load 34 (Operand.tmp 2), type := 34, pos := "l02_tree.go:106", after := #[{ on := 10, ground := Ground.guard }], guard := some (10, true) } : Oper)) (v := undef) rfl (by kernel_rfl) (by kernel_rfl) (by kernel_rfl) (fun _ _ _ h => h) (Or.inr ⟨by rfl, rfl⟩) (by assumption) ?_
          try simp only [Act.put, List.setIfInBounds_toArray, List.set_cons_zero, List.set_cons_succ]
          refine wpAnyH_take (i := 12) (oi := ({ dst := some 20, op := Op.fieldAddr 34 (Operand.tmp 2) 0, type := 0, pos := "l02_tree.go:106", after := #[{ on := 10, ground := Ground.guard }], guard := some (10, true) } : Oper)) (v := undef) rfl (by kernel_rfl) (by kernel_rfl) (by kernel_rfl) (fun _ _ _ h => h) (Or.inr ⟨by rfl, rfl⟩) (by assumption) ?_
          try simp only [Act.put, List.setIfInBounds_toArray, List.set_cons_zero, List.set_cons_succ]
          refine wpAnyH_take (i := 13) (oi := ({ dst := some 21, op := Op.load 32 (Operand.tmp 20), type := 32, pos := "l02_tree.go:106", after := #[{ on := 12, ground := Ground.data }, { on := 10, ground := Ground.guard }], guard := some (10, true) } : Oper)) (v := undef) rfl (by kernel_rfl) (by kernel_rfl) (by kernel_rfl) (fun _ _ _ h => h) (Or.inr ⟨by rfl, rfl⟩) (by assumption) ?_
          try simp only [Act.put, List.setIfInBounds_toArray, List.set_cons_zero, List.set_cons_succ]
          refine wpAnyH_take (i := 14) (oi := ({ dst := some 22, op := Op.load 58 (Operand.tmp 3), type := 58, pos := "l02_tree.go:106", after := #[{ on := 10, ground := Ground.guard }], guard := some (10, true) } : Oper)) (v := undef) rfl (by kernel_rfl) (by kernel_rfl) (by kernel_rfl) (fun _ _ _ h => h) (Or.inr ⟨by rfl, rfl⟩) (by assumption) ?_
          try simp only [Act.put, List.setIfInBounds_toArray, List.set_cons_zero, List.set_cons_succ]
          refine wpAnyH_ready (rs := [15]) (by kernel_rfl) (by simp) ?_
          refine AllReadyH.cons (o := ({ dst := some 23, op := Op.call { callee := Callee.value (Operand.func 135), args := #[Operand.tmp 21, Operand.tmp 22, Operand.const (Value.int IntKind.i64 0)], argTypes := #[32, 58, 3] }, type := 55, pos := "l02_tree.go:106", after := #[{ on := 13, ground := Ground.data }, { on := 14, ground := Ground.data }, { on := 10, ground := Ground.chain }, { on := 10, ground := Ground.guard }], guard := some (10, true) } : Oper)) rfl (fun K hK => ?_) AllReadyH.nil
          split
          · rename_i hwt
            exact absurd (show false = true from hwt) Bool.false_ne_true
          refine hK.out _ _ (by assumption) (fun hHeld => ?_)
          clear hK K
          try simp only [Act.put, List.setIfInBounds_toArray, List.set_cons_zero, List.set_cons_succ]
          refine wpAnyH_ready (rs := [16]) (by kernel_rfl) (by simp) ?_
          refine AllReadyH.cons (o := ({ dst := some 24, op := Op.call { callee := Callee.value (Operand.func 134), args := #[Operand.tmp 19, Operand.tmp 23], argTypes := #[34, 55] }, type := 4, pos := "l02_tree.go:106", after := #[{ on := 11, ground := Ground.data }, { on := 15, ground := Ground.data }, { on := 15, ground := Ground.chain }, { on := 10, ground := Ground.guard }], guard := some (10, true) } : Oper)) rfl (fun K hK => ?_) AllReadyH.nil
          split
          · rename_i hwt
            exact absurd (show false = true from hwt) Bool.false_ne_true
          refine hK.out _ _ (by assumption) (fun hHeld => ?_)
          clear hK K
          try simp only [Act.put, List.setIfInBounds_toArray, List.set_cons_zero, List.set_cons_succ]
          refine wpAnyH_take (i := 17) (oi := ({ dst := some 25, op := Op.pick (Operand.tmp 18) (Operand.tmp 24) (Operand.const (Value.bool false)), type := 4, pos := "l02_tree.go:106", after := #[{ on := 10, ground := Ground.data }, { on := 16, ground := Ground.data }], guard := none } : Oper)) (v := ?_) rfl (by kernel_rfl) (by kernel_rfl) (by kernel_rfl) (fun _ _ _ h => h) (Or.inl ⟨by rfl, ?_⟩) (by assumption) ?_
          rotate_left
          · (intro w hSw; (try dsimp only at hSw); go_simp; try with_reducible rfl)
          try simp only [Act.put, List.setIfInBounds_toArray, List.set_cons_zero, List.set_cons_succ]
          refine wpAnyH_take (i := 18) (oi := ({ dst := some 4, op := Op.assign (Operand.tmp 25), type := 4, pos := "l02_tree.go:106", after := #[{ on := 17, ground := Ground.data }, { on := 16, ground := Ground.chain }, { on := 0, ground := Ground.phase }, { on := 1, ground := Ground.phase }, { on := 2, ground := Ground.phase }, { on := 3, ground := Ground.phase }, { on := 4, ground := Ground.phase }, { on := 5, ground := Ground.phase }, { on := 6, ground := Ground.phase }, { on := 7, ground := Ground.phase }, { on := 8, ground := Ground.phase }, { on := 9, ground := Ground.phase }, { on := 10, ground := Ground.phase }, { on := 11, ground := Ground.phase }, { on := 12, ground := Ground.phase }, { on := 13, ground := Ground.phase }, { on := 14, ground := Ground.phase }, { on := 15, ground := Ground.phase }, { on := 16, ground := Ground.phase }, { on := 17, ground := Ground.phase }], guard := none } : Oper)) (v := ?_) rfl (by kernel_rfl) (by kernel_rfl) (by kernel_rfl) (fun _ _ _ h => h) (Or.inl ⟨by rfl, ?_⟩) (by assumption) ?_
          rotate_left
          · (intro w hSw; (try dsimp only at hSw); go_simp; try with_reducible rfl)
          try simp only [Act.put, List.setIfInBounds_toArray, List.set_cons_zero, List.set_cons_succ]
          refine wpAnyH_done (by kernel_rfl) ?_ _
          have hB4 := below_next hba hC2
          go_wp2
          go_ret
          exact ⟨Hend.out false ⟨fun h => (by cases h), fun h => absurd h.2.1 HSh.out⟩, hB4⟩
      · have HP := hideT hP
        clear hP
        refine wp_region_held_drew (S := (fun w' => w'.cell? ⟨w.heap.size, 0, none⟩ = some (.slice a p.n c) ∧ w'.cell? ⟨w.heap.size, 1, none⟩ = some (.slice a' p.hn c') ∧ w'.cell? ⟨w.heap.size + 1, 0, none⟩ = some (.int .i64 xs) ∧ w'.cell? ⟨w.heap.size + 1, 1, none⟩ = some (.int .i64 xb))) (by kernel_rfl) ?_ (fun hHeld => ?_)
        · (try dsimp only)
          go_keep
        refine wpAnyH_take (i := 0) (oi := ({ dst := some 8, op := Op.fieldAddr 34 (Operand.tmp 2) 0, type := 0, pos := "l02_tree.go:106", after := #[], guard := none } : Oper)) (v := ?_) rfl (by kernel_rfl) (by kernel_rfl) (by kernel_rfl) (fun _ _ _ h => h) (Or.inl ⟨by rfl, ?_⟩) (by assumption) ?_
        rotate_left
        · (intro w hSw; (try dsimp only at hSw); go_simp; try with_reducible rfl)
        try simp only [Act.put, List.setIfInBounds_toArray, List.set_cons_zero, List.set_cons_succ]
        refine wpAnyH_take (i := 1) (oi := ({ dst := some 9, op := Op.load 32 (Operand.tmp 8), type := 32, pos := "l02_tree.go:106", after := #[{ on := 0, ground := Ground.data }], guard := none } : Oper)) (v := ?_) rfl (by kernel_rfl) (by kernel_rfl) (by kernel_rfl) (fun _ _ _ h => h) (Or.inl ⟨by rfl, ?_⟩) (by assumption) ?_
        rotate_left
        · (intro w hSw; (try dsimp only at hSw); go_simp; try with_reducible rfl)
        try simp only [Act.put, List.setIfInBounds_toArray, List.set_cons_zero, List.set_cons_succ]
        refine wpAnyH_take (i := 2) (oi := ({ dst := some 10, op := Op.load 58 (Operand.tmp 3), type := 58, pos := "l02_tree.go:106", after := #[], guard := none } : Oper)) (v := ?_) rfl (by kernel_rfl) (by kernel_rfl) (by kernel_rfl) (fun _ _ _ h => h) (Or.inl ⟨by rfl, ?_⟩) (by assumption) ?_
        rotate_left
        · (intro w hSw; (try dsimp only at hSw); go_simp; try with_reducible rfl)
        try simp only [Act.put, List.setIfInBounds_toArray, List.set_cons_zero, List.set_cons_succ]
        refine wpAnyH_ready (rs := [3]) (by kernel_rfl) (by simp) ?_
        refine AllReadyH.cons (o := ({ dst := some 11, op := Op.call { callee := Callee.value (Operand.func 132), args := #[Operand.tmp 9, Operand.tmp 10], argTypes := #[32, 58] }, type := 4, pos := "l02_tree.go:106", after := #[{ on := 1, ground := Ground.data }, { on := 2, ground := Ground.data }], guard := none } : Oper)) rfl (fun K hK => ?_) AllReadyH.nil
        go_simp
        go_at_call 132
        refine (isPtr_any _ p.n lo hi p.s xs xb _ ?_).mono ?_
        · first | exact Hp.out.1.below hba | exact Hp.out.1.below hba.drew
        rintro e w1 ⟨⟨t1, rfl, ht1⟩, hb1⟩
        rw [isPtr_iff HR.out] at ht1
        obtain rfl : t1 = false := bool_no ht1 HP.out
        clear ht1
        have hC1 : Below W.heap.size W w1 := (by first | exact hb1 | exact below_undrew hb1)
        obtain ⟨⟨k0, _⟩, ⟨k1, _⟩⟩ := HB.out.below hC1
        obtain ⟨⟨k2, _⟩, ⟨k3, _⟩⟩ := HX.out.below hC1
        (try go_wp2_with fail)
        refine hK.out _ _ ?_ (fun hHeldN => ?_)
        · (try dsimp only)
          go_keep
        clear hK K hHeld
        have hHeld := hHeldN
        clear hHeldN
        try simp only [Act.put, List.setIfInBounds_toArray, List.set_cons_zero, List.set_cons_succ]
        refine wpAnyH_take (i := 4) (oi := ({ dst := some 12, op := Op.move (Operand.tmp 11), type := 4, pos := "l02_tree.go:106", after := #[{ on := 3, ground := Ground.data }, { on := 3, ground := Ground.chain }], guard := none } : Oper)) (v := ?_) rfl (by kernel_rfl) (by kernel_rfl) (by kernel_rfl) (fun _ _ _ h => h) (Or.inl ⟨by rfl, ?_⟩) (by assumption) ?_
        rotate_left
        · (intro w hSw; (try dsimp only at hSw); go_simp; try with_reducible rfl)
        try simp only [Act.put, List.setIfInBounds_toArray, List.set_cons_zero, List.set_cons_succ]
        refine wpAnyH_take (i := 5) (oi := ({ dst := some 13, op := Op.fieldAddr 34 (Operand.tmp 2) 0, type := 0, pos := "l02_tree.go:106", after := #[{ on := 4, ground := Ground.guard }], guard := some (4, true) } : Oper)) (v := undef) rfl (by kernel_rfl) (by kernel_rfl) (by kernel_rfl) (fun _ _ _ h => h) (Or.inr ⟨by rfl, rfl⟩) (by assumption) ?_
        try simp only [Act.put, List.setIfInBounds_toArray, List.set_cons_zero, List.set_cons_succ]
        refine wpAnyH_take (i := 6) (oi := ({ dst := some 14, op := Op.load 32 (Operand.tmp 13), type := 32, pos := "l02_tree.go:106", after := #[{ on := 5, ground := Ground.data }, { on := 4, ground := Ground.guard }], guard := some (4, true) } : Oper)) (v := undef) rfl (by kernel_rfl) (by kernel_rfl) (by kernel_rfl) (fun _ _ _ h => h) (Or.inr ⟨by rfl, rfl⟩) (by assumption) ?_
        try simp only [Act.put, List.setIfInBounds_toArray, List.set_cons_zero, List.set_cons_succ]
        refine wpAnyH_take (i := 7) (oi := ({ dst := some 15, op := Op.load 58 (Operand.tmp 3), type := 58, pos := "l02_tree.go:106", after := #[{ on := 4, ground := Ground.guard }], guard := some (4, true) } : Oper)) (v := undef) rfl (by kernel_rfl) (by kernel_rfl) (by kernel_rfl) (fun _ _ _ h => h) (Or.inr ⟨by rfl, rfl⟩) (by assumption) ?_
        try simp only [Act.put, List.setIfInBounds_toArray, List.set_cons_zero, List.set_cons_succ]
        refine wpAnyH_ready (rs := [8]) (by kernel_rfl) (by simp) ?_
        refine AllReadyH.cons (o := ({ dst := some 16, op := Op.call { callee := Callee.value (Operand.func 133), args := #[Operand.tmp 14, Operand.tmp 15, Operand.const (Value.int IntKind.i64 0)], argTypes := #[32, 58, 3] }, type := 4, pos := "l02_tree.go:106", after := #[{ on := 6, ground := Ground.data }, { on := 7, ground := Ground.data }, { on := 4, ground := Ground.chain }, { on := 4, ground := Ground.guard }], guard := some (4, true) } : Oper)) rfl (fun K hK => ?_) AllReadyH.nil
        split
        · rename_i hwt
          exact absurd (show false = true from hwt) Bool.false_ne_true
        refine hK.out _ _ (by assumption) (fun hHeld => ?_)
        clear hK K
        try simp only [Act.put, List.setIfInBounds_toArray, List.set_cons_zero, List.set_cons_succ]
        refine wpAnyH_take (i := 9) (oi := ({ dst := some 17, op := Op.pick (Operand.tmp 12) (Operand.tmp 16) (Operand.const (Value.bool false)), type := 4, pos := "l02_tree.go:106", after := #[{ on := 4, ground := Ground.data }, { on := 8, ground := Ground.data }], guard := none } : Oper)) (v := ?_) rfl (by kernel_rfl) (by kernel_rfl) (by kernel_rfl) (fun _ _ _ h => h) (Or.inl ⟨by rfl, ?_⟩) (by assumption) ?_
        rotate_left
        · (intro w hSw; (try dsimp only at hSw); go_simp; try with_reducible rfl)
        try simp only [Act.put, List.setIfInBounds_toArray, List.set_cons_zero, List.set_cons_succ]
        refine wpAnyH_take (i := 10) (oi := ({ dst := some 18, op := Op.move (Operand.tmp 17), type := 4, pos := "l02_tree.go:106", after := #[{ on := 9, ground := Ground.data }, { on := 8, ground := Ground.chain }], guard := none } : Oper)) (v := ?_) rfl (by kernel_rfl) (by kernel_rfl) (by kernel_rfl) (fun _ _ _ h => h) (Or.inl ⟨by rfl, ?_⟩) (by assumption) ?_
        rotate_left
        · (intro w hSw; (try dsimp only at hSw); go_simp; try with_reducible rfl)
        try simp only [Act.put, List.setIfInBounds_toArray, List.set_cons_zero, List.set_cons_succ]
        refine wpAnyH_take (i := 11) (oi := ({ dst := some 19, op := Op.load 34 (Operand.tmp 2), type := 34, pos := "l02_tree.go:106", after := #[{ on := 10, ground := Ground.guard }], guard := some (10, true) } : Oper)) (v := undef) rfl (by kernel_rfl) (by kernel_rfl) (by kernel_rfl) (fun _ _ _ h => h) (Or.inr ⟨by rfl, rfl⟩) (by assumption) ?_
        try simp only [Act.put, List.setIfInBounds_toArray, List.set_cons_zero, List.set_cons_succ]
        refine wpAnyH_take (i := 12) (oi := ({ dst := some 20, op := Op.fieldAddr 34 (Operand.tmp 2) 0, type := 0, pos := "l02_tree.go:106", after := #[{ on := 10, ground := Ground.guard }], guard := some (10, true) } : Oper)) (v := undef) rfl (by kernel_rfl) (by kernel_rfl) (by kernel_rfl) (fun _ _ _ h => h) (Or.inr ⟨by rfl, rfl⟩) (by assumption) ?_
        try simp only [Act.put, List.setIfInBounds_toArray, List.set_cons_zero, List.set_cons_succ]
        refine wpAnyH_take (i := 13) (oi := ({ dst := some 21, op := Op.load 32 (Operand.tmp 20), type := 32, pos := "l02_tree.go:106", after := #[{ on := 12, ground := Ground.data }, { on := 10, ground := Ground.guard }], guard := some (10, true) } : Oper)) (v := undef) rfl (by kernel_rfl) (by kernel_rfl) (by kernel_rfl) (fun _ _ _ h => h) (Or.inr ⟨by rfl, rfl⟩) (by assumption) ?_
        try simp only [Act.put, List.setIfInBounds_toArray, List.set_cons_zero, List.set_cons_succ]
        refine wpAnyH_take (i := 14) (oi := ({ dst := some 22, op := Op.load 58 (Operand.tmp 3), type := 58, pos := "l02_tree.go:106", after := #[{ on := 10, ground := Ground.guard }], guard := some (10, true) } : Oper)) (v := undef) rfl (by kernel_rfl) (by kernel_rfl) (by kernel_rfl) (fun _ _ _ h => h) (Or.inr ⟨by rfl, rfl⟩) (by assumption) ?_
        try simp only [Act.put, List.setIfInBounds_toArray, List.set_cons_zero, List.set_cons_succ]
        refine wpAnyH_ready (rs := [15]) (by kernel_rfl) (by simp) ?_
        refine AllReadyH.cons (o := ({ dst := some 23, op := Op.call { callee := Callee.value (Operand.func 135), args := #[Operand.tmp 21, Operand.tmp 22, Operand.const (Value.int IntKind.i64 0)], argTypes := #[32, 58, 3] }, type := 55, pos := "l02_tree.go:106", after := #[{ on := 13, ground := Ground.data }, { on := 14, ground := Ground.data }, { on := 10, ground := Ground.chain }, { on := 10, ground := Ground.guard }], guard := some (10, true) } : Oper)) rfl (fun K hK => ?_) AllReadyH.nil
        split
        · rename_i hwt
          exact absurd (show false = true from hwt) Bool.false_ne_true
        refine hK.out _ _ (by assumption) (fun hHeld => ?_)
        clear hK K
        try simp only [Act.put, List.setIfInBounds_toArray, List.set_cons_zero, List.set_cons_succ]
        refine wpAnyH_ready (rs := [16]) (by kernel_rfl) (by simp) ?_
        refine AllReadyH.cons (o := ({ dst := some 24, op := Op.call { callee := Callee.value (Operand.func 134), args := #[Operand.tmp 19, Operand.tmp 23], argTypes := #[34, 55] }, type := 4, pos := "l02_tree.go:106", after := #[{ on := 11, ground := Ground.data }, { on := 15, ground := Ground.data }, { on := 15, ground := Ground.chain }, { on := 10, ground := Ground.guard }], guard := some (10, true) } : Oper)) rfl (fun K hK => ?_) AllReadyH.nil
        split
        · rename_i hwt
          exact absurd (show false = true from hwt) Bool.false_ne_true
        refine hK.out _ _ (by assumption) (fun hHeld => ?_)
        clear hK K
        try simp only [Act.put, List.setIfInBounds_toArray, List.set_cons_zero, List.set_cons_succ]
        refine wpAnyH_take (i := 17) (oi := ({ dst := some 25, op := Op.pick (Operand.tmp 18) (Operand.tmp 24) (Operand.const (Value.bool false)), type := 4, pos := "l02_tree.go:106", after := #[{ on := 10, ground := Ground.data }, { on := 16, ground := Ground.data }], guard := none } : Oper)) (v := ?_) rfl (by kernel_rfl) (by kernel_rfl) (by kernel_rfl) (fun _ _ _ h => h) (Or.inl ⟨by rfl, ?_⟩) (by assumption) ?_
        rotate_left
        · (intro w hSw; (try dsimp only at hSw); go_simp; try with_reducible rfl)
        try simp only [Act.put, List.setIfInBounds_toArray, List.set_cons_zero, List.set_cons_succ]
        refine wpAnyH_take (i := 18) (oi := ({ dst := some 4, op := Op.assign (Operand.tmp 25), type := 4, pos := "l02_tree.go:106", after := #[{ on := 17, ground := Ground.data }, { on := 16, ground := Ground.chain }, { on := 0, ground := Ground.phase }, { on := 1, ground := Ground.phase }, { on := 2, ground := Ground.phase }, { on := 3, ground := Ground.phase }, { on := 4, ground := Ground.phase }, { on := 5, ground := Ground.phase }, { on := 6, ground := Ground.phase }, { on := 7, ground := Ground.phase }, { on := 8, ground := Ground.phase }, { on := 9, ground := Ground.phase }, { on := 10, ground := Ground.phase }, { on := 11, ground := Ground.phase }, { on := 12, ground := Ground.phase }, { on := 13, ground := Ground.phase }, { on := 14, ground := Ground.phase }, { on := 15, ground := Ground.phase }, { on := 16, ground := Ground.phase }, { on := 17, ground := Ground.phase }], guard := none } : Oper)) (v := ?_) rfl (by kernel_rfl) (by kernel_rfl) (by kernel_rfl) (fun _ _ _ h => h) (Or.inl ⟨by rfl, ?_⟩) (by assumption) ?_
        rotate_left
        · (intro w hSw; (try dsimp only at hSw); go_simp; try with_reducible rfl)
        try simp only [Act.put, List.setIfInBounds_toArray, List.set_cons_zero, List.set_cons_succ]
        refine wpAnyH_done (by kernel_rfl) ?_ _
        have hB4 := below_next hba hC1
        go_wp2
        go_ret
        exact ⟨Hend.out false ⟨fun h => (by cases h), fun h => absurd h.1 HP.out⟩, hB4⟩

end Go.Proofs.YtebegmdbpapfgaaGreat

namespace Go.Proofs.YtebegmdbpapfgaaGreat
open Go.RowKit
set_option linter.unusedVariables false

/-- The cells of a list of numbers. -/
def icl (l : List Int) : List Value := l.map (Value.int .i64)
theorem icl_len (l : List Int) : (icl l).length = l.length * 1 := by simp [icl]
theorem icl_append (l m : List Int) : icl (l ++ m) = icl l ++ icl m := by simp [icl]
theorem icl_one (l : List Int) : ∀ u ∈ icl l, u.oneCell' = true := by
  intro u hu
  simp only [icl, List.mem_map] at hu
  obtain ⟨x, _, rfl⟩ := hu
  rfl

theorem row_ints {w : World} {base : Nat} {v : Value} {l : List Int} (hm : l.length ≤ maxLen) (h : w.ownsRow base 2 1 v l.length (icl l)) : IntsAt w 0 w.heap.size v l.length (fun i => l.getD i 0) := by
  by_cases h0 : 0 < l.length
  · obtain ⟨g, cap, rfl, hcp, hb, hlt, hcell⟩ := owns_cell h h0
    refine ⟨hm, _, cap, rfl, hcp, fun _ => ⟨g, 0, rfl, Nat.zero_le _, hlt, fun i hi => ?_⟩⟩
    rw [Nat.zero_add]
    refine (hcell i _ ?_).1
    simp [icl, hi]
  · obtain ⟨a, cap, rfl, hcp⟩ := owns_form h
    exact ⟨hm, a, cap, rfl, hcp, fun h => absurd h h0⟩

theorem has_list (l : List Int) (x : Int) : Has l.length (fun i => l.getD i 0) x ↔ x ∈ l := by
  have getE : ∀ i (h : i < l.length), l.getD i 0 = l[i] := fun i h => by rw [List.getD_eq_getElem?_getD, List.getElem?_eq_getElem h, Option.getD_some]
  constructor
  · rintro ⟨j, hj, e⟩
    rw [← e]
    show l.getD j 0 ∈ l
    rw [getE j hj]
    exact List.getElem_mem hj
  · intro h
    obtain ⟨i, hi, rfl⟩ := List.getElem_of_mem h
    exact ⟨i, hi, getE i hi⟩

end Go.Proofs.YtebegmdbpapfgaaGreat
