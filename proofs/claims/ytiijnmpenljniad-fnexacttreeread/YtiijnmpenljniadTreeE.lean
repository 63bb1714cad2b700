/- What impl.apart, impl.treeThere and impl.TreeRight answer. -/
import Derived.Test.YtiijnmpenljniadTreeD
import Derived.Deep.DeepCutAuto
import Derived.Deep.RegionWith
namespace Go.Proofs.Ytiijnmpenljniad
open Go.RowKit
set_option linter.unusedVariables false

def ApartF (p : PoolD) (n : Nat) (f g : Nat → Int) : Prop := ∀ i, i < n → ¬ HasP i f g (f i) (g i) ∧ ¬ Has p.hn p.h (f i)

set_option maxRecDepth 20000 in
set_option maxHeartbeats 2000000 in
theorem apart_any (v0 v1 v : Value) (lo hi lo' hi' n : Nat) (p : PoolD) (f g : Nat → Int) (w : World) (h1 : PoolAt w lo hi v0 v1 p) (h2 : PtrsAt w lo' hi' v n f g) :
    Calls Try.prog 92 #[.agg #[v0, v1], v] w fun e w' => BoolIs (ApartF p n f g) e ∧ Below w.heap.size w w' := by
  have Hp := hideT h1
  have Hl := hideT h2
  obtain ⟨a, c, a', c', rfl, rfl⟩ : ∃ a c a' c', v0 = .slice a p.n c ∧ v1 = .slice a' p.hn c' := by
    obtain ⟨⟨_, a, c, h1, _⟩, ⟨_, a', c', h3, _⟩⟩ := h1
    exact ⟨a, c, a', c', h1, h3⟩
  obtain ⟨m1, la, lc, rfl, mc, _⟩ := id h2
  unfold maxLen at m1
  clear h1 h2
  have ha := below_alloc w (.cells #[.slice a p.n c, .slice a' p.hn c'] 33)
  have HB := hideT (Box2.new w (.slice a p.n c) (.slice a' p.hn c') 33)
  go_enter Try.func92, Try.ntmps92
  go_wp2
  go_loopw [9] (fun i wr => ∃ k : Nat, k ≤ n ∧ i = .int .i64 k ∧ ApartF p k f g ∧ Box2 wr w.heap.size (.slice a p.n c) (.slice a' p.hn c') ∧ Below w.heap.size w wr) (fun i _ => n - (intOf i).toNat)
  case atStart => exact ⟨0, Nat.zero_le _, rfl, fun j hj => absurd hj (Nat.not_lt_zero _), HB.out, ha⟩
  case round =>
    obtain ⟨k, hk, rfl, hall, hX, hb⟩ := hrel
    have Hall := hideT hall
    have HX := hideT hX
    clear hall hX
    by_cases hlt : k < n
    · have hlt' : (k : Int) < (n : Int) := by omega
      have hkc : (k : Int) ≤ (lc : Int) := by omega
      obtain ⟨b, off, rfl, q0, q1⟩ := (Hl.out.below hb).cellsT hlt
      have hal := below_alloc wr (.cells #[.int .i64 (f k), .int .i64 (g k)] 35)
      have HX1 := hideT (HX.out.below hal)
      have HV := hideT (Box2.new wr (.int .i64 (f k)) (.int .i64 (g k)) 35)
      have hb1 := below_next hb hal
      have hz1 : w.heap.size < wr.heap.size := HX.out.1.lt
      have hz2 : (wr.alloc (.cells #[.int .i64 (f k), .int .i64 (g k)] 35)).heap.size = wr.heap.size + 1 := World.size_alloc _ _
      go_upto_region 4 with fail
      generalize wr.alloc (.cells #[.int .i64 (f k), .int .i64 (g k)] 35) = wx at HX1 HV hb1 hz2 ⊢
      clear q0 q1 hal HX
      have Htk := hideT ((Hl.out.below hb1).take (m := k) (c' := lc) (by omega) (by omega))
      obtain ⟨⟨x0, x1⟩, ⟨x2, x3⟩⟩ := HX1.out
      obtain ⟨⟨y0, y1⟩, ⟨y2, y3⟩⟩ := HV.out
      by_cases hh : HasP k f g (f k) (g k)
      · have HH := hideT hh
        clear hh
        first
          | (go_region_with (first
              | (go_at_call 99
                 refine (containsPtr_any _ k lo' hi' f g (f k) (g k) _ ?_).mono ?_
                 (first | exact Htk.out | exact Htk.out.below (Below.refl _ _).drew)
                 rintro e w2 ⟨⟨t2, rfl, ht2⟩, hb2⟩
                 obtain rfl : t2 = true := ht2.2 HH.out
                 clear ht2
                 have hC2 : Below wx.heap.size wx w2 := (by first | exact hb2 | exact below_undrew hb2)
                 obtain ⟨⟨k0, _⟩, ⟨k1, _⟩⟩ := HX1.out.below hC2
                 obtain ⟨⟨k2, _⟩, ⟨k3, _⟩⟩ := HV.out.below hC2)))
          | fail
        all_goals
          have hB2 := below_next hb1 hC2
          go_wp2
          go_ret
          exact ⟨BoolIs.no fun h => (h k hlt).1 HH.out, hB2⟩
      · have HH := hideT hh
        clear hh
        go_region_held3 (fun w' => w'.cell? ⟨w.heap.size, 0, none⟩ = some (.slice a p.n c) ∧ w'.cell? ⟨w.heap.size, 1, none⟩ = some (.slice a' p.hn c') ∧ w'.cell? ⟨wr.heap.size, 0, none⟩ = some (.int .i64 (f k)) ∧ w'.cell? ⟨wr.heap.size, 1, none⟩ = some (.int .i64 (g k))) (go_keep)
          (first
            | (go_at_call 99
               refine (containsPtr_any _ k lo' hi' f g (f k) (g k) _ ?_).mono ?_
               (first | exact Htk.out | exact Htk.out.below (Below.refl _ _).drew)
               rintro e w2 ⟨⟨t2, rfl, ht2⟩, hb2⟩
               obtain rfl : t2 = false := bool_no ht2 HH.out
               clear ht2
               have hC2 : Below wx.heap.size wx w2 := (by first | exact hb2 | exact below_undrew hb2)
               obtain ⟨⟨k0, _⟩, ⟨k1, _⟩⟩ := HX1.out.below hC2
               obtain ⟨⟨k2, _⟩, ⟨k3, _⟩⟩ := HV.out.below hC2)
            | (go_at_call 61
               refine (contains_any _ p.hn lo hi p.h (f k) _ ?_).mono ?_
               exact (Hp.out.2.below (below_next hb1 hC2))
               rintro e w3 ⟨⟨t3, rfl, ht3⟩, rfl⟩))
        have hB2 := below_next hb1 hC2
        have HX2 := hideT (HX1.out.below hC2)
        have HT3 := hideT ht3
        clear ht3 hC2 hb2 x0 x1 x2 x3 y0 y1 y2 y3 k0 k1 k2 k3
        cases t3
        · go_wp2
          go_roundw
          case rel => exact ⟨k + 1, by omega, by go_num, relNext (n := n) hlt Hall.out ⟨HH.out, fun h => absurd (HT3.out.2 h) (by simp)⟩, HX2.out, hB2⟩
          case measure => simp [intOf]; omega
        · go_wp2
          go_ret
          exact ⟨BoolIs.no fun h => (h k hlt).2 (HT3.out.1 trivial), hB2⟩
    · obtain rfl : k = n := by omega
      go_wp2
      go_ret
      exact ⟨BoolIs.yes Hall.out, hb⟩

/-- A row of pointers, to read. -/
theorem row_ptrs {w : World} {base : Nat} {v : Value} {l : List (Int × Int)} (hm : l.length ≤ maxLen) (h : w.ownsRow base 35 2 v l.length (pcl l)) : PtrsAt w 0 w.heap.size v l.length (fun i => (l.getD i (0, 0)).1) (fun i => (l.getD i (0, 0)).2) := by
  by_cases h0 : 0 < l.length
  · obtain ⟨g, cap, rfl, hcp, hb, hlt, hcell⟩ := owns_cell h h0
    refine ⟨hm, _, cap, rfl, hcp, fun _ => ⟨g, 0, rfl, Nat.zero_le _, hlt, fun i hi => ?_⟩⟩
    have get : ∀ (l : List (Int × Int)) i, i < l.length → (pcl l)[i * 2]? = some (.int .i64 (l.getD i (0, 0)).1) ∧ (pcl l)[i * 2 + 1]? = some (.int .i64 (l.getD i (0, 0)).2) := by
      intro l
      induction l with
      | nil => intro i hi; simp at hi
      | cons x l ih =>
        intro i hi
        cases i with
        | zero => exact ⟨rfl, rfl⟩
        | succ i =>
          have := ih i (by simpa using hi)
          rw [show (i + 1) * 2 = i * 2 + 1 + 1 by omega]
          simpa [pcl] using this
    rw [Nat.zero_add]
    exact ⟨(hcell _ _ (get l i hi).1).1, (hcell _ _ (get l i hi).2).1⟩
  · obtain ⟨a, cap, rfl, hcp⟩ := owns_form h
    exact ⟨hm, a, cap, rfl, hcp, fun h => absurd h h0⟩

theorem apart_list (p : PoolD) (l : List (Int × Int)) : ApartF p l.length (fun i => (l.getD i (0, 0)).1) (fun i => (l.getD i (0, 0)).2) ↔ Apart p l := by
  have getE : ∀ i (h : i < l.length), l.getD i (0, 0) = l[i] := fun i h => by rw [List.getD_eq_getElem?_getD, List.getElem?_eq_getElem h, Option.getD_some]
  constructor
  · intro h
    refine ⟨?_, fun x hx => ?_⟩
    · rw [List.Nodup, List.pairwise_iff_getElem]
      intro i j hi hj hij e
      refine (h j hj).1 ⟨i, hij, ?_, ?_⟩
      · show (l.getD i (0, 0)).1 = (l.getD j (0, 0)).1
        rw [getE i hi, getE j hj, e]
      · show (l.getD i (0, 0)).2 = (l.getD j (0, 0)).2
        rw [getE i hi, getE j hj, e]
    · obtain ⟨i, hi, rfl⟩ := List.getElem_of_mem hx
      have := (h i hi).2
      simp only [getE i hi] at this
      exact this
  · rintro ⟨h1, h2⟩ i hi
    refine ⟨?_, ?_⟩
    · rintro ⟨j, hj, e1, e2⟩
      simp only [getE i hi, getE j (by omega)] at e1 e2
      rw [List.Nodup, List.pairwise_iff_getElem] at h1
      exact h1 j i (by omega) hi hj (Prod.ext e1 e2)
    · simp only [getE i hi]
      exact h2 _ (List.getElem_mem hi)

end Go.Proofs.Ytiijnmpenljniad
