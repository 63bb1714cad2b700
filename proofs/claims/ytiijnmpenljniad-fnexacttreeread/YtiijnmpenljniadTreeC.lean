/- What impl.ptrsBelow leaves: a new row of pointers, of a page, a node and a root. -/
import Derived.Test.YtiijnmpenljniadTreeB
import Derived.Test.YtiijnmpenljniadCopy
import Derived.Test.YtiijnmpenljniadPcl
namespace Go.Proofs.Ytiijnmpenljniad
open Go.RowKit
set_option linter.unusedVariables false

/-- The answer is a new row that holds these pointers. -/
def NewRow (l : List (Int × Int)) (w : World) (e : Ending) (w' : World) : Prop := ∃ v, e = .returned v ∧ w'.ownsRow w.heap.size 35 2 v l.length (pcl l) ∧ Below w.heap.size w w'

/-- What is below the first k Kids. -/
def catUp (F : Int → Int → List (Int × Int)) (s : SlotD) : Nat → List (Int × Int)
  | 0 => []
  | k + 1 => catUp F s k ++ F (kidS s k) (kidB s k)
theorem catUp_one (s : SlotD) : ∀ k, catUp one s k = kidsUp (kidS s) (kidB s) k
  | 0 => rfl
  | k + 1 => by rw [catUp, kidsUp, catUp_one s k]
theorem catUp_mid (p : PoolD) (s : SlotD) : ∀ k, catUp (midL p) s k = subUp p s k
  | 0 => rfl
  | k + 1 => by rw [catUp, subUp, catUp_mid p s k]
theorem catUp_len {F : Int → Int → List (Int × Int)} (hF : ∀ a b, (F a b).length ≤ 9) (s : SlotD) : ∀ k, (catUp F s k).length ≤ 9 * k
  | 0 => Nat.le_refl _
  | k + 1 => by
    have := catUp_len hF s k
    have := hF (kidS s k) (kidB s k)
    rw [catUp, List.length_append]
    omega
def stepL (p : PoolD) (F : Int → Int → List (Int × Int)) (xs xb : Int) : List (Int × Int) := if Nil xs xb then [] else (xs, xb) :: catUp F (p.s xs.toNat) 8

def PtrsAtL (p : PoolD) (L : Int) (F : Int → Int → List (Int × Int)) : Prop := ∀ (v : Value) (lo hi : Nat) (xs xb : Int) (w : World), SlotsAt w lo hi v p.n p.s → (Nil xs xb ∨ Points p xs xb) →
  Calls Try.prog 93 #[v, .agg #[.int .i64 xs, .int .i64 xb], .int .i64 L] w (NewRow (F xs xb) w)

/-- A row of pointers is no array of Kids. -/
theorem row_not_arr {w : World} {base n K : Nat} {v : Value} {xs : List Value} {cs : Array Value} (h : w.ownsRow base 35 2 v n xs) (hK : w.heap[K]? = some (.cells cs 92 (0, 0))) : v.ownBlock ≠ some K := by
  intro e
  rcases h.2 with ⟨rfl, _⟩ | ⟨g, cap, cur, rfl, _, hg, _⟩
  · simp [Value.ownBlock] at e
  · simp only [Value.ownBlock, Option.some.injEq] at e
    subst e
    rw [hK] at hg
    simp only [Option.some.injEq, Obj.cells.injEq] at hg
    exact absurd hg.2.1 (by decide)

theorem not_nil_bool {xs xb : Int} (h : ¬ Nil xs xb) : (xs == 0) = false ∨ (xs == 0) = true ∧ (xb == 0) = false := by
  by_cases h0 : xs = 0
  · right
    refine ⟨by simp [h0], ?_⟩
    have : xb ≠ 0 := fun h' => h ⟨h0, h'⟩
    simp [this]
  · left; simp [h0]

set_option maxRecDepth 20000 in
set_option maxHeartbeats 1000000 in
theorem ptrs2_any (p : PoolD) : PtrsAtL p 2 one := by
  intro v lo hi xs xb w hs hP
  obtain ⟨_, a, c, rfl, _⟩ := id hs
  have ha := below_alloc w (.cells #[.int .i64 xs, .int .i64 xb] 35)
  obtain ⟨⟨x0, x1⟩, ⟨x2, x3⟩⟩ := Box2.new w (.int .i64 xs) (.int .i64 xb) 35
  have hlit := World.ownsRow_lit (e := 35) (size := 2) (base := w.heap.size) (w.alloc (.cells #[.int .i64 xs, .int .i64 xb] 35)) #[.int .i64 xs, .int .i64 xb] 1 (by simp) (by unfold maxLen; omega) rfl
  rw [World.size_alloc] at hlit
  have Hlit := hideT hlit
  have HB := hideT (below_next ha (below_alloc _ (.cells #[.int .i64 xs, .int .i64 xb] 35)))
  clear hlit
  by_cases hn : Nil xs xb
  · have HN := hideT hn
    obtain ⟨rfl, rfl⟩ := hn
    go_enter Try.func93, Try.ntmps93
    go_wp2
    go_ret
    exact ⟨_, rfl, by rw [show one 0 0 = [] from if_pos HN.out]; exact World.ownsRow_nil _ _ _ _, ha⟩
  · have HN := hideT hn
    have e0 := not_nil_bool hn
    clear hn
    rcases e0 with e0 | ⟨e0, e1⟩
    all_goals
      go_enter Try.func93, Try.ntmps93
      go_wp2
      go_ret
      exact ⟨_, rfl, by rw [show one xs xb = [(xs, xb)] from if_neg HN.out]; exact Hlit.out, HB.out⟩

set_option maxRecDepth 20000 in
set_option maxHeartbeats 2000000 in
theorem ptrs_step (p : PoolD) (L : Int) (F : Int → Int → List (Int × Int)) (hR : Right p) (hL : 0 ≤ L ∧ L < 2) (hF : ∀ a b, (F a b).length ≤ 9) (hlow : PtrsAtL p (L + 1) F) : PtrsAtL p L (stepL p F) := by
  intro v lo hi xs xb w hs hP
  have Hs := hideT hs
  obtain ⟨_, a, c, rfl, _⟩ := id hs
  have ha := below_alloc w (.cells #[.int .i64 xs, .int .i64 xb] 35)
  obtain ⟨⟨x0, x1⟩, ⟨x2, x3⟩⟩ := Box2.new w (.int .i64 xs) (.int .i64 xb) 35
  have hL2 : (L == 2) = false := by simp; omega
  clear hs
  by_cases hn : Nil xs xb
  · have HN := hideT hn
    obtain ⟨rfl, rfl⟩ := hn
    go_enter Try.func93, Try.ntmps93
    go_wp2
    go_ret
    exact ⟨_, rfl, by rw [show stepL p F 0 0 = [] from if_pos HN.out]; exact World.ownsRow_nil _ _ _ _, ha⟩
  · have HN := hideT hn
    have e0 := not_nil_bool hn
    have hPt : Points p xs xb := hP.resolve_left hn
    have Hf := hideT (points_fits hR hPt)
    have Hlow := hideT hlow
    have HF := hideT hF
    obtain ⟨k, rfl⟩ := Int.eq_ofNat_of_zero_le hPt.2.1
    rw [Int.toNat_natCast] at Hf
    have hk : k < p.n := by have := hPt.2.2.1; omega
    have hk' : (k : Int) < (p.n : Int) := by omega
    clear hn hP hPt hlow hR hF
    have hlit := World.ownsRow_lit (e := 35) (size := 2) (base := w.heap.size + 1) (w.alloc (.cells #[.int .i64 (k : Int), .int .i64 xb] 35)) #[.int .i64 (k : Int), .int .i64 xb] 1 (by simp) (by unfold maxLen; omega) rfl
    rw [World.size_alloc] at hlit
    have Hlit := hideT hlit
    have ha2 := below_alloc (w.alloc (.cells #[.int .i64 (k : Int), .int .i64 xb] 35)) (.cells #[.int .i64 (k : Int), .int .i64 xb] 35)
    have hB2 := below_next ha ha2
    have hxb := (Box2.new w (.int .i64 (k : Int)) (.int .i64 xb) 35).below ha2
    clear x0 x1 x2 x3 hlit ha ha2
    obtain ⟨⟨x0, x1⟩, ⟨x2, x3⟩⟩ := hxb
    obtain ⟨b, off, ka, kc, rfl, hsc⟩ := (Hs.out.below hB2).cells hk
    have HC := hideT hsc
    obtain ⟨q0, q1, q2, _⟩ := hsc
    obtain ⟨y0, y1⟩ := (Box2.new w (.int .i64 (k : Int)) (.int .i64 xb) 35).1
    obtain ⟨y2, y3⟩ := (Box2.new w (.int .i64 (k : Int)) (.int .i64 xb) 35).2
    rcases e0 with e0 | ⟨e0, e1⟩
    all_goals
      go_enter Try.func93, Try.ntmps93
      go_wp2_with fail
      refine (kidsOf_any _ _ _ lo hi (p.s k) _ HC.out.slot (fits_kn Hf.out)).mono ?_
      rintro e w1 ⟨rfl, hb1⟩
      have hB1 := below_next hB2 hb1
      have hrow1 := Hlit.out.kept (grown_of_below hb1 none) (Or.inr (by simp [Value.ownBlock]))
      have Hi16 : Hid ((Try.prog.info? 92).map (·.size) = some (kidsA (p.s k)).size) := by
        show _ = _
        rw [kidsA, arr16_size]; exact infoArr
      have hblk : (w1.alloc (.cells (kidsA (p.s k)) 92)).heap[w1.heap.size]? = some (.cells (kidsA (p.s k)) 92 (0, 0)) := heap_alloc_last _ _
      have HK := hideT hblk
      have Hrow := hideT (hrow1.alloc (.cells (kidsA (p.s k)) 92))
      have hB3 := below_next hB1 (below_alloc w1 (.cells (kidsA (p.s k)) 92))
      have hz1 : w.heap.size + 2 ≤ w1.heap.size := by have := hb1.size; rw [World.size_alloc, World.size_alloc] at this; omega
      obtain ⟨i0, hi0, hzz⟩ := Option.map_eq_some_iff.1 infoPtrT
      simp only [Prod.mk.injEq] at hzz
      have HT := hideT (And.intro hi0 hzz)
      clear hb1 hB1 hrow1 hblk hB2 x0 x1 x2 x3 y0 y1 y2 y3 q0 q1 q2 HC Hlit hi0 hzz
      go_wp2_with (first
        | (refine wpList_store_row rfl 92 (.tmp 8) (.tmp 23) rfl w1.heap.size (kidsA (p.s k)) rfl rfl 92 #[Value.int .i64 0, Value.int .i64 0, Value.int .i64 0, Value.int .i64 0, Value.int .i64 0, Value.int .i64 0, Value.int .i64 0, Value.int .i64 0, Value.int .i64 0, Value.int .i64 0, Value.int .i64 0, Value.int .i64 0, Value.int .i64 0, Value.int .i64 0, Value.int .i64 0, Value.int .i64 0] (heap_alloc_last _ _) Hi16.out (by rw [kidsA, arr16_size]; rfl) (arr16_one _) ?_; rw [World.setRow_alloc_new]))
      go_loopw [7, 24] (fun o i wr => ∃ (j : Nat) (oa : Option Addr) (oc : Nat), j ≤ 8 ∧ i = .int .i64 j ∧ o = .slice oa (((k : Int), xb) :: catUp F (p.s k) j).length oc ∧ wr.ownsRow (w.heap.size + 1) 35 2 o (((k : Int), xb) :: catUp F (p.s k) j).length (pcl (((k : Int), xb) :: catUp F (p.s k) j)) ∧ wr.heap[w1.heap.size]? = some (.cells (kidsA (p.s k)) 92 (0, 0)) ∧ Below w.heap.size w wr) (fun _ i _ => 8 - (intOf i).toNat)
      case atStart => exact ⟨0, _, _, Nat.zero_le _, rfl, rfl, Hrow.out, HK.out, hB3⟩
      case round =>
        obtain ⟨j, oa, oc, hj, rfl, rfl, hown, hK, hb⟩ := hrel
        have Hown := hideT hown
        have HKr := hideT hK
        have hszK : w1.heap.size < wr.heap.size := (Array.getElem?_eq_some_iff.1 hK).1
        have hlen := catUp_len HF.out (p.s k) j
        clear hown hK
        by_cases hlt : j < 8
        · have hlt' : (j : Int) < 8 := by omega
          obtain ⟨y0, y1⟩ := cell_of_block (i := j * 2) HKr.out (arr16_at (kidCell (p.s k)) (by omega))
          obtain ⟨y2, y3⟩ := cell_of_block (i := j * 2 + 1) HKr.out (arr16_at (kidCell (p.s k)) (by omega))
          have Hkp : Hid (Nil (kidCell (p.s k) (j * 2)) (kidCell (p.s k) (j * 2 + 1)) ∨ Points p (kidCell (p.s k) (j * 2)) (kidCell (p.s k) (j * 2 + 1))) := by
            by_cases hn : Nil (kidS (p.s k) j) (kidB (p.s k) j)
            · exact Or.inl hn
            · exact Or.inr (kid_points Hf.out hlt hn).1
          go_wp2_with fail
          refine (Hlow.out _ lo hi (kidCell (p.s k) (j * 2)) (kidCell (p.s k) (j * 2 + 1)) _ (Hs.out.below hb) Hkp.out).mono ?_
          rintro e w2 ⟨v2, rfl, hown2, hb2⟩
          obtain ⟨na, nc, rfl, _⟩ := owns_form hown2
          have hl9 := HF.out (kidCell (p.s k) (j * 2)) (kidCell (p.s k) (j * 2 + 1))
          have Hown2 := hideT hown2
          have HownO := hideT (Hown.out.kept (grown_of_below hb2 none) (by cases hv : (Value.slice oa (((k : Int), xb) :: catUp F (p.s k) j).length oc).ownBlock <;> simp))
          have HK2 := hideT ((hb2.block _ hszK).trans HKr.out)
          have hbn := below_next hb hb2
          have hz2 := hb2.size
          clear hown2 hb2 y0 y1 y2 y3 Hown HKr
          go_wp2_with (first
            | (at_builtin; refine wpList_append_opt rfl _ _ 40 rfl (w.heap.size + 1) 35 i0 (.agg #[.int .i64 0, .int .i64 0]) 2 16 (by kernel_rfl) HT.out.1 HT.out.2.1 HT.out.2.2.1 HT.out.2.2.2 rfl (by decide) (.slice oa (((k : Int), xb) :: catUp F (p.s k) j).length oc) (((k : Int), xb) :: catUp F (p.s k) j).length (pcl (((k : Int), xb) :: catUp F (p.s k) j)) rfl ?c0 na (F (kidCell (p.s k) (j * 2)) (kidCell (p.s k) (j * 2 + 1))).length nc (pcl (F (kidCell (p.s k) (j * 2)) (kidCell (p.s k) (j * 2 + 1)))) rfl (pcl_len _) (pcl_one _) ?c1 ?c3 ?c4 ?c5 ?_))
          case c0 => exact HownO.out
          case c1 =>
            intro h0
            obtain ⟨g, cap, e, _, _, _, hcell⟩ := owns_cell Hown2.out h0
            simp only [Value.slice.injEq, true_and] at e
            exact ⟨g, 0, e.1, fun j u hj => by rw [Nat.zero_add]; exact (hcell j u hj).1⟩
          case c3 => rw [List.length_cons]; unfold maxLen; omega
          case c4 => rw [List.length_cons]; omega
          case c5 => omega
          intro v3 w3 hown3 hgrow3 _
          have hcat : ((k : Int), xb) :: catUp F (p.s k) (j + 1) = (((k : Int), xb) :: catUp F (p.s k) j) ++ F (kidCell (p.s k) (j * 2)) (kidCell (p.s k) (j * 2 + 1)) := rfl
          have hcl : (catUp F (p.s k) j).length + 1 + (F (kidCell (p.s k) (j * 2)) (kidCell (p.s k) (j * 2 + 1))).length = (((k : Int), xb) :: catUp F (p.s k) (j + 1)).length := by rw [hcat, List.length_append, List.length_cons]
          rw [← pcl_append, ← hcat, hcl] at hown3
          have HK3 := hideT ((hgrow3.block _ (by omega) (fun e => row_not_arr HownO.out HK2.out e.symm)).trans HK2.out)
          have hB4 := hbn.grown hgrow3 hbn.size (fun q hq => by have := HownO.out.lt q hq; omega)
          obtain ⟨oa3, oc3, rfl, _⟩ := owns_form hown3
          have Hown3 := hideT hown3
          clear hown3 hgrow3 hcat hcl
          go_wp2
          go_roundw
          case rel => exact ⟨j + 1, oa3, oc3, by omega, by go_num, rfl, Hown3.out, HK3.out, hB4⟩
          case measure => simp [intOf]; omega
        · obtain rfl : j = 8 := by omega
          go_wp2
          go_ret
          refine ⟨_, rfl, ?_, hb⟩
          rw [show stepL p F (k : Int) xb = ((k : Int), xb) :: catUp F (p.s k) 8 by unfold stepL; rw [if_neg HN.out, Int.toNat_natCast]]
          exact own_base Hown.out (by omega)

theorem ptrs1_any (p : PoolD) (hR : Right p) : PtrsAtL p 1 (midL p) := by
  have h := ptrs_step p 1 one hR (by omega) (fun a b => by unfold one; split <;> simp) (ptrs2_any p)
  have e : stepL p one = midL p := by
    funext xs xb
    unfold stepL midL lowL
    rw [catUp_one]
  rw [e] at h
  exact h
theorem ptrs0_any (p : PoolD) (hR : Right p) : PtrsAtL p 0 (treeL p) := by
  have h := ptrs_step p 0 (midL p) hR (by omega) (midL_len p) (ptrs1_any p hR)
  have e : stepL p (midL p) = treeL p := by
    funext xs xb
    unfold stepL treeL
    rw [catUp_mid]
  rw [e] at h
  exact h

end Go.Proofs.Ytiijnmpenljniad
