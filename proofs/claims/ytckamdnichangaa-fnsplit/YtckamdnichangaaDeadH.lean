/- What spec.DrawSplit and spec.DrawPtrsSame leave: new rows of pointers. -/
import Derived.Test.YtckamdnichangaaDeadG
namespace Go.Proofs.Ytckamdnichangaa
open Go.RowKit
set_option linter.unusedVariables false

theorem DrawnL.form {w w' : World} {B : Nat} {v : Value} {l : List (Int × Int)} (h : DrawnL w w' B v l) : ∃ a c, v = .slice a l.length c := by
  obtain ⟨a, c, e, _⟩ := owns_form h.row
  exact ⟨a, c, e⟩
/-- Since w, of which the source came later: all that was there is as it was. -/
theorem below_src {w w1 w2 : World} {B : Nat} (h : Below w.heap.size w w1) (t : Turned (fun k => k = B) w1 w2) (hB : w.heap.size ≤ B) : Below w.heap.size w w2 := h.trans (t.below h.size (fun k hk => hk ▸ hB))

set_option maxRecDepth 20000 in
set_option maxHeartbeats 1000000 in
theorem drawSplit_any (a : Option Addr) (n c : Nat) (w : World) (hb : BytesAt w w.heap.size a n) (hn : n ≤ 1048576) (hnc : n ≤ c) :
    Calls Try.prog 32 #[.slice a n c] w fun e w' => ∃ v l t, e = .returned (.tuple #[v, .int .i64 t]) ∧ l.length ≤ 13 ∧ RowL w' w.heap.size v l ∧ Below w.heap.size w w' := by
  have Hb := hideD hb
  clear hb
  go_enter Try.func32, Try.ntmps32
  go_wp2_with fail
  refine (source_any a n c w Hb.out hn hnc).mono ?_
  rintro e w1 ⟨⟨B, rfl, hs1, hB⟩, hb1⟩
  have Hs1 := hideD hs1
  clear hs1
  go_wp2_with fail
  refine (l03Ptrs_any B _ Hs1.out).mono ?_
  rintro e w2 ⟨v, l, rfl, hl, hd⟩
  obtain ⟨va, vc, rfl⟩ := hd.form
  have HD := hideD hd
  have hB1 : B < w1.heap.size := Hs1.out.lt
  clear hd Hs1
  go_wp2_with fail
  refine (one_any B 10 _ HD.out.src (by omega)).mono ?_
  rintro e w3 ⟨⟨t, rfl⟩, hs, ht⟩
  have HD3 := hideD (HD.out.next hB1 hs ht)
  clear hs ht HD
  cases t with
  | true =>
    go_wp2_with fail
    refine (edge_any B _ HD3.out.src).mono ?_
    rintro e w4 ⟨⟨r, rfl⟩, hs, ht⟩
    have HD4 := hideD (HD3.out.next hB1 hs ht)
    clear hs ht HD3
    go_wp2
    go_ret2
    exact ⟨_, l, r, rfl, hl, HD4.out.row.mono hb1.size, below_src hb1 HD4.out.turn hB⟩
  | false =>
    go_wp2_with fail
    refine (n_any B 11 _ HD3.out.src (by omega)).mono ?_
    rintro e w4 ⟨⟨r, rfl, _, _⟩, hs, ht⟩
    have HD4 := hideD (HD3.out.next hB1 hs ht)
    clear hs ht HD3
    go_wp2
    go_ret2
    exact ⟨_, l, r, rfl, hl, HD4.out.row.mono hb1.size, below_src hb1 HD4.out.turn hB⟩

set_option maxRecDepth 20000 in
set_option maxHeartbeats 2000000 in
theorem drawPtrsSame_any (a : Option Addr) (n c : Nat) (w : World) (hb : BytesAt w w.heap.size a n) (hn : n ≤ 1048576) (hnc : n ≤ c) :
    Calls Try.prog 34 #[.slice a n c] w fun e w' => ∃ v v' l l', e = .returned (.tuple #[v, v']) ∧ l.length ≤ 13 ∧ l'.length ≤ 13 ∧ RowL w' w.heap.size v l ∧ RowL w' w.heap.size v' l' ∧ Below w.heap.size w w' := by
  have Hb := hideD hb
  clear hb
  obtain ⟨i0, hi0, hzz⟩ := Option.map_eq_some_iff.1 infoPtrL
  simp only [Prod.mk.injEq] at hzz
  have HI := hideD (And.intro hi0 hzz)
  clear hi0 hzz
  go_enter Try.func34, Try.ntmps34
  go_wp2_with fail
  refine (source_any a n c w Hb.out hn hnc).mono ?_
  rintro e w1 ⟨⟨B, rfl, hs1, hB⟩, hb1⟩
  have Hs1 := hideD hs1
  clear hs1
  go_wp2_with fail
  refine (l03Ptrs_any B _ Hs1.out).mono ?_
  rintro e w2 ⟨v, l, rfl, hl, hd⟩
  obtain ⟨va, vc, rfl⟩ := hd.form
  have HD := hideD hd
  have hB1 : B < w1.heap.size := Hs1.out.lt
  clear hd Hs1
  go_wp2_with fail
  refine (one_any B 2 _ HD.out.src (by omega)).mono ?_
  rintro e w3 ⟨⟨t, rfl⟩, hs, ht⟩
  have HD3 := hideD (HD.out.next hB1 hs ht)
  clear hs ht HD
  cases t with
  | false =>
    go_wp2_with fail
    refine (l03Ptrs_any B _ HD3.out.src).mono ?_
    rintro e w4 ⟨v4, l4, rfl, hl4, hd4⟩
    obtain ⟨va4, vc4, rfl⟩ := hd4.form
    have HD4 := hideD (HD3.out.next hB1 hd4.src hd4.turn)
    have Hd4 := hideD hd4
    have hz3 := HD3.out.turn.size
    clear hd4 HD3
    go_wp2
    go_ret2
    exact ⟨_, _, l, l4, rfl, hl, hl4, HD4.out.row.mono hb1.size, Hd4.out.row.mono (Nat.le_trans hb1.size hz3), below_src hb1 HD4.out.turn hB⟩
  | true =>
    have hz3 := HD3.out.turn.size
    have hBw := below_src hb1 HD3.out.turn hB
    have Hrow := hideD (HD3.out.row.mono hb1.size)
    have ha := below_alloc w3 (.cells #[] 33)
    have Hst := hideD (show RowL (w3.alloc (.cells #[] 33)) w3.heap.size (.slice (some ⟨w3.heap.size, 0, none⟩) 0 0) [] from World.ownsRow_lit (e := 33) (size := 2) w3 #[] 0 (Nat.le_refl _) (by unfold maxLen; omega) rfl)
    have Hst2 := hideD (Hrow.out.below ha)
    have Hblt := hideD (fun q (hq : (Value.slice va l.length vc).ownBlock = some q) => (Hrow.out.lt hq).2)
    have hBa := below_next hBw ha
    clear HD3 ha
    have hl' : (l.length : Int) ≤ 13 := by omega
    go_wp2
    go_loopw [6, 7] (fun v i wr => ∃ (k : Nat) (l' : List (Int × Int)) (a' : Option Addr) (c' : Nat), l'.length + k = l.length ∧ i = .int .i64 ((k : Int) - 1) ∧ v = .slice a' l'.length c' ∧ RowL wr w3.heap.size v l' ∧ RowL wr w.heap.size (.slice va l.length vc) l ∧ Below w.heap.size w wr ∧ w3.heap.size ≤ wr.heap.size) (fun _ i _ => (intOf i + 1).toNat)
    case atStart => exact ⟨l.length, [], _, _, by simp, rfl, rfl, Hst.out, Hst2.out, hBa, by rw [World.size_alloc]; omega⟩
    case round =>
      obtain ⟨k, l', a', c', hkl, rfl, rfl, hr1, hr2, hbr, hzr⟩ := hrel
      have Hr1 := hideD hr1
      have Hr2 := hideD hr2
      clear hr1 hr2 Hst Hst2 Hrow
      by_cases hk0 : 0 < k
      · obtain ⟨j, rfl⟩ : ∃ j, k = j + 1 := ⟨k - 1, by omega⟩
        have ej : ((j + 1 : Nat) : Int) - 1 = (j : Int) := by omega
        rw [ej]
        have hj0 : ¬ (j : Int) < 0 := by omega
        have hjl : (j : Int) < (l.length : Int) := by omega
        obtain ⟨b, rfl, _, _, hnn, hc⟩ := Hr2.out.cells (by omega)
        obtain ⟨q0, q1⟩ := hc _ _ (pcl_get l j (by omega)).1
        obtain ⟨q2, q3⟩ := hc _ _ (pcl_get l j (by omega)).2
        clear hc hnn
        generalize (l.getD j (0, 0)).1 = x at q0
        generalize (l.getD j (0, 0)).2 = y at q2
        have hba := below_alloc wr (.cells #[.int .i64 x, .int .i64 y] 33)
        have Hr3 := hideD (Hr1.out.below hba)
        have Hr4 := hideD (Hr2.out.below hba)
        have hb3 := below_next hbr hba
        have hz4 : (wr.alloc (.cells #[.int .i64 x, .int .i64 y] 33)).heap.size = wr.heap.size + 1 := World.size_alloc _ _
        have HN := hideD (World.news_of_block (heap_alloc_last wr (.cells #[.int .i64 x, .int .i64 y] 33)))
        clear hba
        go_wp2_with (first
          | (at_builtin; refine wpList_append_lies _ rfl _ _ 27 rfl w3.heap.size 33 i0 (.agg #[.int .i64 0, .int .i64 0]) 2 16 (by kernel_rfl) HI.out.1 HI.out.2.1 HI.out.2.2.1 HI.out.2.2.2 rfl (by decide) _ _ _ rfl Hr3.out ⟨wr.heap.size, 0, none⟩ 1 1 [.int .i64 x, .int .i64 y] rfl rfl HN.out (by simp [Value.oneCell']) (by decide) (by unfold maxLen; omega) (by omega) (by omega) _ rfl ?_; intro g' cap' w4 hown4 hgrow4 hat4 hlt4)
          | go_in)
        go_roundw
        case rel =>
          refine ⟨j, l' ++ [(x, y)], some ⟨g', 0, none⟩, cap', by simp; omega, by go_num, by rw [List.length_append]; rfl, ?_, Hr4.out.turned hgrow4 (fun q hq e => by have := Hblt.out q hq; have := (Hr3.out.lt e).1; omega), hb3.grown hgrow4 hb3.size (fun q hq => by have := (Hr3.out.lt hq).1; have := hBw.size; omega), by have := hgrow4.size; omega⟩
          unfold RowL
          rw [pcl_append, List.length_append]
          exact hown4
        case measure => simp [intOf]
      · obtain rfl : k = 0 := by omega
        go_wp2
        go_ret2
        exact ⟨_, _, l, l', rfl, hl, by omega, Hr2.out, Hr1.out.mono hBw.size, hbr⟩

end Go.Proofs.Ytckamdnichangaa
