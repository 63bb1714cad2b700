/- What (*spec.l01Src).l03Ptrs, spec.DrawSplit and spec.DrawPtrsSame leave: new rows of pointers. -/
import Derived.Test.YtckamdnichangaaDeadD
import Derived.Test.YtckamdnichangaaCopy
import Derived.Test.YtckamdnichangaaDraw5
namespace Go.Proofs.Ytckamdnichangaa
open Go.RowKit
set_option linter.unusedVariables false

theorem grown_turned {w w' : World} {row : Option Nat} (h : w.grownBy w' row) : Turned (fun k => row = some k) w w' := ⟨h.os, h.tape, h.output, h.size, fun k hk hne => h.block k hk (fun e => hne e.symm)⟩
theorem RowL.turn {w w' : World} {base B : Nat} {v : Value} {l : List (Int × Int)} (h : RowL w base v l) (t : Turned (fun k => k = B) w w') (hB : B < base) : RowL w' base v l := by
  refine ⟨h.1, h.2.imp id ?_⟩
  rintro ⟨g, cap, cur, e, h1, h2, h3⟩
  exact ⟨g, cap, cur, e, h1, (t.block g (Array.getElem?_eq_some_iff.1 h2).1 (by omega)).trans h2, h3⟩

/-- A row that is drawn since w, by the source in B. -/
structure DrawnL (w w' : World) (B : Nat) (v : Value) (l : List (Int × Int)) : Prop where
  row : RowL w' w.heap.size v l
  src : Src w' B
  turn : Turned (fun k => k = B) w w'

theorem DrawnL.next {w w1 w2 : World} {B : Nat} {v : Value} {l : List (Int × Int)} (h : DrawnL w w1 B v l) (hB : B < w.heap.size) (hs : Src w2 B) (t : Turned (fun k => k = B) w1 w2) : DrawnL w w2 B v l :=
  ⟨h.row.turn t hB, hs, h.turn.trans t⟩
theorem DrawnL.below {w w1 w2 : World} {B : Nat} {v : Value} {l : List (Int × Int)} (h : DrawnL w w1 B v l) (hb : Below w1.heap.size w1 w2) : DrawnL w w2 B v l :=
  ⟨h.row.below hb, h.src.below hb, h.turn.trans (Turned.of_below hb)⟩
theorem turned_grownL {w w1 w2 : World} {B : Nat} {row : Option Nat} (h : Turned (fun k => k = B) w w1) (hg : w1.grownBy w2 row) (hr : ∀ q, row = some q → w.heap.size ≤ q) : Turned (fun k => k = B) w w2 :=
  ⟨hg.os.trans h.os, hg.tape.trans h.tape, hg.output.trans h.output, Nat.le_trans h.size hg.size, fun k hk hne => (hg.block k (Nat.lt_of_lt_of_le hk h.size) (fun e => by have := hr k e.symm; omega)).trans (h.block k hk hne)⟩
theorem src_grown {w1 w2 : World} {B : Nat} {row : Option Nat} (h : Src w1 B) (hg : w1.grownBy w2 row) (hr : ∀ q, row = some q → B < q) : Src w2 B := h.turned (grown_turned hg) hr

theorem RowL.cells {w : World} {base : Nat} {a : Option Addr} {n c : Nat} {l : List (Int × Int)} (h : RowL w base (.slice a n c) l) (h0 : 0 < l.length) : ∃ b, a = some ⟨b, 0, none⟩ ∧ base ≤ b ∧ b < w.heap.size ∧ n = l.length ∧ ∀ j u, (pcl l)[j]? = some u → Cell w b j u := by
  obtain ⟨b, cap, e, _, hb, hlt, hcell⟩ := owns_cell h h0
  simp only [Value.slice.injEq] at e
  exact ⟨b, e.1, hb, hlt, e.2.1, hcell⟩

/-- The first one's slot, or birth, is another. -/
theorem RowL.first {w : World} {base b c : Nat} {n : Nat} {x y : Int} {l : List (Int × Int)} (h : RowL w base (.slice (some ⟨b, 0, none⟩) n c) ((x, y) :: l)) (hn : n = l.length + 1) (z : Int) :
    RowL (w.setCell ⟨b, 0, none⟩ (.int .i64 z)) base (.slice (some ⟨b, 0, none⟩) n c) ((z, y) :: l) ∧ RowL (w.setCell ⟨b, 1, none⟩ (.int .i64 z)) base (.slice (some ⟨b, 0, none⟩) n c) ((x, z) :: l) := by
  subst hn
  exact ⟨(World.ownsRow.stored h 0 (.int .i64 z)).1, (World.ownsRow.stored h 1 (.int .i64 z)).1⟩

theorem three_at (a b c : Int) {k : Nat} (h : k < 3) : ∃ y : Int, #[Value.int .i64 a, .int .i64 b, .int .i64 c][k]? = some (.int .i64 y) := by
  rcases k with _ | _ | _ | k
  all_goals first | exact ⟨_, rfl⟩ | omega

set_option maxRecDepth 20000 in
set_option maxHeartbeats 4000000 in
theorem l03Ptrs_any (B : Nat) (w : World) (h : Src w B) :
    Calls Try.prog 86 #[.pointer (some ⟨B, 0, none⟩)] w fun e w' => ∃ v l, e = .returned v ∧ l.length ≤ 13 ∧ DrawnL w w' B v l := by
  have hB := h.lt
  obtain ⟨i0, hi0, hzz⟩ := Option.map_eq_some_iff.1 infoPtrL
  simp only [Prod.mk.injEq] at hzz
  have HI := hideD (And.intro hi0 hzz)
  clear hi0 hzz
  have ha := below_alloc w (.cells #[] 33)
  have hst : DrawnL w (w.alloc (.cells #[] 33)) B (.slice (some ⟨w.heap.size, 0, none⟩) 0 0) [] := ⟨World.ownsRow_lit (e := 33) (size := 2) w #[] 0 (Nat.le_refl _) (by unfold maxLen; omega) rfl, h.below ha, Turned.of_below ha⟩
  have Hst := hideD hst
  clear hst ha h
  go_enter Try.func86, Try.ntmps86
  go_wp2
  go_loopw [3, 4] (fun v i wr => ∃ (k : Nat) (l : List (Int × Int)) (a : Option Addr) (c : Nat), k ≤ 12 ∧ i = .int .i64 k ∧ l.length ≤ k ∧ v = .slice a l.length c ∧ DrawnL w wr B v l) (fun _ i _ => 12 - (intOf i).toNat)
  case atStart => exact ⟨0, [], _, _, Nat.zero_le _, rfl, Nat.le_refl _, rfl, Hst.out⟩
  case round =>
    obtain ⟨k, l, a, c, hk, rfl, hl, rfl, hd⟩ := hrel
    have HD := hideD hd
    have hzr := hd.turn.size
    clear hd Hst
    by_cases hlt : k < 12
    · have hlt' : (k : Int) < 12 := by omega
      go_wp2_with fail
      refine (one_any B 2 _ HD.out.src (by omega)).mono ?_
      rintro e w1 ⟨⟨t, rfl⟩, hs, ht⟩
      have HD1 := hideD (HD.out.next hB hs ht)
      have hz1 := ht.size
      clear hs ht HD
      cases t with
      | true =>
        go_wp2_with fail
        refine (n_any B 9 _ HD1.out.src (by omega)).mono ?_
        rintro e w2 ⟨⟨r, rfl, hr0, hr1⟩, hs, ht⟩
        have HD2 := hideD (HD1.out.next hB hs ht)
        have hz2 := ht.size
        clear hs ht HD1
        have hba := below_alloc w2 (.cells #[.int .i64 (k : Int), .int .i64 (1 + r)] 33)
        have HD3 := hideD (HD2.out.below hba)
        have hz3 : (w2.alloc (.cells #[.int .i64 (k : Int), .int .i64 (1 + r)] 33)).heap.size = w2.heap.size + 1 := World.size_alloc _ _
        have hlit := World.ownsRow_lit (e := 33) (size := 2) (base := w.heap.size) w2 #[.int .i64 (k : Int), .int .i64 (1 + r)] 1 (by omega) (by unfold maxLen; omega) rfl
        have Hlit := hideD hlit
        clear hlit HD2 hba
        have h64 : wrap64 (1 + r) = 1 + r := wrap64_small (by omega) (by omega)
        go_wp2_with (first
          | (at_builtin; refine wpList_append_opt rfl _ _ 27 rfl w.heap.size 33 i0 (.agg #[.int .i64 0, .int .i64 0]) 2 16 (by kernel_rfl) HI.out.1 HI.out.2.1 HI.out.2.2.1 HI.out.2.2.2 rfl (by decide) (.slice (some ⟨w2.heap.size, 0, none⟩) 1 1) 1 [.int .i64 (k : Int), .int .i64 (1 + r)] rfl ?c0 a l.length c (pcl l) rfl (pcl_len _) (pcl_one _) ?c1 ?c3 ?c4 ?c5 ?_)
          | fail)
        case c0 => exact Hlit.out
        case c1 =>
          intro h0
          obtain ⟨b, rfl, _, _, _, hc⟩ := HD3.out.row.cells h0
          exact ⟨b, 0, rfl, fun j u hj => by rw [Nat.zero_add]; exact (hc j u hj).1⟩
        case c3 => unfold maxLen; omega
        case c4 => omega
        case c5 => omega
        intro v3 w3 hown3 hgrow3 _
        rw [show 1 + l.length = l.length + 1 by omega] at hown3
        obtain ⟨oa3, oc3, rfl, _⟩ := owns_form hown3
        have hrow3 : RowL w3 w.heap.size (.slice oa3 (l.length + 1) oc3) (((k : Int), 1 + r) :: l) := hown3
        have HD4 := hideD (show DrawnL w w3 B (.slice oa3 (l.length + 1) oc3) (((k : Int), 1 + r) :: l) from ⟨hrow3, src_grown HD3.out.src hgrow3 (fun q hq => by simp [Value.ownBlock] at hq; omega), turned_grownL HD3.out.turn hgrow3 (fun q hq => by simp [Value.ownBlock] at hq; omega)⟩)
        clear hown3 hgrow3 hrow3 HD3 Hlit
        go_wp2
        go_roundw
        case rel => exact ⟨k + 1, _, oa3, oc3, by omega, by go_num, by simp; omega, rfl, HD4.out⟩
        case measure => simp [intOf]; omega
      | false =>
        go_wp2
        go_roundw
        case rel => exact ⟨k + 1, l, a, c, by omega, by go_num, by omega, rfl, HD1.out⟩
        case measure => simp [intOf]; omega
    · obtain rfl : k = 12 := by omega
      go_wp2_with fail
      refine (one_any B 15 _ HD.out.src (by omega)).mono ?_
      rintro e w1 ⟨⟨t, rfl⟩, hs, ht⟩
      have HD1 := hideD (HD.out.next hB hs ht)
      have hz1 := ht.size
      clear hs ht HD
      cases t with
      | false =>
        go_wp2
        go_ret
        exact ⟨_, l, rfl, by omega, HD1.out⟩
      | true =>
        by_cases h0 : 0 < l.length
        · have h0' : (0 : Int) < (l.length : Int) := by omega
          obtain ⟨b, rfl, hbb, hblt, hnn, hc⟩ := HD1.out.row.cells h0
          obtain ⟨⟨x, y⟩, tl, rfl⟩ : ∃ p tl, l = p :: tl := by
            cases l with
            | nil => simp at h0
            | cons p tl => exact ⟨p, tl, rfl⟩
          have hle : tl.length + 1 ≤ 12 := by simpa using hl
          clear hc h0 hnn
          rw [List.length_cons] at h0' HD1 ⊢
          go_wp2_with fail
          refine (n_any B 3 _ HD1.out.src (by omega)).mono ?_
          rintro e w2 ⟨⟨r, rfl, hr0, hr1⟩, hs, ht⟩
          have HD2 := hideD (HD1.out.next hB hs ht)
          have hz2 := ht.size
          clear hs ht HD1
          obtain ⟨b2, e2, hbb2, hblt2, hnn, hc⟩ := HD2.out.row.cells (by simp)
          simp only [Option.some.injEq, Addr.mk.injEq, and_true] at e2
          subst e2
          obtain ⟨q0, q1⟩ := hc 0 _ rfl
          obtain ⟨q2, q3⟩ := hc 1 _ rfl
          clear hc hnn
          by_cases e0 : r = 0
          · subst e0
            have hba := below_alloc w2 (.cells #[.int .i64 x, .int .i64 y] 33)
            have HD3 := hideD (HD2.out.below hba)
            have hz3 : (w2.alloc (.cells #[.int .i64 x, .int .i64 y] 33)).heap.size = w2.heap.size + 1 := World.size_alloc _ _
            have HN := hideD (World.news_of_block (heap_alloc_last w2 (.cells #[.int .i64 x, .int .i64 y] 33)))
            clear hba
            go_wp2_with (first
              | (at_builtin; refine wpList_append_lies _ rfl _ _ 27 rfl w.heap.size 33 i0 (.agg #[.int .i64 0, .int .i64 0]) 2 16 (by kernel_rfl) HI.out.1 HI.out.2.1 HI.out.2.2.1 HI.out.2.2.2 rfl (by decide) _ _ _ rfl HD3.out.row ⟨w2.heap.size, 0, none⟩ 1 1 [.int .i64 x, .int .i64 y] rfl rfl HN.out (by simp [Value.oneCell']) (by decide) (by unfold maxLen; simp; omega) (by simp; omega) (by omega) _ rfl ?_; intro g' cap' w4 hown4 hgrow4 hat4 hlt4)
              | go_in)
            go_ret
            refine ⟨_, ((x, y) :: tl) ++ [(x, y)], rfl, by simp; omega, ?_, src_grown HD3.out.src hgrow4 (fun q hq => by have := (HD3.out.row.lt hq).1; omega), turned_grownL HD3.out.turn hgrow4 (fun q hq => (HD3.out.row.lt hq).1)⟩
            unfold RowL
            rw [pcl_append, List.length_append]
            exact hown4
          · by_cases e1 : r = 1
            · subst e1
              have ha3 := below_alloc w2 (.cells #[.int .i64 (-1), .int .i64 199, .int .i64 200] 2)
              have HD3 := hideD (HD2.out.below ha3)
              go_wp2_with fail
              refine (n_any B 3 _ HD3.out.src (by omega)).mono ?_
              rintro e w4 ⟨⟨r4, rfl, h40, h41⟩, hs, ht⟩
              have HD4 := hideD (HD3.out.next hB hs ht)
              obtain ⟨k4, rfl⟩ := Int.eq_ofNat_of_zero_le h40
              have hk4 : k4 < 3 := by omega
              have hk4' : (k4 : Int) < 3 := by omega
              obtain ⟨z, hz⟩ := three_at (-1) 199 200 hk4
              have hcz : w4.cell? ⟨w2.heap.size, k4, none⟩ = some (.int .i64 z) := ((cell_of_block (i := k4) (heap_alloc_new w2 (.cells #[.int .i64 (-1), .int .i64 199, .int .i64 200] 2)) hz).turned ht (by omega)).1
              clear hs ht HD3 HD2 ha3 hz q0 q1 q2 q3 h41
              obtain ⟨b4, e4, hbb4, hblt4, hnn, hc⟩ := HD4.out.row.cells (by simp)
              simp only [Option.some.injEq, Addr.mk.injEq, and_true] at e4
              subst e4
              obtain ⟨q0, q1⟩ := hc 0 _ rfl
              obtain ⟨q2, q3⟩ := hc 1 _ rfl
              clear hc hnn
              go_wp2
              go_ret
              exact ⟨_, (z, y) :: tl, rfl, by simp; omega, (HD4.out.row.first rfl z).1, HD4.out.src.turned (Turned.put _ _ _ _) (by omega), only_src HD4.out.turn (Turned.put _ _ _ _) (by omega)⟩
            · have e0' : (r == 0) = false := by simp [e0]
              have e1' : (r == 1) = false := by simp [e1]
              have ha3 := below_alloc w2 (.cells #[.int .i64 0, .int .i64 1000000, .int .i64 1000001] 2)
              have HD3 := hideD (HD2.out.below ha3)
              go_wp2_with fail
              refine (n_any B 3 _ HD3.out.src (by omega)).mono ?_
              rintro e w4 ⟨⟨r4, rfl, h40, h41⟩, hs, ht⟩
              have HD4 := hideD (HD3.out.next hB hs ht)
              obtain ⟨k4, rfl⟩ := Int.eq_ofNat_of_zero_le h40
              have hk4 : k4 < 3 := by omega
              have hk4' : (k4 : Int) < 3 := by omega
              obtain ⟨z, hz⟩ := three_at 0 1000000 1000001 hk4
              have hcz : w4.cell? ⟨w2.heap.size, k4, none⟩ = some (.int .i64 z) := ((cell_of_block (i := k4) (heap_alloc_new w2 (.cells #[.int .i64 0, .int .i64 1000000, .int .i64 1000001] 2)) hz).turned ht (by omega)).1
              clear hs ht HD3 HD2 ha3 hz q0 q1 q2 q3 h41
              obtain ⟨b4, e4, hbb4, hblt4, hnn, hc⟩ := HD4.out.row.cells (by simp)
              simp only [Option.some.injEq, Addr.mk.injEq, and_true] at e4
              subst e4
              obtain ⟨q0, q1⟩ := hc 0 _ rfl
              obtain ⟨q2, q3⟩ := hc 1 _ rfl
              clear hc hnn
              go_wp2
              go_ret
              exact ⟨_, (x, z) :: tl, rfl, by simp; omega, (HD4.out.row.first rfl z).2, HD4.out.src.turned (Turned.put _ _ _ _) (by omega), only_src HD4.out.turn (Turned.put _ _ _ _) (by omega)⟩
        · have h0' : ¬ (0 : Int) < (l.length : Int) := by omega
          go_wp2
          go_ret
          exact ⟨_, l, rfl, by omega, HD1.out⟩

end Go.Proofs.Ytckamdnichangaa
