/- What impl.ptrRight, impl.slotsSeen and impl.PtrsRight answer. -/
import Derived.Test.YtckamdnichangaaImplRight
import Derived.Test.YtckamdnichangaaDeadMath
namespace Go.Proofs.Ytckamdnichangaa
open Go.RowKit Go.Maps
set_option linter.unusedVariables false

theorem hideD {P : Prop} (h : P) : Hid P := h
theorem PtrsAt.cellsD {w : World} {lo hi : Nat} {a : Option Addr} {n c : Nat} {f g : Nat → Int} (h : PtrsAt w lo hi (.slice a n c) n f g) {k : Nat} (hk : k < n) : ∃ b off, a = some ⟨b, off, none⟩ ∧ w.cell? ⟨b, off + k * 2, none⟩ = some (.int .i64 (f k)) ∧ w.cell? ⟨b, off + k * 2 + 1, none⟩ = some (.int .i64 (g k)) := by
  obtain ⟨_, a2, c2, hv, _, hx⟩ := h
  simp only [Value.slice.injEq, true_and] at hv
  obtain ⟨rfl, rfl⟩ := hv
  obtain ⟨b, off, ha, _, _, h3⟩ := hx (by omega)
  exact ⟨b, off, ha, (h3 k hk).1, (h3 k hk).2⟩

set_option maxRecDepth 20000 in
set_option maxHeartbeats 400000 in
theorem ptrRight_any (x y : Int) (w : World) : Calls Try.prog 91 #[.agg #[.int .i64 x, .int .i64 y]] w fun e w' => BoolIs (PtrOk x y) e ∧ Below w.heap.size w w' := by
  have hbw := below_alloc w (.cells #[.int .i64 x, .int .i64 y] 33)
  by_cases h1 : 0 ≤ x
  · by_cases h2 : x < 200
    · by_cases h3 : BirthOk y
      · have H := hideD (show PtrOk x y from ⟨h1, by omega, h3.1, h3.2⟩)
        have H3 := hideD h3
        clear h3
        go_enter Try.func91, Try.ntmps91
        go_wp2_with (first | (go_at_call 109; refine (birthRight_any y _).mono ?_; rintro e w1 ⟨⟨t, rfl, ht⟩, rfl⟩; obtain rfl : t = true := ht.2 H3.out; clear ht) | fail)
        go_wp2
        go_ret
        exact ⟨BoolIs.yes H.out, hbw⟩
      · have H := hideD (show ¬ PtrOk x y from fun h => h3 ⟨h.2.2.1, h.2.2.2⟩)
        have H3 := hideD h3
        clear h3
        go_enter Try.func91, Try.ntmps91
        go_wp2_with (first | (go_at_call 109; refine (birthRight_any y _).mono ?_; rintro e w1 ⟨⟨t, rfl, ht⟩, rfl⟩; obtain rfl : t = false := bool_no ht H3.out; clear ht) | fail)
        go_wp2
        go_ret
        exact ⟨BoolIs.no H.out, hbw⟩
    · go_enter Try.func91, Try.ntmps91
      go_wp2
      go_ret
      exact ⟨BoolIs.no fun h => by have := h.2.1; omega, hbw⟩
  · go_enter Try.func91, Try.ntmps91
    go_wp2
    go_ret
    exact ⟨BoolIs.no fun h => by have := h.1; omega, hbw⟩

theorem lawK : Keyed Try.prog 2 := int_keyed (q := .i64) (by kernel_rfl)
theorem mapT : Try.prog.underlying 110 = some (.map 2 2) := by kernel_rfl
theorem intT : Try.prog.underlying 2 = some (.int .i64) := by kernel_rfl
theorem zeroK (w : World) : (zeroValue 2).run Try.prog w = .ok (.int .i64 0) w := by kernel_rfl
theorem wf_small {x : Int} (h0 : 0 ≤ x) (h1 : x ≤ 1000000) : (Lit.int .i64 x).wf = true := WalkArith.wf_i64 (by omega)

/-- The map of the slots in block B. -/
def MapAt (w : World) (B n : Nat) (D : DataW Unit) : Prop := w.ownsMap Try.prog 2 (plainElem Try.prog 2) B n D

set_option maxRecDepth 20000 in
set_option maxHeartbeats 400000 in
theorem slotsSeen_any (v : Value) (n lo hi : Nat) (f g : Nat → Int) (w : World) (h1 : PtrsAt w lo hi v n f g) (hn : n ≤ 200) (hok : ∀ i, i < n → PtrOk (f i) (g i)) :
    Calls Try.prog 92 #[v] w fun e w' => e = .returned (.map (some w.heap.size)) ∧ MapAt w' w.heap.size n (seenD f g n) ∧ Below w.heap.size w w' := by
  have Hp := hideD h1
  have Hok := hideD hok
  obtain ⟨m1, a, c, rfl, mc, _⟩ := id h1
  clear h1 hok
  have hmm := @run_makeMap Try.prog
  go_enter Try.func92, Try.ntmps92
  go_wp2
  go_loopw [9] (fun i wr => ∃ k : Nat, k ≤ n ∧ i = .int .i64 k ∧ MapAt wr w.heap.size k (seenD f g k) ∧ Below w.heap.size w wr) (fun i _ => n - (intOf i).toNat)
  case atStart => exact ⟨0, Nat.zero_le _, rfl, World.ownsMap_made _ _ _ _, (Below.refl _ _).alloc (Nat.le_refl _) _⟩
  case round =>
    obtain ⟨k, hk, rfl, hown, hb⟩ := hrel
    have Hown := hideD hown
    clear hown
    by_cases hlt : k < n
    · have hlt' : (k : Int) < (n : Int) := by omega
      obtain ⟨b, off, rfl, q0, q1⟩ := (Hp.out.below hb).cellsD hlt
      have hkey : keyOf Try.prog 2 (.int .i64 (f k)) = some (keyI (f k)) := keyOf_int_mk intT (wf_small (Hok.out k hlt).1 (by have := (Hok.out k hlt).2.1; omega))
      have hwv := wf_small (x := g k) (by have := (Hok.out k hlt).2.2.1; omega) (Hok.out k hlt).2.2.2
      have Hkey := hideD hkey
      have Hwv := hideD hwv
      clear hkey hwv
      go_wp2_with (first
        | (at_mapUpdate; refine wpList_mapUpdate_own _ rfl _ _ _ 110 rfl 2 2 lawK mapT _ w.heap.size k _ rfl (Hown.out.alloc _) (by unfold maxLen; omega) _ _ _ rfl rfl Hkey.out _ [] (plainElem_int intT Hwv.out) ?_; intro w1 hown1 hgrow1)
        | go_in)
      go_roundw
      case rel => exact ⟨k + 1, by omega, by go_num, hown1, (hb.alloc hb.size _).grown hgrow1 (by rw [World.size_alloc]; have := hb.size; omega) (fun j hj => by cases hj; exact Nat.le_refl _)⟩
      case measure => simp [intOf]; omega
    · obtain rfl : k = n := by omega
      go_wp2
      go_ret
      exact ⟨rfl, Hown.out, hb⟩

set_option maxRecDepth 20000 in
set_option maxHeartbeats 400000 in
theorem implPtrsRight_any (v : Value) (n lo hi : Nat) (f g : Nat → Int) (w : World) (h1 : PtrsAt w lo hi v n f g) :
    Calls Try.prog 35 #[v] w fun e w' => BoolIs (PtrsOk n f g) e ∧ Below w.heap.size w w' := by
  have Hp := hideD h1
  obtain ⟨m1, a, c, rfl, mc, _⟩ := id h1
  clear h1
  unfold maxLen at m1
  by_cases hn : n ≤ 200
  · have hn' : ¬ (200 : Int) < (n : Int) := by omega
    go_enter Try.func35, Try.ntmps35
    go_wp2
    go_loopw [10] (fun i wr => ∃ k : Nat, k ≤ n ∧ i = .int .i64 k ∧ (∀ i, i < k → PtrOk (f i) (g i)) ∧ Below w.heap.size w wr) (fun i _ => n - (intOf i).toNat)
    case atStart => exact ⟨0, Nat.zero_le _, rfl, fun j hj => absurd hj (Nat.not_lt_zero _), Below.refl _ _⟩
    case round =>
      obtain ⟨k, hk, rfl, hall, hb⟩ := hrel
      have Hall := hideD hall
      clear hall
      by_cases hlt : k < n
      · have hlt' : (k : Int) < (n : Int) := by omega
        obtain ⟨b, off, rfl, q0, q1⟩ := (Hp.out.below hb).cellsD hlt
        have hal := below_next hb (below_alloc wr (.cells #[.int .i64 (f k), .int .i64 (g k)] 33))
        go_wp2_with fail
        refine (ptrRight_any (f k) (g k) _).mono ?_
        rintro e w1 ⟨⟨t, rfl, ht⟩, hb1⟩
        have hB1 := below_next hal hb1
        clear hb1 hal q0 q1
        by_cases hok : PtrOk (f k) (g k)
        · have Hk := hideD hok
          obtain rfl : t = true := ht.2 hok
          clear ht hok
          go_wp2
          go_roundw
          case rel => exact ⟨k + 1, by omega, by go_num, relNext hlt Hall.out Hk.out, hB1⟩
          case measure => simp [intOf]; omega
        · have Hk := hideD hok
          obtain rfl : t = false := bool_no ht hok
          clear ht hok
          go_wp2
          go_ret
          exact ⟨BoolIs.no fun h => Hk.out (h.2.1 k hlt), hB1⟩
      · obtain rfl : k = n := by omega
        go_wp2_with fail
        refine (slotsSeen_any _ k lo hi f g _ (Hp.out.below hb) hn Hall.out).mono ?_
        rintro e w1 ⟨rfl, hm, hb1⟩
        have hB1 := below_next hb hb1
        have Hm := hideD hm
        have hsz := seen_size f g k
        clear hm hb1
        obtain ⟨hs1, hs2⟩ := hsz
        have Hs2 := hideD hs2
        clear hs2
        go_wp2_with (first
          | (at_len; refine wpList_len_own _ rfl _ 110 rfl 2 2 mapT _ wr.heap.size k _ rfl Hm.out ?_)
          | go_in)
        go_ret
        refine ⟨⟨_, rfl, ?_⟩, hB1⟩
        have Ho := Hs2.out
        have Ha := Hall.out
        simp only [beq_iff_eq, Int.natCast_inj]
        exact Ho.trans ⟨fun h => ⟨hn, Ha, h⟩, fun h => h.2.2⟩
  · have hn' : (200 : Int) < (n : Int) := by omega
    go_enter Try.func35, Try.ntmps35
    go_wp2
    go_ret
    exact ⟨BoolIs.no fun h => hn h.1, Below.refl _ _⟩

end Go.Proofs.Ytckamdnichangaa
