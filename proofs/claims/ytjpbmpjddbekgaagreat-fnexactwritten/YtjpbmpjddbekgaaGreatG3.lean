/- What impl.ptrRight, impl.slotsSeen and impl.PtrsRight answer. -/
import Derived.Test.YtjpbmpjddbekgaaGreatG2
import Derived.BigQuiet
import Derived.Laws.CopyOwn
import Derived.Deep.RegionLaw
import Derived.Deep.WholeRow
namespace Go.Proofs.YtjpbmpjddbekgaaGreat
open Go.RowKit Go.Maps
set_option linter.unusedVariables false

theorem hideD {P : Prop} (h : P) : Hid P := h
theorem PtrsAt.cellsD {w : World} {lo hi : Nat} {a : Option Addr} {n c : Nat} {f g : Nat → Int} (h : PtrsAt w lo hi (.slice a n c) n f g) {k : Nat} (hk : k < n) : ∃ b off, a = some ⟨b, off, none⟩ ∧ w.cell? ⟨b, off + k * 2, none⟩ = some (.int .i64 (f k)) ∧ w.cell? ⟨b, off + k * 2 + 1, none⟩ = some (.int .i64 (g k)) := by
  obtain ⟨_, a2, c2, hv, _, hx⟩ := h
  simp only [Value.slice.injEq, true_and] at hv
  obtain ⟨rfl, rfl⟩ := hv
  obtain ⟨b, off, ha, _, _, h3⟩ := hx (by omega)
  exact ⟨b, off, ha, (h3 k hk).1, (h3 k hk).2⟩

set_option maxRecDepth 20000 in
set_option maxHeartbeats 400000 in
theorem ptrRight_any (x y : Int) (w : World) : Calls Tryz.prog 182 #[.agg #[.int .i64 x, .int .i64 y]] w fun e w' => BoolIs (PtrOk x y) e ∧ Below w.heap.size w w' := by
  have hbw := below_alloc w (.cells #[.int .i64 x, .int .i64 y] 43)
  by_cases h1 : 0 ≤ x
  · by_cases h2 : x < 200
    · by_cases h3 : BirthOk y
      · have H := hideD (show PtrOk x y from ⟨h1, by omega, h3.1, h3.2⟩)
        have H3 := hideD h3
        clear h3
        go_enter Tryz.func182, Tryz.ntmps182
        go_wp2_with (first | (go_at_call 176; refine (birthRight_any y _).mono ?_; rintro e w1 ⟨⟨t, rfl, ht⟩, rfl⟩; obtain rfl : t = true := ht.2 H3.out; clear ht) | fail)
        go_wp2
        go_ret
        exact ⟨BoolIs.yes H.out, hbw⟩
      · have H := hideD (show ¬ PtrOk x y from fun h => h3 ⟨h.2.2.1, h.2.2.2⟩)
        have H3 := hideD h3
        clear h3
        go_enter Tryz.func182, Tryz.ntmps182
        go_wp2_with (first | (go_at_call 176; refine (birthRight_any y _).mono ?_; rintro e w1 ⟨⟨t, rfl, ht⟩, rfl⟩; obtain rfl : t = false := bool_no ht H3.out; clear ht) | fail)
        go_wp2
        go_ret
        exact ⟨BoolIs.no H.out, hbw⟩
    · go_enter Tryz.func182, Tryz.ntmps182
      go_wp2
      go_ret
      exact ⟨BoolIs.no fun h => by have := h.2.1; omega, hbw⟩
  · go_enter Tryz.func182, Tryz.ntmps182
    go_wp2
    go_ret
    exact ⟨BoolIs.no fun h => by have := h.1; omega, hbw⟩

theorem lawK : Keyed Tryz.prog 2 := int_keyed (q := .i64) (by kernel_rfl)
theorem mapT : Tryz.prog.underlying 206 = some (.map 2 2) := by kernel_rfl
theorem intT : Tryz.prog.underlying 2 = some (.int .i64) := by kernel_rfl
theorem zeroK (w : World) : (zeroValue 2).run Tryz.prog w = .ok (.int .i64 0) w := by kernel_rfl
theorem wf_small {x : Int} (h0 : 0 ≤ x) (h1 : x ≤ 1000000) : (Lit.int .i64 x).wf = true := WalkArith.wf_i64 (by omega)

/-- The map of the slots in block B. -/
def MapAt (w : World) (B n : Nat) (D : DataW Unit) : Prop := w.ownsMap Tryz.prog 2 (plainElem Tryz.prog 2) B n D

set_option maxRecDepth 20000 in
set_option maxHeartbeats 400000 in
theorem slotsSeen_any (v : Value) (n lo hi : Nat) (f g : Nat → Int) (w : World) (h1 : PtrsAt w lo hi v n f g) (hn : n ≤ 200) (hok : ∀ i, i < n → PtrOk (f i) (g i)) :
    Calls Tryz.prog 181 #[v] w fun e w' => e = .returned (.map (some w.heap.size)) ∧ MapAt w' w.heap.size n (seenD f g n) ∧ Below w.heap.size w w' := by
  have Hp := hideD h1
  have Hok := hideD hok
  obtain ⟨m1, a, c, rfl, mc, _⟩ := id h1
  clear h1 hok
  have hmm := @run_makeMap Tryz.prog
  go_enter Tryz.func181, Tryz.ntmps181
  go_wp2
  go_loopw [9] (fun i wr => ∃ k : Nat, k ≤ n ∧ i = .int .i64 k ∧ MapAt wr w.heap.size k (seenD f g k) ∧ Below w.heap.size w wr) (fun i _ => n - (intOf i).toNat)
  case atStart => exact ⟨0, Nat.zero_le _, rfl, World.ownsMap_made _ _ _ _, (Below.refl _ _).alloc (Nat.le_refl _) _⟩
  case round =>
    obtain ⟨k, hk, rfl, hown, hb⟩ := hrel
    have Hown := hideD hown
    clear hown
    by_cases hlt : k < n
    · have hlt' : (k : Int) < (n : Int) := by omega
      obtain ⟨b, off, rfl, q0, q1⟩ := (Hp.out.below hb).cellsD hlt
      have hkey : keyOf Tryz.prog 2 (.int .i64 (f k)) = some (keyI (f k)) := keyOf_int_mk intT (wf_small (Hok.out k hlt).1 (by have := (Hok.out k hlt).2.1; omega))
      have hwv := wf_small (x := g k) (by have := (Hok.out k hlt).2.2.1; omega) (Hok.out k hlt).2.2.2
      have Hkey := hideD hkey
      have Hwv := hideD hwv
      clear hkey hwv
      go_wp2_with (first
        | (at_mapUpdate; refine wpList_mapUpdate_own _ rfl _ _ _ 206 rfl 2 2 lawK mapT _ w.heap.size k _ rfl (Hown.out.alloc _) (by unfold maxLen; omega) _ _ _ rfl rfl Hkey.out _ [] (plainElem_int intT Hwv.out) ?_; intro w1 hown1 hgrow1)
        | go_in)
      go_roundw
      case rel => exact ⟨k + 1, by omega, by go_num, hown1, (hb.alloc hb.size _).grown hgrow1 (by rw [World.size_alloc]; have := hb.size; omega) (fun j hj => by cases hj; exact Nat.le_refl _)⟩
      case measure => simp [intOf]; omega
    · obtain rfl : k = n := by omega
      go_wp2
      go_ret
      exact ⟨rfl, Hown.out, hb⟩

set_option maxRecDepth 20000 in
set_option maxHeartbeats 400000 in
theorem implPtrsRight_any (v : Value) (n lo hi : Nat) (f g : Nat → Int) (w : World) (h1 : PtrsAt w lo hi v n f g) :
    Calls Tryz.prog 169 #[v] w fun e w' => BoolIs (PtrsOk n f g) e ∧ Below w.heap.size w w' := by
  have Hp := hideD h1
  obtain ⟨m1, a, c, rfl, mc, _⟩ := id h1
  clear h1
  unfold maxLen at m1
  by_cases hn : n ≤ 200
  · have hn' : ¬ (200 : Int) < (n : Int) := by omega
    go_enter Tryz.func169, Tryz.ntmps169
    go_wp2
    go_loopw [10] (fun i wr => ∃ k : Nat, k ≤ n ∧ i = .int .i64 k ∧ (∀ i, i < k → PtrOk (f i) (g i)) ∧ Below w.heap.size w wr) (fun i _ => n - (intOf i).toNat)
    case atStart => exact ⟨0, Nat.zero_le _, rfl, fun j hj => absurd hj (Nat.not_lt_zero _), Below.refl _ _⟩
    case round =>
      obtain ⟨k, hk, rfl, hall, hb⟩ := hrel
      have Hall := hideD hall
      clear hall
      by_cases hlt : k < n
      · have hlt' : (k : Int) < (n : Int) := by omega
        obtain ⟨b, off, rfl, q0, q1⟩ := (Hp.out.below hb).cellsD hlt
        have hal := below_next hb (below_alloc wr (.cells #[.int .i64 (f k), .int .i64 (g k)] 43))
        go_wp2_with fail
        refine (ptrRight_any (f k) (g k) _).mono ?_
        rintro e w1 ⟨⟨t, rfl, ht⟩, hb1⟩
        have hB1 := below_next hal hb1
        clear hb1 hal q0 q1
        by_cases hok : PtrOk (f k) (g k)
        · have Hk := hideD hok
          obtain rfl : t = true := ht.2 hok
          clear ht hok
          go_wp2
          go_roundw
          case rel => exact ⟨k + 1, by omega, by go_num, relNext hlt Hall.out Hk.out, hB1⟩
          case measure => simp [intOf]; omega
        · have Hk := hideD hok
          obtain rfl : t = false := bool_no ht hok
          clear ht hok
          go_wp2
          go_ret
          exact ⟨BoolIs.no fun h => Hk.out (h.2.1 k hlt), hB1⟩
      · obtain rfl : k = n := by omega
        go_wp2_with fail
        refine (slotsSeen_any _ k lo hi f g _ (Hp.out.below hb) hn Hall.out).mono ?_
        rintro e w1 ⟨rfl, hm, hb1⟩
        have hB1 := below_next hb hb1
        have Hm := hideD hm
        have hsz := seen_size f g k
        clear hm hb1
        obtain ⟨hs1, hs2⟩ := hsz
        have Hs2 := hideD hs2
        clear hs2
        go_wp2_with (first
          | (at_len; refine wpList_len_own _ rfl _ 206 rfl 2 2 mapT _ wr.heap.size k _ rfl Hm.out ?_)
          | go_in)
        go_ret
        refine ⟨⟨_, rfl, ?_⟩, hB1⟩
        have Ho := Hs2.out
        have Ha := Hall.out
        simp only [beq_iff_eq, Int.natCast_inj]
        exact Ho.trans ⟨fun h => ⟨hn, Ha, h⟩, fun h => h.2.2⟩
  · have hn' : (200 : Int) < (n : Int) := by omega
    go_enter Tryz.func169, Tryz.ntmps169
    go_wp2
    go_ret
    exact ⟨BoolIs.no fun h => hn h.1, Below.refl _ _⟩

end Go.Proofs.YtjpbmpjddbekgaaGreat

namespace Go.Proofs.YtjpbmpjddbekgaaGreat
open Go.RowKit Go.Maps
set_option linter.unusedVariables false

def Between (n a b : Int) : Prop := a ≤ n ∧ n ≤ b

set_option maxRecDepth 20000 in
set_option maxHeartbeats 400000 in
theorem l01Is_any (n a b : Int) (w : World) : Calls Tryz.prog 110 #[.int .i64 n, .int .i64 a, .int .i64 b] w fun e w' => BoolIs (Between n a b) e ∧ w' = w := by
  by_cases h1 : a ≤ n
  · by_cases h2 : n ≤ b
    · go_enter Tryz.func110, Tryz.ntmps110
      go_wp2
      go_ret
      exact ⟨BoolIs.yes ⟨h1, h2⟩, rfl⟩
    · go_enter Tryz.func110, Tryz.ntmps110
      go_wp2
      go_ret
      exact ⟨BoolIs.no fun h => by have := h.2; omega, rfl⟩
  · go_enter Tryz.func110, Tryz.ntmps110
    go_wp2
    go_ret
    exact ⟨BoolIs.no fun h => by have := h.1; omega, rfl⟩

set_option maxRecDepth 20000 in
set_option maxHeartbeats 1000000 in
theorem specPtrsRight_any (v : Value) (n lo hi : Nat) (f g : Nat → Int) (w : World) (h1 : PtrsAt w lo hi v n f g) :
    Calls Tryz.prog 146 #[v] w fun e w' => BoolIs (PtrsOk n f g) e ∧ Below w.heap.size w w' := by
  have Hp := hideD h1
  obtain ⟨m1, a, c, rfl, mc, _⟩ := id h1
  clear h1
  unfold maxLen at m1
  by_cases hn : n ≤ 200
  · have hn' : ¬ (200 : Int) < (n : Int) := by omega
    go_enter Tryz.func146, Tryz.ntmps146
    go_wp2
    go_loopw [3] (fun i wr => ∃ k : Nat, k ≤ n ∧ i = .int .i64 k ∧ (∀ i, i < k → PtrOk (f i) (g i)) ∧ Dist k f ∧ Below w.heap.size w wr) (fun i _ => n - (intOf i).toNat)
    case atStart => exact ⟨0, Nat.zero_le _, rfl, fun j hj => absurd hj (Nat.not_lt_zero _), fun j hj => absurd hj (Nat.not_lt_zero _), Below.refl _ _⟩
    case round =>
      obtain ⟨k, hk, rfl, hall, hdist, hb⟩ := hrel
      have Hall := hideD hall
      have Hdist := hideD hdist
      clear hall hdist
      by_cases hlt : k < n
      · have hlt' : (k : Int) < (n : Int) := by omega
        obtain ⟨b, off, rfl, q0, q1⟩ := (Hp.out.below hb).cellsD hlt
        by_cases hx : Between (f k) 0 199
        · have Hx := hideD hx
          clear hx
          by_cases hy : BirthOk (g k)
          · have Hy := hideD hy
            clear hy
            go_wp2_with (first
              | (go_at_call 110; refine (l01Is_any (f k) 0 199 _).mono ?_; rintro e w1 ⟨⟨t, rfl, ht⟩, rfl⟩; obtain rfl : t = true := ht.2 Hx.out; clear ht)
              | (go_at_call 144; refine (l01Birth_any (g k) _).mono ?_; rintro e w2 ⟨⟨t, rfl, ht⟩, rfl⟩; obtain rfl : t = true := ht.2 Hy.out; clear ht)
              | fail)
            go_wp2
            go_loopw [4] (fun i wr => ∃ j : Nat, j ≤ k ∧ i = .int .i64 j ∧ (∀ i, i < j → f i ≠ f k) ∧ Below w.heap.size w wr) (fun i _ => k - (intOf i).toNat)
            case atStart => exact ⟨0, Nat.zero_le _, rfl, fun j hj => absurd hj (Nat.not_lt_zero _), hb⟩
            case round =>
              obtain ⟨j, hj, rfl, hne, hbj⟩ := hrel
              have Hne := hideD hne
              clear hne q0 q1 hb
              by_cases hjk : j < k
              · have hjk' : (j : Int) < (k : Int) := by omega
                have hjn' : (j : Int) < (n : Int) := by omega
                obtain ⟨_, _, ha, r0, _⟩ := (Hp.out.below hbj).cellsD (show j < n by omega)
                simp only [Option.some.injEq, Addr.mk.injEq, and_true] at ha
                obtain ⟨rfl, rfl⟩ := ha
                obtain ⟨_, _, ha, s0, _⟩ := (Hp.out.below hbj).cellsD hlt
                simp only [Option.some.injEq, Addr.mk.injEq, and_true] at ha
                obtain ⟨rfl, rfl⟩ := ha
                by_cases he : f j = f k
                · have He := hideD he
                  have e0 : (f j == f k) = true := by simp [he]
                  clear he
                  go_wp2
                  go_quiet (fail)
                  go_wp2
                  go_ret
                  exact ⟨BoolIs.no fun h => h.2.2 k hlt j hjk He.out, below_drewN hbj _⟩
                · have He := hideD he
                  have e0 : (f j == f k) = false := by simp [he]
                  clear he
                  go_wp2
                  go_quiet (fail)
                  go_wp2
                  go_roundw
                  case rel => exact ⟨j + 1, by omega, by go_num, relNext hjk Hne.out He.out, below_drewN hbj _⟩
                  case measure => simp [intOf]; omega
              · obtain rfl : j = k := by omega
                go_wp2
                go_roundw
                case rel => exact ⟨j + 1, by omega, by go_num, relNext hlt Hall.out ⟨Hx.out.1, Hx.out.2, Hy.out.1, Hy.out.2⟩, dist_succ.2 ⟨Hdist.out, Hne.out⟩, hbj⟩
                case measure => simp [intOf]; omega
          · have Hy := hideD hy
            clear hy
            go_wp2_with (first
              | (go_at_call 110; refine (l01Is_any (f k) 0 199 _).mono ?_; rintro e w1 ⟨⟨t, rfl, ht⟩, rfl⟩; obtain rfl : t = true := ht.2 Hx.out; clear ht)
              | (go_at_call 144; refine (l01Birth_any (g k) _).mono ?_; rintro e w2 ⟨⟨t, rfl, ht⟩, rfl⟩; obtain rfl : t = false := bool_no ht Hy.out; clear ht)
              | fail)
            go_wp2
            go_ret
            exact ⟨BoolIs.no fun h => Hy.out ⟨(h.2.1 k hlt).2.2.1, (h.2.1 k hlt).2.2.2⟩, hb⟩
        · have Hx := hideD hx
          clear hx
          go_wp2_with (first
            | (go_at_call 110; refine (l01Is_any (f k) 0 199 _).mono ?_; rintro e w1 ⟨⟨t, rfl, ht⟩, rfl⟩; obtain rfl : t = false := bool_no ht Hx.out; clear ht)
            | fail)
          go_wp2
          go_ret
          exact ⟨BoolIs.no fun h => Hx.out ⟨(h.2.1 k hlt).1, (h.2.1 k hlt).2.1⟩, hb⟩
      · obtain rfl : k = n := by omega
        go_wp2
        go_ret
        exact ⟨BoolIs.yes ⟨hn, Hall.out, Hdist.out⟩, hb⟩
  · have hn' : (200 : Int) < (n : Int) := by omega
    go_enter Tryz.func146, Tryz.ntmps146
    go_wp2
    go_ret
    exact ⟨BoolIs.no fun h => hn h.1, Below.refl _ _⟩

set_option maxRecDepth 20000 in
set_option maxHeartbeats 1000000 in
theorem l03In_any (v : Value) (n lo hi : Nat) (f g : Nat → Int) (x y : Int) (w : World) (h1 : PtrsAt w lo hi v n f g) :
    Calls Tryz.prog 97 #[v, .agg #[.int .i64 x, .int .i64 y]] w fun e w' => BoolIs (PIn n f g x y) e ∧ Below w.heap.size w w' := by
  have Hp := hideD h1
  obtain ⟨m1, a, c, rfl, mc, _⟩ := id h1
  unfold maxLen at m1
  clear h1
  have ha := below_alloc w (.cells #[.int .i64 x, .int .i64 y] 43)
  have HB := hideD (Box2.new w (.int .i64 x) (.int .i64 y) 43)
  go_enter Tryz.func97, Tryz.ntmps97
  go_wp2
  go_loopw [5] (fun i wr => ∃ k : Nat, k ≤ n ∧ i = .int .i64 k ∧ ¬ PIn k f g x y ∧ Box2 wr w.heap.size (.int .i64 x) (.int .i64 y) ∧ Below w.heap.size w wr) (fun i _ => n - (intOf i).toNat)
  case atStart => exact ⟨0, Nat.zero_le _, rfl, fun ⟨j, hj, _⟩ => absurd hj (Nat.not_lt_zero _), HB.out, ha⟩
  case round =>
    obtain ⟨k, hk, rfl, hno, hX, hb⟩ := hrel
    have Hno := hideD hno
    have HX := hideD hX
    clear hno hX
    obtain ⟨⟨x0, x1⟩, ⟨x2, x3⟩⟩ := HX.out
    by_cases hlt : k < n
    · have hlt' : (k : Int) < (n : Int) := by omega
      obtain ⟨b, off, rfl, q0, q1⟩ := (Hp.out.below hb).cellsD hlt
      by_cases he : f k = x ∧ g k = y
      · have H := hideD (show PIn n f g x y from ⟨k, hlt, he.1, he.2⟩)
        rw [he.1] at q0
        rw [he.2] at q1
        clear he
        go_wp2
        go_quiet (fail)
        go_wp2
        go_ret
        exact ⟨BoolIs.yes H.out, below_drewN hb _⟩
      · have H := hideD he
        have e0 : (f k == x) = false ∨ (f k == x) = true ∧ (g k == y) = false := by
          by_cases h : f k = x
          · right
            refine ⟨by simp [h], ?_⟩
            have : g k ≠ y := fun h' => he ⟨h, h'⟩
            simp [this]
          · left; simp [h]
        clear he
        rcases e0 with e0 | ⟨e0, e1⟩
        all_goals
          go_wp2
          go_quiet (fail)
          go_wp2
          go_roundw
          case rel =>
            refine ⟨k + 1, by omega, by go_num, ?_, HX.out.below (below_drewN (Below.refl _ _) _), below_drewN hb _⟩
            rintro ⟨j, hj, hjx⟩
            by_cases e : j = k
            · subst e; exact H.out ⟨hjx.1, hjx.2⟩
            · exact Hno.out ⟨j, by omega, hjx⟩
          case measure => simp [intOf]; omega
    · obtain rfl : k = n := by omega
      go_wp2
      go_ret
      exact ⟨BoolIs.no Hno.out, hb⟩

set_option maxRecDepth 20000 in
set_option maxHeartbeats 1000000 in
theorem specPtrsSame_any (v v' : Value) (n lo hi n' lo' hi' : Nat) (f g f' g' : Nat → Int) (w : World) (h1 : PtrsAt w lo hi v n f g) (h2 : PtrsAt w lo' hi' v' n' f' g') :
    Calls Tryz.prog 114 #[v, v'] w fun e w' => BoolIs (PSame n f g n' f' g') e ∧ Below w.heap.size w w' := by
  have Hp := hideD h1
  have Hp' := hideD h2
  obtain ⟨m1, a, c, rfl, mc, _⟩ := id h1
  obtain ⟨m2, a', c', rfl, mc', _⟩ := id h2
  unfold maxLen at m1 m2
  clear h1 h2
  by_cases ho : PtrsOk n f g
  · have Ho := hideD ho
    clear ho
    by_cases ho' : PtrsOk n' f' g'
    · have Ho' := hideD ho'
      clear ho'
      go_enter Tryz.func114, Tryz.ntmps114
      go_wp2_with fail
      refine (specPtrsRight_any _ n lo hi f g _ Hp.out).mono ?_
      rintro e w1 ⟨⟨t, rfl, ht⟩, hb1⟩
      obtain rfl : t = true := ht.2 Ho.out
      clear ht
      go_wp2_with fail
      refine (specPtrsRight_any _ n' lo' hi' f' g' _ (Hp'.out.below hb1)).mono ?_
      rintro e w2 ⟨⟨t, rfl, ht⟩, hb2⟩
      obtain rfl : t = true := ht.2 Ho'.out
      have hB2 := below_next hb1 hb2
      clear ht hb1 hb2
      by_cases hnn : n = n'
      · subst hnn
        have e0 : ((n : Int) != (n : Int)) = false := by simp
        go_wp2
        go_loopw [5] (fun i wr => ∃ k : Nat, k ≤ n ∧ i = .int .i64 k ∧ (∀ i, i < k → PIn n f' g' (f i) (g i)) ∧ Below w.heap.size w wr) (fun i _ => n - (intOf i).toNat)
        case atStart => exact ⟨0, Nat.zero_le _, rfl, fun j hj => absurd hj (Nat.not_lt_zero _), hB2⟩
        case round =>
          obtain ⟨k, hk, rfl, hall, hb⟩ := hrel
          have Hall := hideD hall
          clear hall
          by_cases hlt : k < n
          · have hlt' : (k : Int) < (n : Int) := by omega
            obtain ⟨b, off, rfl, q0, q1⟩ := (Hp.out.below hb).cellsD hlt
            go_wp2_with fail
            refine (l03In_any _ n lo' hi' f' g' (f k) (g k) _ (Hp'.out.below hb)).mono ?_
            rintro e w3 ⟨⟨t, rfl, ht⟩, hb3⟩
            have hB3 := below_next hb hb3
            clear hb3
            by_cases hi' : PIn n f' g' (f k) (g k)
            · have Hi := hideD hi'
              obtain rfl : t = true := ht.2 hi'
              clear ht hi'
              go_wp2
              go_roundw
              case rel => exact ⟨k + 1, by omega, by go_num, relNext hlt Hall.out Hi.out, hB3⟩
              case measure => simp [intOf]; omega
            · have Hi := hideD hi'
              obtain rfl : t = false := bool_no ht hi'
              clear ht hi'
              go_wp2
              go_ret
              exact ⟨BoolIs.no fun h => Hi.out (h.2.2.2 k hlt), hB3⟩
          · obtain rfl : k = n := by omega
            go_wp2
            go_ret
            exact ⟨BoolIs.yes ⟨Ho.out, Ho'.out, rfl, Hall.out⟩, hb⟩
      · have e0 : ((n : Int) != (n' : Int)) = true := by simp; omega
        have Hn := hideD hnn
        clear hnn
        go_wp2
        go_ret
        exact ⟨BoolIs.no fun h => Hn.out h.2.2.1, hB2⟩
    · have Ho' := hideD ho'
      clear ho'
      go_enter Tryz.func114, Tryz.ntmps114
      go_wp2_with fail
      refine (specPtrsRight_any _ n lo hi f g _ Hp.out).mono ?_
      rintro e w1 ⟨⟨t, rfl, ht⟩, hb1⟩
      obtain rfl : t = true := ht.2 Ho.out
      clear ht
      go_wp2_with fail
      refine (specPtrsRight_any _ n' lo' hi' f' g' _ (Hp'.out.below hb1)).mono ?_
      rintro e w2 ⟨⟨t, rfl, ht⟩, hb2⟩
      obtain rfl : t = false := bool_no ht Ho'.out
      have hB2 := below_next hb1 hb2
      clear ht hb1 hb2
      go_wp2
      go_ret
      exact ⟨BoolIs.no fun h => Ho'.out h.2.1, hB2⟩
  · have Ho := hideD ho
    clear ho
    go_enter Tryz.func114, Tryz.ntmps114
    go_wp2_with fail
    refine (specPtrsRight_any _ n lo hi f g _ Hp.out).mono ?_
    rintro e w1 ⟨⟨t, rfl, ht⟩, hb1⟩
    obtain rfl : t = false := bool_no ht Ho.out
    clear ht
    go_wp2
    go_ret
    exact ⟨BoolIs.no fun h => Ho.out h.1, hb1⟩

end Go.Proofs.YtjpbmpjddbekgaaGreat

namespace Go.Proofs.YtjpbmpjddbekgaaGreat
open Go.RowKit
set_option linter.unusedVariables false

theorem run_copy_sized {P : Program} (w : World) (dT sT ty elem : TypeId) (size g o dLen dCap : Nat) (a : Addr) (sLen sCap : Nat) (cur : Array Value) (t : TypeId) (cs : List Value)
    (hu : P.underlying dT = some (.slice elem)) (hs : (P.info? elem).map (·.size) = some size)
    (hg : w.heap[g]? = some (.cells cur t (0, 0))) (hn : cs.length = Nat.min sLen dLen * size)
    (hsrc : ∀ j v, cs[j]? = some v → w.cell? (a.add j) = some v) (hfit : o + cs.length ≤ cur.size) (h1 : ∀ v ∈ cs, v.oneCell' = true) :
    (Builtin.copy_ #[dT, sT] ty #[.slice (some ⟨g, o, none⟩) dLen dCap, .slice (some a) sLen sCap]).run P w =
      .ok (goInt (Nat.min sLen dLen)) (w.setRow g (cur.toList.take o ++ cs ++ cur.toList.drop (o + cs.length)).toArray) := by
  have hl := run_loadCells_list (P := P) w a cs hsrc
  have hst := run_storeCells_at P g o t cs 0 cur w hg (by simpa using hfit) h1
  cases hq : P.info? elem with
  | none => simp [hq] at hs
  | some i =>
    have hi : i.size = size := by simpa [hq] using hs
    have e : Nat.min sLen dLen * i.size = cs.length := by rw [hi, hn]
    simp [Builtin.copy_, run_underlying hu, Builtin.lenOf, Builtin.firstCells, sizeOf, typeInfo, hq, e, hl, hst]

theorem run_copy_zero {P : Program} (w : World) (dT sT ty elem : TypeId) (size : Nat) (d a : Option Addr) (dLen dCap sCap : Nat)
    (hu : P.underlying dT = some (.slice elem)) (hs : (P.info? elem).map (·.size) = some size) :
    (Builtin.copy_ #[dT, sT] ty #[.slice d dLen dCap, .slice a 0 sCap]).run P w = .ok (goInt 0) w := by
  cases hq : P.info? elem with
  | none => simp [hq] at hs
  | some i =>
    cases a with
    | none => cases d <;> simp [Builtin.copy_, run_underlying hu, Builtin.lenOf, Builtin.firstCells, sizeOf, typeInfo, hq, storeCells]
    | some a => cases d <;> simp [Builtin.copy_, run_underlying hu, Builtin.lenOf, Builtin.firstCells, sizeOf, typeInfo, hq, storeCells, loadCells, loadCellsFrom]

/-- The number in the cell j of the array of a slot's Kids. -/
def kidCell (s : SlotD) (j : Nat) : Int := if j / 2 < s.kn then (if j % 2 = 0 then s.ks (j / 2) else s.kb (j / 2)) else 0
/-- An array of sixteen numbers. -/
def arr16 (f : Nat → Int) : Array Value := ((List.range 16).map fun j => Value.int .i64 (f j)).toArray
def kidsA (s : SlotD) : Array Value := arr16 (kidCell s)

theorem arr16_size (f : Nat → Int) : (arr16 f).size = 16 := by simp [arr16]
theorem arr16_at (f : Nat → Int) {j : Nat} (h : j < 16) : (arr16 f)[j]? = some (.int .i64 (f j)) := by simp [arr16, h]
theorem arr16_one (f : Nat → Int) : (arr16 f).all (·.oneCell') = true := by
  unfold arr16
  rw [Array.all_eq_true_iff_forall_mem]
  intro v hv
  simp at hv
  obtain ⟨j, _, rfl⟩ := hv
  rfl
theorem arr16_ext {f g : Nat → Int} (h : ∀ j, j < 16 → f j = g j) : arr16 f = arr16 g := by
  unfold arr16
  congr 1
  apply List.map_congr_left
  intro j hj
  rw [h j (by simpa using hj)]

theorem infoArr : (Tryz.prog.info? 201).map (·.size) = some 16 := by kernel_rfl
theorem infoPtrSize : (Tryz.prog.info? 43).map (·.size) = some 2 := by kernel_rfl
theorem arrU : Tryz.prog.underlying 201 = some (.array 8 43) := by kernel_rfl

theorem three_alloc (w : World) (o1 o2 o3 : Obj) : (((w.alloc o1).alloc o2).alloc o3).heap[w.heap.size + 1]? = some o2 ∧ (((w.alloc o1).alloc o2).alloc o3).heap[w.heap.size + 1 + 1]? = some o3 ∧ w.heap.size + 1 + 1 < (((w.alloc o1).alloc o2).alloc o3).heap.size := by
  refine ⟨?_, ?_, by simp⟩
  · rw [Below.heap_alloc _ _ _ (by simp)]
    have := heap_alloc_last (w.alloc o1) o2
    rw [World.size_alloc] at this
    exact this
  · have := heap_alloc_last ((w.alloc o1).alloc o2) o3
    rw [World.size_alloc, World.size_alloc] at this
    exact this

theorem Turned.setRow (w : World) (g : Nat) (cs : Array Value) : Turned (fun k => k = g) w (w.setRow g cs) :=
  ⟨rfl, rfl, rfl, by simp [World.setRow], fun k _ hs => setRow_other w g k cs hs⟩

/-- 'copy' of a slot's Kids (eight, or none) into an array of eight, as one step of a region that draws. -/
theorem step_copy_kids {ops : Array Oper} {o : Oper} {a : Act} {w : World} {K : Act → World → Prop} {Q : Exit → Act → World → Prop} {E : Prop} (hgd : o.guard = none) (d s : Operand)
    (ho : o.op = .call { callee := .builtin .copy, args := #[d, s], argTypes := #[44, 44] })
    (g : Nat) (ka : Option Addr) (kc : Nat) (sl : SlotD) (hd : a.eval d = .slice (some ⟨g, 0, none⟩) 8 8) (hs : a.eval s = .slice ka sl.kn kc)
    (hg : w.heap[g]? = some (.cells (arr16 fun _ => 0) 201 (0, 0))) (hk : sl.kn = 0 ∨ (sl.kn = 8 ∧ ∃ b off, ka = some ⟨b, off, none⟩ ∧ ∀ i, i < sl.kn → w.cell? ⟨b, off + i * 2, none⟩ = some (.int .i64 (sl.ks i)) ∧ w.cell? ⟨b, off + i * 2 + 1, none⟩ = some (.int .i64 (sl.kb i))))
    (h : ∀ w' v, Hid (w'.heap[g]? = some (.cells (kidsA sl) 201 (0, 0))) → Turned (fun k => k = g) w w' → K (a.put o.dst v) w') :
    if Region.wanted o (yielded ops a.tmps) = true then Oper.wp Tryz.prog o a w K Q else E := by
  have hw : Region.wanted o (yielded ops a.tmps) = true := by simp [Region.wanted, hgd]
  rw [if_pos hw]
  have hu : Tryz.prog.underlying 44 = some (.slice 43) := by kernel_rfl
  rcases hk with hk | ⟨hk, b, off, rfl, hc⟩
  · rw [hk] at hs
    have hrun := run_copy_zero (P := Tryz.prog) w 44 44 o.type 43 2 (some ⟨g, 0, none⟩) ka 8 8 kc hu infoPtrSize
    unfold Oper.wp
    simp [execOp, ho, resolve, invoke, builtin, hd, hs, hrun, Result.andThen]
    refine h _ _ ?_ (Turned.refl _ _)
    show _ = _
    rw [hg]
    have : kidsA sl = arr16 (fun _ => 0) := arr16_ext fun j _ => by unfold kidCell; rw [if_neg (by omega)]
    rw [this]
  · rw [hk] at hs
    have hrun := run_copy_sized (P := Tryz.prog) w 44 44 o.type 43 2 g 0 8 8 ⟨b, off, none⟩ 8 kc (arr16 fun _ => 0) 201 (kidsA sl).toList hu infoPtrSize hg (by simp [kidsA, arr16]) (fun j v hj => by
        have hj16 : j < 16 := by
          have := (List.getElem?_eq_some_iff.1 hj).1
          simpa [kidsA, arr16_size] using this
        have e : (kidsA sl).toList[j]? = some (.int .i64 (kidCell sl j)) := by rw [Array.getElem?_toList]; exact arr16_at (kidCell sl) hj16
        rw [e] at hj
        simp only [Option.some.injEq] at hj
        subst hj
        have hadd : (⟨b, off, none⟩ : Addr).add j = ⟨b, off + j, none⟩ := by unfold Addr.add; split <;> simp_all
        rw [hadd]
        unfold kidCell
        rw [if_pos (by omega)]
        have hcj := hc (j / 2) (by omega)
        split
        · rw [show off + j = off + j / 2 * 2 by omega]; exact hcj.1
        · rw [show off + j = off + j / 2 * 2 + 1 by omega]; exact hcj.2) (by simp [kidsA, arr16]) (fun v hv => (Array.all_eq_true_iff_forall_mem.1 (arr16_one _)) v (by simpa [kidsA] using hv))
    unfold Oper.wp
    simp [execOp, ho, resolve, invoke, builtin, hd, hs, hrun, Result.andThen]
    refine h _ _ ?_ (Turned.setRow _ _ _)
    show _ = _
    rw [setRow_heap w g _ _ 201 (0, 0) hg]
    have e0 : ((arr16 fun _ => 0).toList.drop 16) = [] := List.drop_eq_nil_of_le (by simp [arr16])
    simp [kidsA, arr16_size, e0]

set_option maxRecDepth 20000 in
set_option maxHeartbeats 400000 in
theorem kidsOf_any (v0 v1 v2 : Value) (lo hi : Nat) (s : SlotD) (w : World) (h1 : SlotAt w lo hi v0 v1 v2 s) (hk : s.kn = 0 ∨ s.kn = 8) :
    Calls Tryz.prog 177 #[.agg #[v0, v1, v2]] w fun e w' => e = .returned (.agg (kidsA s)) ∧ Below w.heap.size w w' := by
  obtain ⟨rfl, ⟨m1, a, c, rfl, mc, g1⟩, rfl, m2⟩ := h1
  unfold maxLen at m1 m2
  have G1 : Hid (0 < s.kn → ∃ b off, a = some ⟨b, off, none⟩ ∧ lo ≤ b ∧ b < hi ∧ ∀ i, i < s.kn → w.cell? ⟨b, off + i * 2, none⟩ = some (.int .i64 (s.ks i)) ∧ w.cell? ⟨b, off + i * 2 + 1, none⟩ = some (.int .i64 (s.kb i))) := g1
  have Hk : Hid (s.kn = 0 ∨ s.kn = 8) := hk
  clear g1 hk
  go_enter Tryz.func177, Tryz.ntmps177
  go_wp2_with fail
  obtain ⟨W, hW⟩ : ∃ W : World, W = ((w.alloc (.cells #[.int .i64 s.birth, .slice a s.kn c, .string s.data] 84)).alloc (.cells #[Value.int .i64 0, Value.int .i64 0, Value.int .i64 0, Value.int .i64 0, Value.int .i64 0, Value.int .i64 0, Value.int .i64 0, Value.int .i64 0, Value.int .i64 0, Value.int .i64 0, Value.int .i64 0, Value.int .i64 0, Value.int .i64 0, Value.int .i64 0, Value.int .i64 0, Value.int .i64 0] 201)).alloc (.cells #[Value.int .i64 0, Value.int .i64 0, Value.int .i64 0, Value.int .i64 0, Value.int .i64 0, Value.int .i64 0, Value.int .i64 0, Value.int .i64 0, Value.int .i64 0, Value.int .i64 0, Value.int .i64 0, Value.int .i64 0, Value.int .i64 0, Value.int .i64 0, Value.int .i64 0, Value.int .i64 0] 201) := ⟨_, rfl⟩
  have z16 : (#[Value.int .i64 0, Value.int .i64 0, Value.int .i64 0, Value.int .i64 0, Value.int .i64 0, Value.int .i64 0, Value.int .i64 0, Value.int .i64 0, Value.int .i64 0, Value.int .i64 0, Value.int .i64 0, Value.int .i64 0, Value.int .i64 0, Value.int .i64 0, Value.int .i64 0, Value.int .i64 0] : Array Value) = arr16 (fun _ => 0) := rfl
  have hb : Below w.heap.size w W := by rw [hW]; exact below_next (below_next (below_alloc _ _) (below_alloc _ _)) (below_alloc _ _)
  have Hx : Hid (Box3 W w.heap.size (.int .i64 s.birth) (.slice a s.kn c) (.string s.data)) := by rw [hW]; exact ((Box3.new w _ _ _ _).below (below_alloc _ _)).below (below_alloc _ _)
  have HRG := three_alloc w (.cells #[.int .i64 s.birth, .slice a s.kn c, .string s.data] 84) (.cells #[Value.int .i64 0, Value.int .i64 0, Value.int .i64 0, Value.int .i64 0, Value.int .i64 0, Value.int .i64 0, Value.int .i64 0, Value.int .i64 0, Value.int .i64 0, Value.int .i64 0, Value.int .i64 0, Value.int .i64 0, Value.int .i64 0, Value.int .i64 0, Value.int .i64 0, Value.int .i64 0] 201) (.cells #[Value.int .i64 0, Value.int .i64 0, Value.int .i64 0, Value.int .i64 0, Value.int .i64 0, Value.int .i64 0, Value.int .i64 0, Value.int .i64 0, Value.int .i64 0, Value.int .i64 0, Value.int .i64 0, Value.int .i64 0, Value.int .i64 0, Value.int .i64 0, Value.int .i64 0, Value.int .i64 0] 201)
  rw [← hW] at HRG
  have HR : Hid (W.heap[w.heap.size + 1]? = some (.cells (arr16 fun _ => 0) 201 (0, 0))) := HRG.1
  have HG : Hid (W.heap[w.heap.size + 1 + 1]? = some (.cells (arr16 fun _ => 0) 201 (0, 0))) := HRG.2.1
  have hsz : w.heap.size + 1 + 1 < W.heap.size := HRG.2.2
  clear HRG
  have HC : Hid (s.kn = 0 ∨ (s.kn = 8 ∧ ∃ b off, a = some ⟨b, off, none⟩ ∧ ∀ i, i < s.kn → W.cell? ⟨b, off + i * 2, none⟩ = some (.int .i64 (s.ks i)) ∧ W.cell? ⟨b, off + i * 2 + 1, none⟩ = some (.int .i64 (s.kb i)))) := by
    rcases Hk.out with h | h
    · exact Or.inl h
    · obtain ⟨b, off, ha, _, _, k1⟩ := G1.out (by omega)
      exact Or.inr ⟨h, b, off, ha, fun i hi => ⟨(hb.cell (lt_of_cell (k1 i hi).1)).trans (k1 i hi).1, (hb.cell (lt_of_cell (k1 i hi).2)).trans (k1 i hi).2⟩⟩
  rw [← hW]
  clear hW z16
  obtain ⟨⟨x0, x1⟩, ⟨x2, x3⟩, ⟨x4, x5⟩⟩ := Hx.out
  go_region_law (refine step_copy_kids rfl (.tmp 4) (.tmp 6) rfl (w.heap.size + 1 + 1) a c s (by simp [Act.eval]) (by simp [Act.eval]) HG.out HC.out ?_; intro w1 cv HG1 ht1)
  have hR1 : w1.heap[w.heap.size + 1]? = some (.cells (arr16 fun _ => 0) 201 (0, 0)) := (ht1.block _ (by show _ < W.heap.size; omega) (by omega)).trans HR.out
  have HR1 : Hid (w1.heap[w.heap.size + 1]? = some (.cells (arr16 fun _ => 0) 201 (0, 0))) := hR1
  have hb1 : Below w.heap.size w w1 := hb.drew.trans (ht1.below (by show _ ≤ W.heap.size; omega) (by intro k hk; omega))
  clear hR1 ht1 x0 x1 x2 x3 x4 x5
  have hi16 : (Tryz.prog.info? 201).map (·.size) = some (kidsA s).size := by rw [kidsA, arr16_size]; exact infoArr
  have Hi16 : Hid ((Tryz.prog.info? 201).map (·.size) = some (kidsA s).size) := hi16
  clear hi16
  go_wp2_with (first
    | (refine wpList_load_row rfl 201 (.tmp 3) rfl (w.heap.size + 1 + 1) rfl 201 (kidsA s) (0, 0) _ HG1.out arrU rfl Hi16.out ?_)
    | (refine wpList_store_row rfl 201 (.tmp 2) (.tmp 8) rfl (w.heap.size + 1) (kidsA s) rfl rfl 201 (arr16 fun _ => 0) HR1.out Hi16.out (by rw [kidsA, arr16_size, arr16_size]) (arr16_one _) ?_))
  refine bodyPost_ret (v := .agg (kidsA s)) (results_cell_row (P := Tryz.prog) (ty := 201) Tryz.results177 _ _ (w.heap.size + 1) 201 (kidsA s) (0, 0) _ rfl (setRow_heap _ _ _ _ _ _ HR1.out) arrU rfl Hi16.out) rfl ⟨rfl, ?_⟩
  exact below_setRow hb1 (by omega) _

def KidFound (n : Nat) (f : Nat → SlotD) (b ks kb rs rb : Int) : Prop :=
  ∃ ps pb, PtrOf n f ks ps pb ∧ (((PtrEq ks kb 0 0 ∨ b < pb) ∧ rs = 0 ∧ rb = 0) ∨ (¬ (PtrEq ks kb 0 0 ∨ b < pb) ∧ rs = ps ∧ rb = pb))

set_option maxRecDepth 20000 in
set_option maxHeartbeats 400000 in
theorem kidFound_any (v : Value) (n lo hi : Nat) (f : Nat → SlotD) (ks kb b : Int) (w : World) (h1 : SlotsAt w lo hi v n f) :
    Calls Tryz.prog 178 #[v, .agg #[.int .i64 ks, .int .i64 kb], .int .i64 b] w fun e w' => (∃ rs rb, e = .returned (.agg #[.int .i64 rs, .int .i64 rb]) ∧ KidFound n f b ks kb rs rb) ∧ Below w.heap.size w w' := by
  have Hi : Hid (SlotsAt w lo hi v n f) := h1
  obtain ⟨m1, a, c, rfl, mc, g1⟩ := h1
  clear g1
  have Hbw : Hid (Below w.heap.size w ((w.alloc (.cells #[.int .i64 ks, .int .i64 kb] 43)).alloc (.cells #[.int .i64 0, .int .i64 0] 43))) := below_next (below_alloc _ _) (below_alloc _ _)
  go_enter Tryz.func178, Tryz.ntmps178
  go_wp2_with fail
  refine (ptrOf_any _ n lo hi f _ _ (Hi.out.below Hbw.out)).mono ?_
  rintro e w1 ⟨⟨ps, pb, rfl, hp⟩, hb1⟩
  have Hp : Hid (PtrOf n f ks ps pb) := hp
  have HX : Hid (Box2 w1 w.heap.size (.int .i64 ks) (.int .i64 kb)) := ((Box2.new w _ _ _).below (below_alloc _ _)).below hb1
  have HR : Hid (Box2 w1 (w.heap.size + 1) (.int .i64 0) (.int .i64 0)) := by
    have := (Box2.new (w.alloc (.cells #[.int .i64 ks, .int .i64 kb] 43)) (.int .i64 0) (.int .i64 0) 43).below hb1
    rw [World.size_alloc] at this
    exact this
  have hbn := below_next Hbw.out hb1
  have hz : w.heap.size < w1.heap.size := HX.out.1.lt
  have hz1 : w.heap.size + 1 < w1.heap.size := HR.out.1.lt
  clear hp hb1
  obtain ⟨⟨x0, x1⟩, ⟨x2, x3⟩⟩ := HX.out
  obtain ⟨⟨y0, y1⟩, ⟨y2, y3⟩⟩ := HR.out
  have HY := fun u0 u1 => (HR.out.put u0 u1).below (below_alloc _ (.cells #[.int .i64 ps, .int .i64 pb] 43))
  have HYh : Hid (∀ u0 u1, Box2 (((w1.setCell ⟨w.heap.size + 1, 0, none⟩ u0).setCell ⟨w.heap.size + 1, 1, none⟩ u1).alloc (.cells #[.int .i64 ps, .int .i64 pb] 43)) (w.heap.size + 1) u0 u1) := HY
  clear HY
  have HBh : Hid (∀ u0 u1, Below w.heap.size w (((w1.setCell ⟨w.heap.size + 1, 0, none⟩ u0).setCell ⟨w.heap.size + 1, 1, none⟩ u1).alloc (.cells #[.int .i64 ps, .int .i64 pb] 43))) := fun u0 u1 => ((hbn.setCell (by show _ ≤ w.heap.size + 1; omega) _).setCell (by show _ ≤ w.heap.size + 1; omega) _).alloc (by simp; omega) _
  by_cases hnone : PtrEq ks kb 0 0
  · obtain ⟨rfl, rfl⟩ := hnone
    have HK : Hid (KidFound n f b 0 0 0 0) := ⟨ps, pb, Hp.out, Or.inl ⟨Or.inl ⟨rfl, rfl⟩, rfl, rfl⟩⟩
    go_wp2
    have hy := HYh.out (.int .i64 0) (.int .i64 0)
    refine bodyPost_ret (v := .agg #[.int .i64 0, .int .i64 0]) (by simp [results, Tryz.results178, go_sem, hy.1.1, hy.2.1]) rfl ⟨⟨_, _, rfl, HK.out⟩, HBh.out _ _⟩
  · have HN : Hid (¬ PtrEq ks kb 0 0) := hnone
    have e0 : (ks == 0) = false ∨ (ks == 0) = true ∧ (kb == 0) = false := by
      by_cases h : ks = 0
      · right
        refine ⟨by simp [h], ?_⟩
        have : kb ≠ 0 := fun h' => hnone ⟨h, h'⟩
        simp [this]
      · left; simp [h]
    clear hnone
    by_cases hlt : b < pb
    · have HK : Hid (KidFound n f b ks kb 0 0) := ⟨ps, pb, Hp.out, Or.inl ⟨Or.inr hlt, rfl, rfl⟩⟩
      have hy := HYh.out (.int .i64 0) (.int .i64 0)
      have Hy : Hid (Box2 (((w1.setCell ⟨w.heap.size + 1, 0, none⟩ (.int .i64 0)).setCell ⟨w.heap.size + 1, 1, none⟩ (.int .i64 0)).alloc (.cells #[.int .i64 ps, .int .i64 pb] 43)) (w.heap.size + 1) (.int .i64 0) (.int .i64 0)) := hy
      clear hy
      rcases e0 with e0 | ⟨e0, e1⟩
      all_goals
        go_wp2
        have hy := Hy.out
        refine bodyPost_ret (v := .agg #[.int .i64 0, .int .i64 0]) (by simp [results, Tryz.results178, go_sem, hy.1.1, hy.2.1]) rfl ⟨⟨_, _, rfl, HK.out⟩, HBh.out _ _⟩
    · have HK : Hid (KidFound n f b ks kb ps pb) := ⟨ps, pb, Hp.out, Or.inr ⟨fun h => by rcases h with h | h; exact HN.out h; exact hlt h, rfl, rfl⟩⟩
      rcases e0 with e0 | ⟨e0, e1⟩
      all_goals
        go_wp2
        have hy := HYh.out (.int .i64 ps) (.int .i64 pb)
        refine bodyPost_ret (v := .agg #[.int .i64 ps, .int .i64 pb]) (by simp [results, Tryz.results178, go_sem, hy.1.1, hy.2.1]) rfl ⟨⟨_, _, rfl, HK.out⟩, HBh.out _ _⟩

end Go.Proofs.YtjpbmpjddbekgaaGreat
