/- What spec.l01Is, spec.PtrsRight, spec.l03In and spec.PtrsSame answer. -/
import Derived.Test.YtckamdnichangaaDeadA
import Derived.BigQuiet
namespace Go.Proofs.Ytckamdnichangaa
open Go.RowKit Go.Maps
set_option linter.unusedVariables false

def Between (n a b : Int) : Prop := a ≤ n ∧ n ≤ b

set_option maxRecDepth 20000 in
set_option maxHeartbeats 400000 in
theorem l01Is_any (n a b : Int) (w : World) : Calls Try.prog 93 #[.int .i64 n, .int .i64 a, .int .i64 b] w fun e w' => BoolIs (Between n a b) e ∧ w' = w := by
  by_cases h1 : a ≤ n
  · by_cases h2 : n ≤ b
    · go_enter Try.func93, Try.ntmps93
      go_wp2
      go_ret
      exact ⟨BoolIs.yes ⟨h1, h2⟩, rfl⟩
    · go_enter Try.func93, Try.ntmps93
      go_wp2
      go_ret
      exact ⟨BoolIs.no fun h => by have := h.2; omega, rfl⟩
  · go_enter Try.func93, Try.ntmps93
    go_wp2
    go_ret
    exact ⟨BoolIs.no fun h => by have := h.1; omega, rfl⟩

set_option maxRecDepth 20000 in
set_option maxHeartbeats 1000000 in
theorem specPtrsRight_any (v : Value) (n lo hi : Nat) (f g : Nat → Int) (w : World) (h1 : PtrsAt w lo hi v n f g) :
    Calls Try.prog 36 #[v] w fun e w' => BoolIs (PtrsOk n f g) e ∧ Below w.heap.size w w' := by
  have Hp := hideD h1
  obtain ⟨m1, a, c, rfl, mc, _⟩ := id h1
  clear h1
  unfold maxLen at m1
  by_cases hn : n ≤ 200
  · have hn' : ¬ (200 : Int) < (n : Int) := by omega
    go_enter Try.func36, Try.ntmps36
    go_wp2
    go_loopw [3] (fun i wr => ∃ k : Nat, k ≤ n ∧ i = .int .i64 k ∧ (∀ i, i < k → PtrOk (f i) (g i)) ∧ Dist k f ∧ Below w.heap.size w wr) (fun i _ => n - (intOf i).toNat)
    case atStart => exact ⟨0, Nat.zero_le _, rfl, fun j hj => absurd hj (Nat.not_lt_zero _), fun j hj => absurd hj (Nat.not_lt_zero _), Below.refl _ _⟩
    case round =>
      obtain ⟨k, hk, rfl, hall, hdist, hb⟩ := hrel
      have Hall := hideD hall
      have Hdist := hideD hdist
      clear hall hdist
      by_cases hlt : k < n
      · have hlt' : (k : Int) < (n : Int) := by omega
        obtain ⟨b, off, rfl, q0, q1⟩ := (Hp.out.below hb).cellsD hlt
        by_cases hx : Between (f k) 0 199
        · have Hx := hideD hx
          clear hx
          by_cases hy : BirthOk (g k)
          · have Hy := hideD hy
            clear hy
            go_wp2_with (first
              | (go_at_call 93; refine (l01Is_any (f k) 0 199 _).mono ?_; rintro e w1 ⟨⟨t, rfl, ht⟩, rfl⟩; obtain rfl : t = true := ht.2 Hx.out; clear ht)
              | (go_at_call 94; refine (l01Birth_any (g k) _).mono ?_; rintro e w2 ⟨⟨t, rfl, ht⟩, rfl⟩; obtain rfl : t = true := ht.2 Hy.out; clear ht)
              | fail)
            go_wp2
            go_loopw [4] (fun i wr => ∃ j : Nat, j ≤ k ∧ i = .int .i64 j ∧ (∀ i, i < j → f i ≠ f k) ∧ Below w.heap.size w wr) (fun i _ => k - (intOf i).toNat)
            case atStart => exact ⟨0, Nat.zero_le _, rfl, fun j hj => absurd hj (Nat.not_lt_zero _), hb⟩
            case round =>
              obtain ⟨j, hj, rfl, hne, hbj⟩ := hrel
              have Hne := hideD hne
              clear hne q0 q1 hb
              by_cases hjk : j < k
              · have hjk' : (j : Int) < (k : Int) := by omega
                have hjn' : (j : Int) < (n : Int) := by omega
                obtain ⟨_, _, ha, r0, _⟩ := (Hp.out.below hbj).cellsD (show j < n by omega)
                simp only [Option.some.injEq, Addr.mk.injEq, and_true] at ha
                obtain ⟨rfl, rfl⟩ := ha
                obtain ⟨_, _, ha, s0, _⟩ := (Hp.out.below hbj).cellsD hlt
                simp only [Option.some.injEq, Addr.mk.injEq, and_true] at ha
                obtain ⟨rfl, rfl⟩ := ha
                by_cases he : f j = f k
                · have He := hideD he
                  have e0 : (f j == f k) = true := by simp [he]
                  clear he
                  go_wp2
                  go_quiet (fail)
                  go_wp2
                  go_ret
                  exact ⟨BoolIs.no fun h => h.2.2 k hlt j hjk He.out, below_drewN hbj _⟩
                · have He := hideD he
                  have e0 : (f j == f k) = false := by simp [he]
                  clear he
                  go_wp2
                  go_quiet (fail)
                  go_wp2
                  go_roundw
                  case rel => exact ⟨j + 1, by omega, by go_num, relNext hjk Hne.out He.out, below_drewN hbj _⟩
                  case measure => simp [intOf]; omega
              · obtain rfl : j = k := by omega
                go_wp2
                go_roundw
                case rel => exact ⟨j + 1, by omega, by go_num, relNext hlt Hall.out ⟨Hx.out.1, Hx.out.2, Hy.out.1, Hy.out.2⟩, dist_succ.2 ⟨Hdist.out, Hne.out⟩, hbj⟩
                case measure => simp [intOf]; omega
          · have Hy := hideD hy
            clear hy
            go_wp2_with (first
              | (go_at_call 93; refine (l01Is_any (f k) 0 199 _).mono ?_; rintro e w1 ⟨⟨t, rfl, ht⟩, rfl⟩; obtain rfl : t = true := ht.2 Hx.out; clear ht)
              | (go_at_call 94; refine (l01Birth_any (g k) _).mono ?_; rintro e w2 ⟨⟨t, rfl, ht⟩, rfl⟩; obtain rfl : t = false := bool_no ht Hy.out; clear ht)
              | fail)
            go_wp2
            go_ret
            exact ⟨BoolIs.no fun h => Hy.out ⟨(h.2.1 k hlt).2.2.1, (h.2.1 k hlt).2.2.2⟩, hb⟩
        · have Hx := hideD hx
          clear hx
          go_wp2_with (first
            | (go_at_call 93; refine (l01Is_any (f k) 0 199 _).mono ?_; rintro e w1 ⟨⟨t, rfl, ht⟩, rfl⟩; obtain rfl : t = false := bool_no ht Hx.out; clear ht)
            | fail)
          go_wp2
          go_ret
          exact ⟨BoolIs.no fun h => Hx.out ⟨(h.2.1 k hlt).1, (h.2.1 k hlt).2.1⟩, hb⟩
      · obtain rfl : k = n := by omega
        go_wp2
        go_ret
        exact ⟨BoolIs.yes ⟨hn, Hall.out, Hdist.out⟩, hb⟩
  · have hn' : (200 : Int) < (n : Int) := by omega
    go_enter Try.func36, Try.ntmps36
    go_wp2
    go_ret
    exact ⟨BoolIs.no fun h => hn h.1, Below.refl _ _⟩

set_option maxRecDepth 20000 in
set_option maxHeartbeats 1000000 in
theorem l03In_any (v : Value) (n lo hi : Nat) (f g : Nat → Int) (x y : Int) (w : World) (h1 : PtrsAt w lo hi v n f g) :
    Calls Try.prog 95 #[v, .agg #[.int .i64 x, .int .i64 y]] w fun e w' => BoolIs (PIn n f g x y) e ∧ Below w.heap.size w w' := by
  have Hp := hideD h1
  obtain ⟨m1, a, c, rfl, mc, _⟩ := id h1
  unfold maxLen at m1
  clear h1
  have ha := below_alloc w (.cells #[.int .i64 x, .int .i64 y] 33)
  have HB := hideD (Box2.new w (.int .i64 x) (.int .i64 y) 33)
  go_enter Try.func95, Try.ntmps95
  go_wp2
  go_loopw [5] (fun i wr => ∃ k : Nat, k ≤ n ∧ i = .int .i64 k ∧ ¬ PIn k f g x y ∧ Box2 wr w.heap.size (.int .i64 x) (.int .i64 y) ∧ Below w.heap.size w wr) (fun i _ => n - (intOf i).toNat)
  case atStart => exact ⟨0, Nat.zero_le _, rfl, fun ⟨j, hj, _⟩ => absurd hj (Nat.not_lt_zero _), HB.out, ha⟩
  case round =>
    obtain ⟨k, hk, rfl, hno, hX, hb⟩ := hrel
    have Hno := hideD hno
    have HX := hideD hX
    clear hno hX
    obtain ⟨⟨x0, x1⟩, ⟨x2, x3⟩⟩ := HX.out
    by_cases hlt : k < n
    · have hlt' : (k : Int) < (n : Int) := by omega
      obtain ⟨b, off, rfl, q0, q1⟩ := (Hp.out.below hb).cellsD hlt
      by_cases he : f k = x ∧ g k = y
      · have H := hideD (show PIn n f g x y from ⟨k, hlt, he.1, he.2⟩)
        rw [he.1] at q0
        rw [he.2] at q1
        clear he
        go_wp2
        go_quiet (fail)
        go_wp2
        go_ret
        exact ⟨BoolIs.yes H.out, below_drewN hb _⟩
      · have H := hideD he
        have e0 : (f k == x) = false ∨ (f k == x) = true ∧ (g k == y) = false := by
          by_cases h : f k = x
          · right
            refine ⟨by simp [h], ?_⟩
            have : g k ≠ y := fun h' => he ⟨h, h'⟩
            simp [this]
          · left; simp [h]
        clear he
        rcases e0 with e0 | ⟨e0, e1⟩
        all_goals
          go_wp2
          go_quiet (fail)
          go_wp2
          go_roundw
          case rel =>
            refine ⟨k + 1, by omega, by go_num, ?_, HX.out.below (below_drewN (Below.refl _ _) _), below_drewN hb _⟩
            rintro ⟨j, hj, hjx⟩
            by_cases e : j = k
            · subst e; exact H.out ⟨hjx.1, hjx.2⟩
            · exact Hno.out ⟨j, by omega, hjx⟩
          case measure => simp [intOf]; omega
    · obtain rfl : k = n := by omega
      go_wp2
      go_ret
      exact ⟨BoolIs.no Hno.out, hb⟩

set_option maxRecDepth 20000 in
set_option maxHeartbeats 1000000 in
theorem specPtrsSame_any (v v' : Value) (n lo hi n' lo' hi' : Nat) (f g f' g' : Nat → Int) (w : World) (h1 : PtrsAt w lo hi v n f g) (h2 : PtrsAt w lo' hi' v' n' f' g') :
    Calls Try.prog 38 #[v, v'] w fun e w' => BoolIs (PSame n f g n' f' g') e ∧ Below w.heap.size w w' := by
  have Hp := hideD h1
  have Hp' := hideD h2
  obtain ⟨m1, a, c, rfl, mc, _⟩ := id h1
  obtain ⟨m2, a', c', rfl, mc', _⟩ := id h2
  unfold maxLen at m1 m2
  clear h1 h2
  by_cases ho : PtrsOk n f g
  · have Ho := hideD ho
    clear ho
    by_cases ho' : PtrsOk n' f' g'
    · have Ho' := hideD ho'
      clear ho'
      go_enter Try.func38, Try.ntmps38
      go_wp2_with fail
      refine (specPtrsRight_any _ n lo hi f g _ Hp.out).mono ?_
      rintro e w1 ⟨⟨t, rfl, ht⟩, hb1⟩
      obtain rfl : t = true := ht.2 Ho.out
      clear ht
      go_wp2_with fail
      refine (specPtrsRight_any _ n' lo' hi' f' g' _ (Hp'.out.below hb1)).mono ?_
      rintro e w2 ⟨⟨t, rfl, ht⟩, hb2⟩
      obtain rfl : t = true := ht.2 Ho'.out
      have hB2 := below_next hb1 hb2
      clear ht hb1 hb2
      by_cases hnn : n = n'
      · subst hnn
        have e0 : ((n : Int) != (n : Int)) = false := by simp
        go_wp2
        go_loopw [5] (fun i wr => ∃ k : Nat, k ≤ n ∧ i = .int .i64 k ∧ (∀ i, i < k → PIn n f' g' (f i) (g i)) ∧ Below w.heap.size w wr) (fun i _ => n - (intOf i).toNat)
        case atStart => exact ⟨0, Nat.zero_le _, rfl, fun j hj => absurd hj (Nat.not_lt_zero _), hB2⟩
        case round =>
          obtain ⟨k, hk, rfl, hall, hb⟩ := hrel
          have Hall := hideD hall
          clear hall
          by_cases hlt : k < n
          · have hlt' : (k : Int) < (n : Int) := by omega
            obtain ⟨b, off, rfl, q0, q1⟩ := (Hp.out.below hb).cellsD hlt
            go_wp2_with fail
            refine (l03In_any _ n lo' hi' f' g' (f k) (g k) _ (Hp'.out.below hb)).mono ?_
            rintro e w3 ⟨⟨t, rfl, ht⟩, hb3⟩
            have hB3 := below_next hb hb3
            clear hb3
            by_cases hi' : PIn n f' g' (f k) (g k)
            · have Hi := hideD hi'
              obtain rfl : t = true := ht.2 hi'
              clear ht hi'
              go_wp2
              go_roundw
              case rel => exact ⟨k + 1, by omega, by go_num, relNext hlt Hall.out Hi.out, hB3⟩
              case measure => simp [intOf]; omega
            · have Hi := hideD hi'
              obtain rfl : t = false := bool_no ht hi'
              clear ht hi'
              go_wp2
              go_ret
              exact ⟨BoolIs.no fun h => Hi.out (h.2.2.2 k hlt), hB3⟩
          · obtain rfl : k = n := by omega
            go_wp2
            go_ret
            exact ⟨BoolIs.yes ⟨Ho.out, Ho'.out, rfl, Hall.out⟩, hb⟩
      · have e0 : ((n : Int) != (n' : Int)) = true := by simp; omega
        have Hn := hideD hnn
        clear hnn
        go_wp2
        go_ret
        exact ⟨BoolIs.no fun h => Hn.out h.2.2.1, hB2⟩
    · have Ho' := hideD ho'
      clear ho'
      go_enter Try.func38, Try.ntmps38
      go_wp2_with fail
      refine (specPtrsRight_any _ n lo hi f g _ Hp.out).mono ?_
      rintro e w1 ⟨⟨t, rfl, ht⟩, hb1⟩
      obtain rfl : t = true := ht.2 Ho.out
      clear ht
      go_wp2_with fail
      refine (specPtrsRight_any _ n' lo' hi' f' g' _ (Hp'.out.below hb1)).mono ?_
      rintro e w2 ⟨⟨t, rfl, ht⟩, hb2⟩
      obtain rfl : t = false := bool_no ht Ho'.out
      have hB2 := below_next hb1 hb2
      clear ht hb1 hb2
      go_wp2
      go_ret
      exact ⟨BoolIs.no fun h => Ho'.out h.2.1, hB2⟩
  · have Ho := hideD ho
    clear ho
    go_enter Try.func38, Try.ntmps38
    go_wp2_with fail
    refine (specPtrsRight_any _ n lo hi f g _ Hp.out).mono ?_
    rintro e w1 ⟨⟨t, rfl, ht⟩, hb1⟩
    obtain rfl : t = false := bool_no ht Ho.out
    clear ht
    go_wp2
    go_ret
    exact ⟨BoolIs.no fun h => Ho.out h.1, hb1⟩

end Go.Proofs.Ytckamdnichangaa
