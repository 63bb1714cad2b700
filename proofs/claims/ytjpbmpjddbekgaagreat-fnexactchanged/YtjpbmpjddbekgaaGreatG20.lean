/- What impl.PtrsSame answers. -/
import Derived.Test.YtjpbmpjddbekgaaGreatG3
namespace Go.Proofs.YtjpbmpjddbekgaaGreat
open Go.RowKit Go.Maps
set_option linter.unusedVariables false

theorem dat0 : (datI 0 : DataW Unit) = .lit (.int .i64 0) := rfl

set_option maxRecDepth 20000 in
set_option maxHeartbeats 1000000 in
theorem implPtrsSame_any (v v' : Value) (n lo hi n' lo' hi' : Nat) (f g f' g' : Nat → Int) (w : World) (h1 : PtrsAt w lo hi v n f g) (h2 : PtrsAt w lo' hi' v' n' f' g') :
    Calls Tryz.prog 168 #[v, v'] w fun e w' => BoolIs (PSame n f g n' f' g') e ∧ Below w.heap.size w w' := by
  have Hp := hideD h1
  have Hp' := hideD h2
  obtain ⟨m1, a, c, rfl, mc, _⟩ := id h1
  obtain ⟨m2, a', c', rfl, mc', _⟩ := id h2
  unfold maxLen at m1 m2
  clear h1 h2
  by_cases ho : PtrsOk n f g
  · have Ho := hideD ho
    clear ho
    by_cases ho' : PtrsOk n' f' g'
    · have Ho' := hideD ho'
      clear ho'
      go_enter Tryz.func168, Tryz.ntmps168
      go_wp2_with fail
      refine (implPtrsRight_any _ n lo hi f g _ Hp.out).mono ?_
      rintro e w1 ⟨⟨t, rfl, ht⟩, hb1⟩
      obtain rfl : t = true := ht.2 Ho.out
      clear ht
      go_wp2_with fail
      refine (implPtrsRight_any _ n' lo' hi' f' g' _ (Hp'.out.below hb1)).mono ?_
      rintro e w2 ⟨⟨t, rfl, ht⟩, hb2⟩
      obtain rfl : t = true := ht.2 Ho'.out
      have hB2 := below_next hb1 hb2
      clear ht hb1 hb2
      go_wp2_with fail
      refine (slotsSeen_any _ n lo hi f g _ (Hp.out.below hB2) Ho.out.1 Ho.out.2.1).mono ?_
      rintro e w3 ⟨rfl, hm, hb3⟩
      have Hm := hideD hm
      have hB3 := below_next hB2 hb3
      have hz : w.heap.size ≤ w2.heap.size := hB2.size
      clear hm hb3 hB2
      go_wp2
      go_loopw [20] (fun i wr => ∃ (k : Nat) (D : DataW Unit), k ≤ n' ∧ i = .int .i64 k ∧ MapAt wr w2.heap.size n D ∧ LeftD n f g f' k D ∧ (∀ j, j < k → PIn n f g (f' j) (g' j)) ∧ Below w.heap.size w wr) (fun i _ => n' - (intOf i).toNat)
      case atStart => exact ⟨0, _, Nat.zero_le _, rfl, Hm.out, LeftD.start Ho.out f', fun j hj => absurd hj (Nat.not_lt_zero _), hB3⟩
      case round =>
        obtain ⟨k, D, hk, rfl, hown, hleft, hin, hb⟩ := hrel
        have Hown := hideD hown
        have Hleft := hideD hleft
        have Hin := hideD hin
        clear hown hleft hin Hm hB3
        by_cases hlt : k < n'
        · have hlt' : (k : Int) < (n' : Int) := by omega
          obtain ⟨b, off, rfl, q0, q1⟩ := (Hp'.out.below hb).cellsD hlt
          have hkey : keyOf Tryz.prog 2 (.int .i64 (f' k)) = some (keyI (f' k)) := keyOf_int_mk intT (wf_small (Ho'.out.2.1 k hlt).1 (by have := (Ho'.out.2.1 k hlt).2.1; omega))
          have Hkey := hideD hkey
          clear hkey
          have hb1 := hb.alloc hb.size (.cells #[.int .i64 (f' k), .int .i64 (g' k)] 43)
          have hz1 : w2.heap.size ≤ wr.heap.size := Nat.le_of_lt Hown.out.lt
          go_wp2_with (first
            | (at_lookup; refine wpList_lookup_own_int _ rfl _ _ 206 rfl 2 2 .i64 lawK mapT intT (zeroK _) w2.heap.size n D rfl (Hown.out.alloc _) _ _ rfl Hkey.out ?_; intro c0 hat hwc)
            | (at_delete; refine wpList_delete_own _ rfl _ _ 206 2 rfl 2 lawK mapT _ w2.heap.size n D rfl (Hown.out.alloc _) _ _ rfl Hkey.out ?_; intro w4 hown4 hturn4)
            | go_in)
          · have hne : c0 ≠ g' k := by
              have h : (c0 != g' k) = true := by assumption
              simpa using h
            go_ret
            exact ⟨BoolIs.no (Hleft.out.no Ho.out Ho'.out hlt (show D.atKey (keyI (f' k)) (datI 0) = datI c0 from hat) hne), hb1⟩
          · have he : c0 = g' k := by
              have h : (c0 != g' k) = false := by assumption
              simpa using h
            subst he
            have Hat : D.atKey (keyI (f' k)) (datI 0) = datI (g' k) := hat
            go_roundw
            case rel => exact ⟨k + 1, _, by omega, by go_num, hown4, Hleft.out.next Ho'.out hlt Hat, relNext hlt Hin.out (Hleft.out.in Ho'.out hlt Hat), hb1.grown hturn4.grown hb1.size (fun j hj => by cases hj; exact hz)⟩
            case measure => simp [intOf]; omega
        · obtain rfl : k = n' := by omega
          go_wp2_with (first
            | (at_len; refine wpList_len_own _ rfl _ 206 rfl 2 2 mapT _ w2.heap.size n D rfl Hown.out ?_)
            | go_in)
          go_ret
          refine ⟨⟨_, rfl, ?_⟩, hb⟩
          have He := Hleft.out.end Ho.out Ho'.out Hin.out
          rw [← He]
          simp
    · have Ho' := hideD ho'
      clear ho'
      go_enter Tryz.func168, Tryz.ntmps168
      go_wp2_with fail
      refine (implPtrsRight_any _ n lo hi f g _ Hp.out).mono ?_
      rintro e w1 ⟨⟨t, rfl, ht⟩, hb1⟩
      obtain rfl : t = true := ht.2 Ho.out
      clear ht
      go_wp2_with fail
      refine (implPtrsRight_any _ n' lo' hi' f' g' _ (Hp'.out.below hb1)).mono ?_
      rintro e w2 ⟨⟨t, rfl, ht⟩, hb2⟩
      obtain rfl : t = false := bool_no ht Ho'.out
      have hB2 := below_next hb1 hb2
      clear ht hb1 hb2
      go_wp2
      go_ret
      exact ⟨BoolIs.no fun h => Ho'.out h.2.1, hB2⟩
  · have Ho := hideD ho
    clear ho
    go_enter Tryz.func168, Tryz.ntmps168
    go_wp2_with fail
    refine (implPtrsRight_any _ n lo hi f g _ Hp.out).mono ?_
    rintro e w1 ⟨⟨t, rfl, ht⟩, hb1⟩
    obtain rfl : t = false := bool_no ht Ho.out
    clear ht
    go_wp2
    go_ret
    exact ⟨BoolIs.no fun h => Ho.out h.1, hb1⟩

end Go.Proofs.YtjpbmpjddbekgaaGreat
