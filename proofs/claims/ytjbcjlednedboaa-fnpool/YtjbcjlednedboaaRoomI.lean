/- What impl.PoolRoom answers. -/
import Derived.Test.YtjbcjlednedboaaImplRight3
namespace Go.Proofs.Ytjbcjlednedboaa
open Go.RowKit
set_option linter.unusedVariables false

open Classical in
/-- How many of the first k slots are free. -/
noncomputable def roomN (f : Nat → SlotD) : Nat → Nat
  | 0 => 0
  | k + 1 => roomN f k + (if Free (f k) then 1 else 0)

theorem roomN_yes {f : Nat → SlotD} {k : Nat} (h : Free (f k)) : roomN f (k + 1) = roomN f k + 1 := by simp [roomN, h]
theorem roomN_no {f : Nat → SlotD} {k : Nat} (h : ¬ Free (f k)) : roomN f (k + 1) = roomN f k := by simp [roomN, h]
theorem roomN_le (f : Nat → SlotD) : ∀ k, roomN f k ≤ k
  | 0 => Nat.le_refl _
  | k + 1 => by
    have := roomN_le f k
    by_cases h : Free (f k)
    · rw [roomN_yes h]; omega
    · rw [roomN_no h]; omega

open Classical in
/-- What PoolRoom tells. -/
noncomputable def roomP (p : PoolD) : Int := if Right p then (roomN p.s p.n : Int) else 0

set_option maxRecDepth 20000 in
set_option maxHeartbeats 1000000 in
theorem implPoolRoom_any (v0 v1 : Value) (lo hi : Nat) (p : PoolD) (w : World) (h1 : PoolAt w lo hi v0 v1 p) :
    Calls Try.prog 13 #[.agg #[v0, v1]] w fun e w' => e = .returned (.int .i64 (roomP p)) ∧ Below w.heap.size w w' := by
  have Hp : Hid (PoolAt w lo hi v0 v1 p) := h1
  obtain ⟨⟨m1, a, c, rfl, mc, g1⟩, ⟨m2, a', c', rfl, mc', g2⟩⟩ := h1
  unfold maxLen at m1 m2
  clear g1 g2
  have ha := below_alloc w (.cells #[.slice a p.n c, .slice a' p.hn c'] 26)
  go_enter Try.func13, Try.ntmps13
  go_wp2_with fail
  refine (implPoolRight_any _ _ lo hi p _ (Hp.out.below ha)).mono ?_
  rintro e w1 ⟨⟨t, rfl, ht⟩, hb1⟩
  have Hx : Hid (Box2 w1 w.heap.size (.slice a p.n c) (.slice a' p.hn c')) := (Box2.new w _ _ _).below hb1
  have hbn := below_next ha hb1
  clear ha hb1
  by_cases hR : Right p
  · obtain rfl : t = true := ht.2 hR
    have HR : Hid (Right p) := hR
    have hn200 : (p.n : Int) ≤ 200 := by have := hR.1; omega
    clear ht hR
    obtain ⟨⟨y0, y1⟩, ⟨y2, y3⟩⟩ := Hx.out
    have HRo : Hid (roomP p = (roomN p.s p.n : Int)) := if_pos HR.out
    have HB : Hid (Below w.heap.size w w1) := hbn
    go_wp2
    clear y0 y1 y2 y3 hbn
    go_loopw [3, 12] (fun m i wr => ∃ k : Nat, k ≤ p.n ∧ i = .int .i64 k ∧ m = .int .i64 (roomN p.s k : Int) ∧ Below w.heap.size w wr) (fun _ i _ => p.n - (intOf i).toNat)
    case atStart => exact ⟨0, Nat.zero_le _, rfl, rfl, HB.out⟩
    case round =>
      obtain ⟨k, hk, rfl, rfl, hb⟩ := hrel
      have hrn := roomN_le p.s k
      by_cases hlt : k < p.n
      · have hlt' : (k : Int) < (p.n : Int) := by omega
        obtain ⟨b, off, ka, kc, rfl, hs⟩ := (Hp.out.1.below hb).cells hlt
        have Hs : Hid (SlotCells wr b (off + k * 3) lo hi ka kc (p.s k)) := hs
        obtain ⟨q0, q1, q2, _⟩ := hs
        go_wp2_with fail
        have hal := below_alloc wr (.cells #[.int .i64 (p.s k).birth, .slice ka (p.s k).kn kc, .string (p.s k).data] 29)
        refine (isFree_any _ _ _ lo hi (p.s k) _ (Hs.out.slot.below hal)).mono ?_
        rintro e w2 ⟨⟨t, rfl, ht⟩, hb1⟩
        have hbm := below_next hb (below_next hal hb1)
        clear hb1 q0 q1 q2 Hs hal
        by_cases hf : Free (p.s k)
        · obtain rfl : t = true := ht.2 hf
          have HF : Hid (Free (p.s k)) := hf
          clear ht hf
          go_wp2
          go_roundw
          case rel => exact ⟨k + 1, by omega, by go_num, congrArg (Value.int .i64) (by rw [roomN_yes HF.out]; omega), hbm⟩
          case measure => simp [intOf]; omega
        · obtain rfl : t = false := bool_no ht hf
          have HF : Hid (¬ Free (p.s k)) := hf
          clear ht hf
          go_wp2
          go_roundw
          case rel => exact ⟨k + 1, by omega, by go_num, congrArg (Value.int .i64) (by rw [roomN_no HF.out]), hbm⟩
          case measure => simp [intOf]; omega
      · obtain rfl : k = p.n := by omega
        go_wp2
        go_ret
        exact ⟨by rw [HRo.out]; rfl, hb⟩
  · obtain rfl : t = false := bool_no ht hR
    have HR : Hid (¬ Right p) := hR
    clear ht hR
    go_wp2
    go_ret
    refine ⟨?_, hbn⟩
    have e : roomP p = 0 := if_neg HR.out
    rw [e]
    rfl

end Go.Proofs.Ytjbcjlednedboaa
