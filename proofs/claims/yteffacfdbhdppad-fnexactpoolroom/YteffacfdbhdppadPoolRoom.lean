/- For every pool that comes in the law FnExactPoolRoom returns true: impl.PoolRoom answers as spec.PoolRoom, and writes nothing of its argument. No condition. -/
import Derived.Test.YteffacfdbhdppadSpecRight3
import Derived.Test.YteffacfdbhdppadImplRight3
import Derived.Test.YteffacfdbhdppadTo
import Derived.Test.YteffacfdbhdppadOpen
import Derived.OpenShut
import Derived.ChangeOld
namespace Go.Proofs.Yteffacfdbhdppad
open Go.ChangeShapes Go.WideShapes Go.ChangeAt Go.RowKit
set_option linter.unusedVariables false

open Classical in
/-- How many of the first k slots are free. -/
noncomputable def roomN (f : Nat → SlotD) : Nat → Nat
  | 0 => 0
  | k + 1 => roomN f k + (if Free (f k) then 1 else 0)

theorem roomN_yes {f : Nat → SlotD} {k : Nat} (h : Free (f k)) : roomN f (k + 1) = roomN f k + 1 := by simp [roomN, h]
theorem roomN_no {f : Nat → SlotD} {k : Nat} (h : ¬ Free (f k)) : roomN f (k + 1) = roomN f k := by simp [roomN, h]
theorem roomN_le (f : Nat → SlotD) : ∀ k, roomN f k ≤ k
  | 0 => Nat.le_refl _
  | k + 1 => by
    have := roomN_le f k
    by_cases h : Free (f k)
    · rw [roomN_yes h]; omega
    · rw [roomN_no h]; omega

open Classical in
/-- What PoolRoom tells. -/
noncomputable def roomP (p : PoolD) : Int := if Right p then (roomN p.s p.n : Int) else 0

set_option maxHeartbeats 1000000 in
theorem l01Room_any (v0 v1 : Value) (lo hi : Nat) (p : PoolD) (w : World) (h1 : PoolAt w lo hi v0 v1 p) (hn : p.n ≤ 200) :
    Calls Try.prog 61 #[.agg #[v0, v1]] w fun e w' => e = .returned (.int .i64 (roomN p.s p.n : Int)) ∧ Below w.heap.size w w' := by
  have Hp : Hid (PoolAt w lo hi v0 v1 p) := h1
  obtain ⟨⟨m1, a, c, rfl, mc, g1⟩, ⟨m2, a', c', rfl, mc', g2⟩⟩ := h1
  unfold maxLen at m1 m2
  clear g1 g2
  have Hbw : Hid (Below w.heap.size w (w.alloc (.cells #[.slice a p.n c, .slice a' p.hn c'] 33))) := below_alloc _ _
  go_enter Try.func61, Try.ntmps61
  go_wp2
  go_loopw [3, 4] (fun m i wr => ∃ k : Nat, k ≤ p.n ∧ i = .int .i64 k ∧ m = .int .i64 (roomN p.s k : Int) ∧ Box2 wr w.heap.size (.slice a p.n c) (.slice a' p.hn c') ∧ Below w.heap.size w wr) (fun _ i _ => p.n - (intOf i).toNat)
  case atStart => exact ⟨0, Nat.zero_le _, rfl, rfl, Box2.new _ _ _ _, Hbw.out⟩
  case round =>
    obtain ⟨k, hk, rfl, rfl, hx, hb⟩ := hrel
    have Hx : Hid (Box2 wr w.heap.size (.slice a p.n c) (.slice a' p.hn c')) := hx
    clear hx
    obtain ⟨⟨y0, y1⟩, ⟨y2, y3⟩⟩ := Hx.out
    have hrn := roomN_le p.s k
    by_cases hlt : k < p.n
    · have hlt' : (k : Int) < (p.n : Int) := by omega
      obtain ⟨b, off, ka, kc, rfl, hs⟩ := (Hp.out.1.below hb).cells hlt
      have Hs : Hid (SlotCells wr b (off + k * 3) lo hi ka kc (p.s k)) := hs
      obtain ⟨q0, q1, q2, _⟩ := hs
      go_wp2_with fail
      refine (l01Free_any _ _ _ lo hi (p.s k) _ Hs.out.slot).mono ?_
      rintro e w1 ⟨⟨t, rfl, ht⟩, hb1⟩
      have HX : Hid (Box2 w1 w.heap.size (.slice (some ⟨b, off, none⟩) p.n c) (.slice a' p.hn c')) := Hx.out.below hb1
      have hbn := below_next hb hb1
      clear hb1 q0 q1 q2 y0 y1 y2 y3 Hs Hx
      by_cases hf : Free (p.s k)
      · obtain rfl : t = true := ht.2 hf
        have HF : Hid (Free (p.s k)) := hf
        clear ht hf
        go_wp2
        go_roundw
        case rel => exact ⟨k + 1, by omega, by go_num, congrArg (Value.int .i64) (by rw [roomN_yes HF.out]; omega), HX.out, hbn⟩
        case measure => simp [intOf]; omega
      · obtain rfl : t = false := bool_no ht hf
        have HF : Hid (¬ Free (p.s k)) := hf
        clear ht hf
        go_wp2
        go_roundw
        case rel => exact ⟨k + 1, by omega, by go_num, congrArg (Value.int .i64) (by rw [roomN_no HF.out]), HX.out, hbn⟩
        case measure => simp [intOf]; omega
    · obtain rfl : k = p.n := by omega
      go_wp2
      go_ret
      exact ⟨rfl, hb⟩

set_option maxHeartbeats 1000000 in
theorem specPoolRoom_any (v0 v1 : Value) (lo hi : Nat) (p : PoolD) (w : World) (h1 : PoolAt w lo hi v0 v1 p) :
    Calls Try.prog 26 #[.agg #[v0, v1]] w fun e w' => e = .returned (.int .i64 (roomP p)) ∧ Below w.heap.size w w' := by
  have Hp : Hid (PoolAt w lo hi v0 v1 p) := h1
  obtain ⟨⟨m1, a, c, rfl, mc, g1⟩, ⟨m2, a', c', rfl, mc', g2⟩⟩ := h1
  clear g1 g2
  have ha := below_alloc w (.cells #[.slice a p.n c, .slice a' p.hn c'] 33)
  go_enter Try.func26, Try.ntmps26
  go_wp2_with fail
  refine (specPoolRight_any _ _ lo hi p _ (Hp.out.below ha)).mono ?_
  rintro e w1 ⟨⟨t, rfl, ht⟩, hb1⟩
  have Hx : Hid (Box2 w1 w.heap.size (.slice a p.n c) (.slice a' p.hn c')) := (Box2.new w _ _ _).below hb1
  have hbn := below_next ha hb1
  clear ha hb1
  by_cases hR : Right p
  · obtain rfl : t = true := ht.2 hR
    have HR : Hid (Right p) := hR
    clear ht hR
    obtain ⟨⟨y0, y1⟩, ⟨y2, y3⟩⟩ := Hx.out
    go_wp2_with fail
    refine (l01Room_any _ _ lo hi p _ (Hp.out.below hbn) HR.out.1).mono ?_
    rintro e w2 ⟨rfl, hb2⟩
    have hbm := below_next hbn hb2
    clear hb2 y0 y1 y2 y3
    go_wp2
    go_ret
    refine ⟨?_, hbm⟩
    have e : roomP p = (roomN p.s p.n : Int) := if_pos HR.out
    rw [e]
    rfl
  · obtain rfl : t = false := bool_no ht hR
    have HR : Hid (¬ Right p) := hR
    clear ht hR
    go_wp2
    go_ret
    refine ⟨?_, hbn⟩
    have e : roomP p = 0 := if_neg HR.out
    rw [e]
    rfl

set_option maxHeartbeats 1000000 in
theorem implPoolRoom_any (v0 v1 : Value) (lo hi : Nat) (p : PoolD) (w : World) (h1 : PoolAt w lo hi v0 v1 p) :
    Calls Try.prog 27 #[.agg #[v0, v1]] w fun e w' => e = .returned (.int .i64 (roomP p)) ∧ Below w.heap.size w w' := by
  have Hp : Hid (PoolAt w lo hi v0 v1 p) := h1
  obtain ⟨⟨m1, a, c, rfl, mc, g1⟩, ⟨m2, a', c', rfl, mc', g2⟩⟩ := h1
  unfold maxLen at m1 m2
  clear g1 g2
  have ha := below_alloc w (.cells #[.slice a p.n c, .slice a' p.hn c'] 33)
  go_enter Try.func27, Try.ntmps27
  go_wp2_with fail
  refine (implPoolRight_any _ _ lo hi p _ (Hp.out.below ha)).mono ?_
  rintro e w1 ⟨⟨t, rfl, ht⟩, hb1⟩
  have Hx : Hid (Box2 w1 w.heap.size (.slice a p.n c) (.slice a' p.hn c')) := (Box2.new w _ _ _).below hb1
  have hbn := below_next ha hb1
  clear ha hb1
  by_cases hR : Right p
  · obtain rfl : t = true := ht.2 hR
    have HR : Hid (Right p) := hR
    have hn200 : (p.n : Int) ≤ 200 := by have := hR.1; omega
    clear ht hR
    obtain ⟨⟨y0, y1⟩, ⟨y2, y3⟩⟩ := Hx.out
    have HRo : Hid (roomP p = (roomN p.s p.n : Int)) := if_pos HR.out
    have HB : Hid (Below w.heap.size w w1) := hbn
    go_wp2
    clear y0 y1 y2 y3 hbn
    go_loopw [3, 12] (fun m i wr => ∃ k : Nat, k ≤ p.n ∧ i = .int .i64 k ∧ m = .int .i64 (roomN p.s k : Int) ∧ Below w.heap.size w wr) (fun _ i _ => p.n - (intOf i).toNat)
    case atStart => exact ⟨0, Nat.zero_le _, rfl, rfl, HB.out⟩
    case round =>
      obtain ⟨k, hk, rfl, rfl, hb⟩ := hrel
      have hrn := roomN_le p.s k
      by_cases hlt : k < p.n
      · have hlt' : (k : Int) < (p.n : Int) := by omega
        obtain ⟨b, off, ka, kc, rfl, hs⟩ := (Hp.out.1.below hb).cells hlt
        have Hs : Hid (SlotCells wr b (off + k * 3) lo hi ka kc (p.s k)) := hs
        obtain ⟨q0, q1, q2, _⟩ := hs
        go_wp2_with fail
        have hal := below_alloc wr (.cells #[.int .i64 (p.s k).birth, .slice ka (p.s k).kn kc, .string (p.s k).data] 42)
        refine (isFree_any _ _ _ lo hi (p.s k) _ (Hs.out.slot.below hal)).mono ?_
        rintro e w2 ⟨⟨t, rfl, ht⟩, hb1⟩
        have hbm := below_next hb (below_next hal hb1)
        clear hb1 q0 q1 q2 Hs hal
        by_cases hf : Free (p.s k)
        · obtain rfl : t = true := ht.2 hf
          have HF : Hid (Free (p.s k)) := hf
          clear ht hf
          go_wp2
          go_roundw
          case rel => exact ⟨k + 1, by omega, by go_num, congrArg (Value.int .i64) (by rw [roomN_yes HF.out]; omega), hbm⟩
          case measure => simp [intOf]; omega
        · obtain rfl : t = false := bool_no ht hf
          have HF : Hid (¬ Free (p.s k)) := hf
          clear ht hf
          go_wp2
          go_roundw
          case rel => exact ⟨k + 1, by omega, by go_num, congrArg (Value.int .i64) (by rw [roomN_no HF.out]), hbm⟩
          case measure => simp [intOf]; omega
      · obtain rfl : k = p.n := by omega
        go_wp2
        go_ret
        exact ⟨by rw [HRo.out]; rfl, hb⟩
  · obtain rfl : t = false := bool_no ht hR
    have HR : Hid (¬ Right p) := hR
    clear ht hR
    go_wp2
    go_ret
    refine ⟨?_, hbn⟩
    have e : roomP p = 0 := if_neg HR.out
    rw [e]
    rfl

set_option maxHeartbeats 1000000 in
theorem poolRoom_walk (v0 v1 : Value) (p : PoolD) (w : World) (h : PoolAt w 0 w.heap.size v0 v1 p) : Calls Try.prog 6 #[.agg #[v0, v1]] w fun e w' => e = .returned (.bool true) ∧ Below w.heap.size w w' := by
  have Hp : Hid (PoolAt w 0 w.heap.size v0 v1 p) := h
  obtain ⟨a, c, a', c', rfl, rfl⟩ := h.form
  clear h
  go_enter Try.func6, Try.ntmps6
  go_wp2_with fail
  have ha := below_alloc w (.cells #[.slice a p.n c, .slice a' p.hn c'] 25)
  refine (szPool_any _ _ _ _ p _ _ (Hp.out.below ha) (by omega) (by omega)).mono ?_
  rintro e w1 ⟨⟨r, rfl, hr1, hr2, hr3⟩, hb1⟩
  have Hx1 : Hid (Box2 w1 w.heap.size (.slice a p.n c) (.slice a' p.hn c')) := (Box2.new w _ _ _).below hb1
  have hB1 := below_next ha hb1
  have Hr : Hid (0 ≤ r → r + poolN p = 1048576) := hr1
  clear ha hb1 hr1
  by_cases hr : r < 0
  · go_wp2
    go_ret
    exact ⟨rfl, hB1⟩
  · have HN : Hid (poolN p ≤ 1048576) := by have := Hr.out (by omega); show _ ≤ _; omega
    -- spec.PoolRoom of a copy
    obtain ⟨⟨x0, x1⟩, ⟨x2, x3⟩⟩ := Hx1.out
    go_wp2_with fail
    refine (toPool_any _ _ _ _ p _ (Hp.out.below hB1) HN.out).mono ?_
    rintro e w2 ⟨u0, u1, rfl, ho2, hb2⟩
    obtain ⟨b0, d0, b1, d1, rfl, rfl⟩ := ho2.form
    have Ho2 : Hid (PoolOwn w2 w1.heap.size w2.heap.size (.slice b0 p.n d0) (.slice b1 p.hn d1) p) := ho2
    have hB2 := below_next hB1 hb2
    have Hx2 : Hid (Box2 w2 w.heap.size (.slice a p.n c) (.slice a' p.hn c')) := Hx1.out.below hb2
    clear ho2 hb2 x0 x1 x2 x3 hB1 Hx1
    go_wp2_with fail
    refine (specPoolRoom_any _ _ _ _ p _ Ho2.out.at).mono ?_
    rintro e w3 ⟨rfl, hb3⟩
    have hB3 := below_next hB2 hb3
    have Hx3 : Hid (Box2 w3 w.heap.size (.slice a p.n c) (.slice a' p.hn c')) := Hx2.out.below hb3
    clear hb3 hB2 Hx2 Ho2
    -- impl.PoolRoom of another one
    obtain ⟨⟨x0, x1⟩, ⟨x2, x3⟩⟩ := Hx3.out
    go_wp2_with fail
    refine (toPool_any _ _ _ _ p _ (Hp.out.below hB3) HN.out).mono ?_
    rintro e w4 ⟨u0, u1, rfl, ho4, hb4⟩
    obtain ⟨e0, g0, e1, g1, rfl, rfl⟩ := ho4.form
    have Ho4 : Hid (PoolOwn w4 w3.heap.size w4.heap.size (.slice e0 p.n g0) (.slice e1 p.hn g1) p) := ho4
    have hB4 := below_next hB3 hb4
    have Hx4 : Hid (Box2 w4 w.heap.size (.slice a p.n c) (.slice a' p.hn c')) := Hx3.out.below hb4
    clear ho4 hb4 x0 x1 x2 x3 hB3 Hx3
    go_wp2_with fail
    have ha4 := below_alloc w4 (.cells #[.slice e0 p.n g0, .slice e1 p.hn g1] 33)
    refine (implPoolRoom_any _ _ _ _ p _ (Ho4.out.at.below ha4)).mono ?_
    rintro e w5 ⟨rfl, hb5⟩
    have hba := below_next ha4 hb5
    have hB5 := below_next hB4 hba
    have Hx5 : Hid (Box2 w5 w.heap.size (.slice a p.n c) (.slice a' p.hn c')) := Hx4.out.below hba
    have Hy5 : Hid (Box2 w5 w4.heap.size (.slice e0 p.n g0) (.slice e1 p.hn g1)) := (Box2.new w4 _ _ _).below hb5
    have Ho5 : Hid (PoolAt w5 w3.heap.size w4.heap.size (.slice e0 p.n g0) (.slice e1 p.hn g1) p) := Ho4.out.at.below hba
    have hne : (roomP p != roomP p) = false := by simp
    clear hb5 ha4 hba hB4 Hx4 Ho4
    -- the argument is as it was
    obtain ⟨⟨x0, x1⟩, ⟨x2, x3⟩⟩ := Hx5.out
    obtain ⟨⟨y0, y1⟩, ⟨y2, y3⟩⟩ := Hy5.out
    go_wp2_with fail
    go_region_held3 (fun w' => w'.cell? ⟨w.heap.size, 0, none⟩ = some (.slice a p.n c) ∧ w'.cell? ⟨w.heap.size, 1, none⟩ = some (.slice a' p.hn c') ∧ w'.cell? ⟨w4.heap.size, 0, none⟩ = some (.slice e0 p.n g0) ∧ w'.cell? ⟨w4.heap.size, 1, none⟩ = some (.slice e1 p.hn g1)) (go_keep)
      (first
        | (go_at_call 10; refine (toPool_any _ _ 0 w.heap.size p _ ?_ HN.out).mono ?_; (exact Hp.out.below hB5.drew); rintro e w6 ⟨u0, u1, rfl, ho6, hb6⟩; obtain ⟨i0, j0, i1, j1, rfl, rfl⟩ := ho6.form; have hb6' := below_undrew hb6; have z0 := (Hx5.out.below hb6').1.1; have z1 := (Hx5.out.below hb6').2.1; have z2 := (Hy5.out.below hb6').1.1; have z3 := (Hy5.out.below hb6').2.1)
        | (go_at_call 14; refine (eqPool_any _ _ _ _ _ _ _ _ p p _ (Ho5.out.below hb6') ho6.at).mono ?_; rintro e w7 ⟨⟨t7, rfl, ht7⟩, hb7⟩; obtain rfl : t7 = true := ht7.2 (PoolEq.refl p); clear ht7; have hb7' := below_next hb6' hb7; have zz0 := (Hx5.out.below hb7').1.1; have zz1 := (Hx5.out.below hb7').2.1; have zz2 := (Hy5.out.below hb7').1.1; have zz3 := (Hy5.out.below hb7').2.1))
    have hB7 := below_next hB5 hb7'
    go_wp2
    go_ret
    exact ⟨rfl, hB7⟩

theorem own : ownKnob Try.prog.godebug = none := by kernel_rfl
theorem laidOut : laidOutB Try.prog = true := by kernel_rfl

set_option maxRecDepth 100000 in
theorem poolRoom_lifted (os : Os) (started : os.Started) (H : Type) (enc : TypeId × Value → H) :
    ReturnsInHanded {} Try.checked os 6 .any (Rows.fnExactPoolRoomSpec.pre6 enc Try.prog Try.f6 Rows.fnExactPoolRoomRow.domain false) (Rows.fnExactPoolRoomSpec.post enc Try.prog Try.f6 false true false false) := by
  refine returnsInHanded_of_change (C := Try.checked) own started (by kernel_rfl) Try.func6
    (ChangeSpec.witness6 (enc := enc) (C := Try.checked) false ⟨#[], #[.agg #[.slice none 0 0, .slice none 0 0]], []⟩ 8 (by kernel_rfl) (by kernel_rfl) (by kernel_rfl) (by kernel_rfl)) ?_
  intro W base args ds gs before hval0 hW hcnd _
  have hval : ∀ (j : Nat) t v, Try.f6.params[j]? = some t → args[j]? = some v → Value.okWide Try.prog W .any base t v := hval0
  have hW' := hW
  obtain ⟨p, q, hA0, hV, rfl, hfz, hnd⟩ := hW
  have hA : DataW.TrodAll enc Try.prog W 0 (fun _ => true) true Try.f6.params.toList args.toList ds p := hA0
  rw [Try.params6] at hA hval
  obtain ⟨v0, vs0, d0, ds0, p0, q0, hargs, rfl, rfl, h0, r0⟩ := trodAll_cons hA
  obtain ⟨rfl, rfl, rfl⟩ := trodAll_nil r0
  obtain rfl : args = #[v0] := by cases args; simp_all
  obtain ⟨rfl, rfl⟩ := trodVars_none hV
  have k0 := h0
  have lt0 : ∀ x ∈ p0, x.block < W.heap.size := by obtain ⟨m, hm⟩ := k0; exact DataW.trod_lt m _ _ _ hm
  obtain ⟨s0, s1, pd, rfl, hpool⟩ := open_pool (hval 0 25 v0 rfl rfl) h0
  clear hA0 hval0
  refine (poolRoom_walk s0 s1 pd W hpool).mono fun e W' ⟨he, bel⟩ => ?_
  subst he
  exact ⟨_, rfl, _, _, _, [], _, [], hW', trodAll_mk1 (shut_bool Try.underlying4 _), (trodAll_cons_mk (Below.trod laidOut (by kernel_rfl) (of_decide_eq_true (by kernel_rfl)) k0 bel lt0) trodAll_mk0), rfl, bel.frame _, fun h => by cases h⟩

theorem fnExactPoolRoom_holds : Rows.FnExactPoolRoomSaid :=
  OpenClaim.holds_of_wide 6 Try.f6 rfl rfl rfl rfl rfl rfl rfl ⟨rfl, rfl, rfl, rfl, rfl⟩ rfl rfl rfl rfl rfl (by kernel_rfl) Try.func6 (by kernel_rfl)
    (of_decide_eq_true (by kernel_rfl)) (by unfold Func.isWrapper; first | (rw [if_pos (by decide +kernel)]; kernel_rfl) | (rw [if_neg (by decide +kernel)]; exact ⟨rfl, rfl⟩))
    (fun os started H enc _ => poolRoom_lifted os started H enc)

end Go.Proofs.Yteffacfdbhdppad
