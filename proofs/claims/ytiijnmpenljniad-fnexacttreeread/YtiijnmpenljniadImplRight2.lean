/- What impl.slotRight, impl.heldRight and impl.PoolRight answer, and that this is what spec.PoolRight answers. -/
import Derived.Test.YtiijnmpenljniadKids2
namespace Go.Proofs.Ytiijnmpenljniad
open Go.RowKit
set_option linter.unusedVariables false

def SlotRightI (n : Nat) (f : Nat → SlotD) (s : SlotD) : Prop := Free s ∨ Page s ∨ (Node s ∧ KidsThere n f s)
def HeldOkI (p : PoolD) (i : Nat) : Prop := ¬ PtrOf p.n p.s (p.h i) 0 0 ∧ ¬ Has i p.h (p.h i)
def RightI (p : PoolD) : Prop := p.n ≤ 200 ∧ p.hn ≤ p.n ∧ (∀ i, i < p.n → SlotRightI p.n p.s (p.s i)) ∧ ∀ i, i < p.hn → HeldOkI p i

set_option maxRecDepth 20000 in
set_option maxHeartbeats 1000000 in
theorem slotRight_any (v v0 v1 v2 : Value) (n lo hi lo' hi' : Nat) (f : Nat → SlotD) (s : SlotD) (w : World) (h1 : SlotsAt w lo hi v n f) (h2 : SlotAt w lo' hi' v0 v1 v2 s) :
    Calls Try.prog 48 #[v, .agg #[v0, v1, v2]] w fun e w' => BoolIs (SlotRightI n f s) e ∧ Below w.heap.size w w' := by
  have Hv : Hid (SlotsAt w lo hi v n f) := h1
  obtain ⟨m1, a, c, rfl, mc, g1⟩ := h1
  have Hs : Hid (SlotAt w lo' hi' v0 v1 v2 s) := h2
  obtain ⟨rfl, ⟨m2, ka, kc, rfl, mc2, g2⟩, rfl, m3⟩ := h2
  clear g1 g2
  go_enter Try.func48, Try.ntmps48
  go_wp2_with fail
  have ha1 := below_alloc w (.cells #[.int .i64 s.birth, .slice ka s.kn kc, .string s.data] 42)
  refine (isFree_any _ _ _ lo' hi' s _ (Hs.out.below ha1)).mono ?_
  rintro e w1 ⟨⟨t, rfl, ht⟩, hb1⟩
  have Hx : Hid (Box3 w1 w.heap.size (.int .i64 s.birth) (.slice ka s.kn kc) (.string s.data)) := (Box3.new w _ _ _ _).below hb1
  have hb2 := below_next ha1 hb1
  clear ha1 hb1
  by_cases hf : Free s
  · obtain rfl : t = true := ht.2 hf
    have HF : Hid (Free s) := hf
    clear ht hf
    go_wp2
    go_ret
    exact ⟨BoolIs.yes (Or.inl HF.out), hb2⟩
  · obtain rfl : t = false := bool_no ht hf
    have HF : Hid (¬ Free s) := hf
    clear ht hf
    obtain ⟨⟨x0, x1⟩, ⟨x2, x3⟩, ⟨x4, x5⟩⟩ := Hx.out
    go_wp2_with fail
    refine (isPage_any _ _ _ lo' hi' s _ (Hs.out.below hb2)).mono ?_
    rintro e w2 ⟨⟨t, rfl, ht⟩, hb3⟩
    have Hx2 : Hid (Box3 w2 w.heap.size (.int .i64 s.birth) (.slice ka s.kn kc) (.string s.data)) := Hx.out.below hb3
    have hb4 := below_next hb2 hb3
    clear hb3 hb2 x0 x1 x2 x3 x4 x5 Hx
    by_cases hf : Page s
    · obtain rfl : t = true := ht.2 hf
      have HP : Hid (Page s) := hf
      clear ht hf
      go_wp2
      go_ret
      exact ⟨BoolIs.yes (Or.inr (Or.inl HP.out)), hb4⟩
    · obtain rfl : t = false := bool_no ht hf
      have HP : Hid (¬ Page s) := hf
      clear ht hf
      obtain ⟨⟨x0, x1⟩, ⟨x2, x3⟩, ⟨x4, x5⟩⟩ := Hx2.out
      go_wp2_with fail
      refine (isNode_any _ _ _ lo' hi' s _ (Hs.out.below hb4)).mono ?_
      rintro e w3 ⟨⟨t, rfl, ht⟩, hb5⟩
      have Hx3 : Hid (Box3 w3 w.heap.size (.int .i64 s.birth) (.slice ka s.kn kc) (.string s.data)) := Hx2.out.below hb5
      have hb6 := below_next hb4 hb5
      clear hb5 hb4 x0 x1 x2 x3 x4 x5 Hx2
      by_cases hf : Node s
      · obtain rfl : t = true := ht.2 hf
        have HN : Hid (Node s) := hf
        clear ht hf
        obtain ⟨⟨x0, x1⟩, ⟨x2, x3⟩, ⟨x4, x5⟩⟩ := Hx3.out
        go_wp2_with fail
        refine (kidsThere_any _ _ _ _ n lo hi lo' hi' f s _ (Hv.out.below hb6) (Hs.out.below hb6) HN.out.2.1).mono ?_
        rintro e w4 ⟨⟨t, rfl, ht⟩, hb7⟩
        have Ht : Hid (t = true ↔ KidsThere n f s) := ht
        have hb8 := below_next hb6 hb7
        clear hb7 hb6 x0 x1 x2 x3 x4 x5 Hx3 ht
        go_wp2
        go_ret
        refine ⟨⟨t, rfl, Ht.out.trans ⟨fun h => Or.inr (Or.inr ⟨HN.out, h⟩), fun h => ?_⟩⟩, hb8⟩
        rcases h with h | h | h
        · exact absurd h HF.out
        · exact absurd h HP.out
        · exact h.2
      · obtain rfl : t = false := bool_no ht hf
        have HN : Hid (¬ Node s) := hf
        clear ht hf
        go_wp2
        go_ret
        refine ⟨BoolIs.no fun h => ?_, hb6⟩
        rcases h with h | h | h
        · exact HF.out h
        · exact HP.out h
        · exact HN.out h.1

set_option maxRecDepth 20000 in
set_option maxHeartbeats 1000000 in
theorem heldRight_any (v0 v1 : Value) (lo hi : Nat) (p : PoolD) (w : World) (h1 : PoolAt w lo hi v0 v1 p) :
    Calls Try.prog 76 #[.agg #[v0, v1]] w fun e w' => BoolIs (∀ i, i < p.hn → HeldOkI p i) e ∧ Below w.heap.size w w' := by
  have Hp : Hid (PoolAt w lo hi v0 v1 p) := h1
  obtain ⟨⟨m1, a, c, rfl, mc, g1⟩, ⟨m2, a', c', rfl, mc', g2⟩⟩ := h1
  unfold maxLen at m1 m2
  clear g1 g2
  go_enter Try.func76, Try.ntmps76
  go_wp2
  go_loopw [8] (fun i wr => ∃ k : Nat, k ≤ p.hn ∧ i = .int .i64 k ∧ (∀ j, j < k → HeldOkI p j) ∧ Box2 wr w.heap.size (.slice a p.n c) (.slice a' p.hn c') ∧ Below w.heap.size w wr) (fun i _ => p.hn - (intOf i).toNat)
  case atStart => exact ⟨0, Nat.zero_le _, rfl, fun j hj => absurd hj (Nat.not_lt_zero _), Box2.new _ _ _ _, below_alloc _ _⟩
  case round =>
    obtain ⟨k, hk, rfl, hall, hx, hb⟩ := hrel
    have Hall : Hid (∀ j, j < k → HeldOkI p j) := hall
    have Hx : Hid (Box2 wr w.heap.size (.slice a p.n c) (.slice a' p.hn c')) := hx
    clear hall hx
    obtain ⟨⟨y0, y1⟩, ⟨y2, y3⟩⟩ := Hx.out
    by_cases hlt : k < p.hn
    · have hlt' : (k : Int) < (p.hn : Int) := by omega
      have hint := Hp.out.2.below hb
      have Hint : Hid (IntsAt wr lo hi (.slice a' p.hn c') p.hn p.h) := hint
      obtain ⟨_, a2, cap2, hv2, _, hx2⟩ := hint
      simp only [Value.slice.injEq, true_and] at hv2
      obtain ⟨rfl, rfl⟩ := hv2
      obtain ⟨b, off, rfl, _, _, k1⟩ := hx2 (by omega)
      have hc1 := k1 k hlt
      clear k1 hx2
      go_wp2_with fail
      refine (ptrOf_any _ p.n lo hi p.s _ _ (Hp.out.1.below hb)).mono ?_
      rintro e w1 ⟨⟨ps, pb, rfl, hpo⟩, hb1⟩
      have Hpo : Hid (PtrOf p.n p.s (p.h k) ps pb) := hpo
      have HX : Hid (Box2 w1 w.heap.size (.slice a p.n c) (.slice (some ⟨b, off, none⟩) p.hn c')) := Hx.out.below hb1
      have HI : Hid (IntsAt w1 lo hi (.slice (some ⟨b, off, none⟩) k k) k p.h) := (Hint.out.below hb1).take (by omega) (by omega)
      have hbn := below_next hb hb1
      clear hpo hb1 y0 y1 y2 y3 Hx
      by_cases hz : ps = 0 ∧ pb = 0
      · obtain ⟨rfl, rfl⟩ := hz
        go_wp2
        go_ret
        exact ⟨BoolIs.no fun h => (h k hlt).1 Hpo.out, hbn⟩
      · have HZ : Hid (¬ PtrOf p.n p.s (p.h k) 0 0) := fun h => by
          obtain ⟨e0, e1⟩ := Hpo.out.uniq h
          exact hz ⟨e0, e1⟩
        have e0 : (ps == 0) = false ∨ (ps == 0) = true ∧ (pb == 0) = false := by
          by_cases h : ps = 0
          · right
            refine ⟨by simp [h], ?_⟩
            have : pb ≠ 0 := fun h' => hz ⟨h, h'⟩
            simp [this]
          · left; simp [h]
        clear hz
        obtain ⟨⟨y0, y1⟩, ⟨y2, y3⟩⟩ := HX.out
        have hkc : k ≤ c' := by omega
        by_cases hh : Has k p.h (p.h k)
        · have HH : Hid (Has k p.h (p.h k)) := hh
          clear hh
          rcases e0 with e0 | ⟨e0, e1⟩
          all_goals
            go_wp2_with fail
            refine (contains_any _ k lo hi p.h _ _ HI.out).mono ?_
            rintro e w2 ⟨⟨t, rfl, ht⟩, rfl⟩
            obtain rfl : t = true := ht.2 HH.out
            clear ht
            go_wp2
            go_ret
            exact ⟨BoolIs.no fun h => (h k hlt).2 HH.out, hbn⟩
        · have HH : Hid (¬ Has k p.h (p.h k)) := hh
          clear hh
          rcases e0 with e0 | ⟨e0, e1⟩
          all_goals
            go_wp2_with fail
            refine (contains_any _ k lo hi p.h _ _ HI.out).mono ?_
            rintro e w2 ⟨⟨t, rfl, ht⟩, rfl⟩
            obtain rfl : t = false := bool_no ht HH.out
            clear ht y0 y1 y2 y3
            go_wp2
            go_roundw
            case rel => exact ⟨k + 1, by omega, by go_num, relNext hlt Hall.out ⟨HZ.out, HH.out⟩, HX.out, hbn⟩
            case measure => simp [intOf]; omega
    · obtain rfl : k = p.hn := by omega
      go_wp2
      go_ret
      exact ⟨BoolIs.yes Hall.out, hb⟩

end Go.Proofs.Ytiijnmpenljniad
