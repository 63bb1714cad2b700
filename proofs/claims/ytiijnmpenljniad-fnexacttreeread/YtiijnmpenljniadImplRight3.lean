/- What impl.PoolRight answers: true just where the pool is right. -/
import Derived.Test.YtiijnmpenljniadImplRight2
namespace Go.Proofs.Ytiijnmpenljniad
open Go.RowKit
set_option linter.unusedVariables false

/-- No more places than there are values, if no value is there twice. -/
theorem pigeon : ∀ (m n : Nat) (h : Nat → Nat), (∀ i, i < m → h i < n) → (∀ i j, i < j → j < m → h i ≠ h j) → m ≤ n
  | 0, _, _, _, _ => Nat.zero_le _
  | m + 1, 0, h, hlt, _ => absurd (hlt 0 (by omega)) (Nat.not_lt_zero _)
  | m + 1, n + 1, h, hlt, hne => by
    have key := pigeon m n (fun i => if h i < h m then h i else h i - 1) (fun i hi => by
      have a := hlt i (by omega)
      have b := hne i m hi (by omega)
      have c := hlt m (by omega)
      show (if h i < h m then h i else h i - 1) < n
      split <;> omega) (fun i j hij hj => by
      have a := hne i j hij (by omega)
      have b := hne i m (by omega) (by omega)
      have c := hne j m (by omega) (by omega)
      show (if h i < h m then h i else h i - 1) ≠ (if h j < h m then h j else h j - 1)
      split <;> split <;> omega)
    omega

theorem free_birth {s : SlotD} (h : Free s) : s.birth = 0 := h.1

/-- A slot of a pool all of whose slots are free, pages or nodes. -/
theorem ok_birth {n : Nat} {f : Nat → SlotD} {s : SlotD} (h : SlotRightI n f s) (hf : ¬ Free s) : 1 ≤ s.birth := by
  rcases h with h | h | h
  · exact absurd h hf
  · exact h.1.1
  · exact h.1.1.1
theorem fits_birth {p : PoolD} {s : SlotD} (h : Free s ∨ Fits p s) (hf : ¬ Free s) : 1 ≤ s.birth := by
  rcases h with h | h
  · exact absurd h hf
  · exact h.1.1

theorem kid_iff {p : PoolD} {b ks kb : Int} (hall : ∀ i, i < p.n → ¬ Free (p.s i) → 1 ≤ (p.s i).birth) : KidFound p.n p.s b ks kb ks kb ↔ KidOk p b ks kb := by
  constructor
  · rintro ⟨ps, pb, hp, h⟩
    rcases h with ⟨h, rfl, rfl⟩ | ⟨h, rfl, rfl⟩
    · exact Or.inl ⟨rfl, rfl⟩
    · rcases hp with ⟨h1, h2, h3, _, h5⟩ | ⟨h1, rfl, rfl⟩
      · right
        have hb := hall ks.toNat (by omega) h3
        rw [← h5] at hb
        refine ⟨⟨hb, h1, h2, h5.symm⟩, ?_⟩
        by_cases hx : b < kb
        · exact absurd (Or.inr hx) h
        · omega
      · exact absurd (Or.inl ⟨rfl, rfl⟩) h
  · rintro (⟨rfl, rfl⟩ | ⟨⟨h1, h2, h3, h4⟩, h5⟩)
    · by_cases hx : 0 < p.n ∧ ¬ Free (p.s 0)
      · refine ⟨0, (p.s 0).birth, Or.inl ⟨by omega, by omega, ?_, rfl, rfl⟩, Or.inl ⟨Or.inl ⟨rfl, rfl⟩, rfl, rfl⟩⟩
        exact hx.2
      · refine ⟨0, 0, Or.inr ⟨fun h => hx ⟨by omega, h.2.2⟩, rfl, rfl⟩, Or.inl ⟨Or.inl ⟨rfl, rfl⟩, rfl, rfl⟩⟩
    · refine ⟨ks, kb, Or.inl ⟨h2, h3, fun hf => ?_, rfl, h4.symm⟩, Or.inr ⟨fun h => ?_, rfl, rfl⟩⟩
      · have := free_birth hf; omega
      · rcases h with h | h
        · have := h.2; omega
        · omega

theorem right_iff (p : PoolD) : RightI p ↔ Right p := by
  constructor
  · rintro ⟨h1, h2, h3, h4⟩
    have hall : ∀ i, i < p.n → ¬ Free (p.s i) → 1 ≤ (p.s i).birth := fun i hi => ok_birth (h3 i hi)
    refine ⟨h1, fun i hi => ?_, fun i hi => ?_⟩
    · rcases h3 i hi with h | h | h
      · exact Or.inl h
      · exact Or.inr ⟨h.1, Or.inl h.2⟩
      · refine Or.inr ⟨h.1.1, Or.inr ⟨h.1.2.1, h.1.2.2, fun j hj => ?_⟩⟩
        exact (kid_iff hall).1 (h.2 j (by have := h.1.2.1; omega))
    · obtain ⟨ha, hb⟩ := h4 i hi
      have hx : 0 ≤ p.h i ∧ p.h i < p.n ∧ ¬ Free (p.s (p.h i).toNat) := by
        by_cases hx : 0 ≤ p.h i ∧ p.h i < p.n ∧ ¬ Free (p.s (p.h i).toNat)
        · exact hx
        · exact absurd (Or.inr ⟨hx, rfl, rfl⟩) ha
      exact ⟨hx.1, hx.2.1, hx.2.2, hb⟩
  · rintro ⟨h1, h3, h4⟩
    have hall : ∀ i, i < p.n → ¬ Free (p.s i) → 1 ≤ (p.s i).birth := fun i hi => fits_birth (h3 i hi)
    refine ⟨h1, ?_, fun i hi => ?_, fun i hi => ?_⟩
    · refine pigeon p.hn p.n (fun i => (p.h i).toNat) (fun i hi => ?_) (fun i j hij hj => ?_)
      · obtain ⟨a, b, _, _⟩ := h4 i hi
        show (p.h i).toNat < p.n
        omega
      · obtain ⟨a, b, _, d⟩ := h4 j hj
        obtain ⟨a', b', _, _⟩ := h4 i (by omega)
        show (p.h i).toNat ≠ (p.h j).toNat
        intro e
        exact d ⟨i, hij, by omega⟩
    · rcases h3 i hi with h | h
      · exact Or.inl h
      · rcases h.2 with g | g
        · exact Or.inr (Or.inl ⟨h.1, g⟩)
        · exact Or.inr (Or.inr ⟨⟨h.1, g.1, g.2.1⟩, fun j hj => (kid_iff hall).2 (g.2.2 j (by omega))⟩)
    · obtain ⟨a, b, c, d⟩ := h4 i hi
      refine ⟨fun hx => ?_, d⟩
      rcases hx with ⟨_, _, _, e1, e2⟩ | ⟨hx, _⟩
      · have := hall (p.h i).toNat (by omega) c
        omega
      · exact hx ⟨a, b, c⟩

set_option maxRecDepth 20000 in
set_option maxHeartbeats 1000000 in
theorem implPoolRight_any (v0 v1 : Value) (lo hi : Nat) (p : PoolD) (w : World) (h1 : PoolAt w lo hi v0 v1 p) :
    Calls Try.prog 46 #[.agg #[v0, v1]] w fun e w' => BoolIs (Right p) e ∧ Below w.heap.size w w' := by
  have Hp : Hid (PoolAt w lo hi v0 v1 p) := h1
  obtain ⟨⟨m1, a, c, rfl, mc, g1⟩, ⟨m2, a', c', rfl, mc', g2⟩⟩ := h1
  unfold maxLen at m1 m2
  clear g1 g2
  have Hbw : Hid (Below w.heap.size w (w.alloc (.cells #[.slice a p.n c, .slice a' p.hn c'] 33))) := below_alloc _ _
  by_cases hn : (200 : Int) < p.n
  · have H : Hid (¬ Right p) := fun h => by have := h.1; omega
    go_enter Try.func46, Try.ntmps46
    go_wp2
    go_ret
    exact ⟨BoolIs.no H.out, Hbw.out⟩
  by_cases hn2 : (p.n : Int) < p.hn
  · have H : Hid (¬ Right p) := fun h => by have := ((right_iff p).2 h).2.1; omega
    go_enter Try.func46, Try.ntmps46
    go_wp2
    go_ret
    exact ⟨BoolIs.no H.out, Hbw.out⟩
  · go_enter Try.func46, Try.ntmps46
    go_wp2
    go_loopw [21] (fun i wr => ∃ k : Nat, k ≤ p.n ∧ i = .int .i64 k ∧ (∀ j, j < k → SlotRightI p.n p.s (p.s j)) ∧ Box2 wr w.heap.size (.slice a p.n c) (.slice a' p.hn c') ∧ Below w.heap.size w wr) (fun i _ => p.n - (intOf i).toNat)
    case atStart => exact ⟨0, Nat.zero_le _, rfl, fun j hj => absurd hj (Nat.not_lt_zero _), Box2.new _ _ _ _, Hbw.out⟩
    case round =>
      obtain ⟨k, hk, rfl, hall, hx, hb⟩ := hrel
      have Hall : Hid (∀ j, j < k → SlotRightI p.n p.s (p.s j)) := hall
      have Hx : Hid (Box2 wr w.heap.size (.slice a p.n c) (.slice a' p.hn c')) := hx
      clear hall hx
      obtain ⟨⟨y0, y1⟩, ⟨y2, y3⟩⟩ := Hx.out
      have hz0 : w.heap.size < wr.heap.size := Hx.out.1.lt
      by_cases hlt : k < p.n
      · have hlt' : (k : Int) < (p.n : Int) := by omega
        obtain ⟨b, off, ka, kc, rfl, hs⟩ := (Hp.out.1.below hb).cells hlt
        have Hs : Hid (SlotCells wr b (off + k * 3) lo hi ka kc (p.s k)) := hs
        obtain ⟨q0, q1, q2, _⟩ := hs
        go_wp2_with fail
        have hal := below_alloc wr (.cells #[.int .i64 (p.s k).birth, .slice ka (p.s k).kn kc, .string (p.s k).data] 42)
        refine (slotRight_any _ _ _ _ p.n lo hi lo hi p.s (p.s k) _ (Hp.out.1.below (below_next hb hal)) (Hs.out.slot.below hal)).mono ?_
        rintro e w1 ⟨⟨t, rfl, ht⟩, hb1⟩
        have hbb := below_next hal hb1
        have HX : Hid (Box2 w1 w.heap.size (.slice (some ⟨b, off, none⟩) p.n c) (.slice a' p.hn c')) := Hx.out.below hbb
        have hbn := below_next hb hbb
        have Ht : Hid (t = true ↔ SlotRightI p.n p.s (p.s k)) := ht
        clear hal hb1 hbb ht q0 q1 q2 y0 y1 y2 y3 Hx Hs
        cases t
        · go_wp2
          go_ret
          refine ⟨BoolIs.no fun h => ?_, hbn⟩
          have := ((right_iff p).2 h).2.2.1 k hlt
          exact absurd (Ht.out.2 this) (by simp)
        · go_wp2
          go_roundw
          case rel => exact ⟨k + 1, by omega, by go_num, relNext hlt Hall.out (by simpa using Ht.out), HX.out, hbn⟩
          case measure => simp [intOf]; omega
      · obtain rfl : k = p.n := by omega
        go_wp2_with fail
        refine (heldRight_any _ _ lo hi p _ (Hp.out.below hb)).mono ?_
        rintro e w1 ⟨⟨t, rfl, ht⟩, hb1⟩
        have Ht : Hid (t = true ↔ ∀ i, i < p.hn → HeldOkI p i) := ht
        have hbn := below_next hb hb1
        clear ht hb1 y0 y1 y2 y3
        go_wp2
        go_ret
        refine ⟨⟨t, rfl, Ht.out.trans ⟨fun h => ?_, fun h => ?_⟩⟩, hbn⟩
        · exact (right_iff p).1 ⟨by omega, by omega, Hall.out, h⟩
        · exact ((right_iff p).2 h).2.2.2

end Go.Proofs.Ytiijnmpenljniad
