/- A drawn pool is spoilt: one more is held, a slot is another one, its birth is greater. -/
import Derived.Test.YtjbcjlednedboaaDraw8
namespace Go.Proofs.Ytjbcjlednedboaa
open Go.RowKit
set_option linter.unusedVariables false

/-- A list of numbers with room behind it is a row that may be appended to. -/
theorem IntsOwn.row {w : World} {b n c : Nat} {a : Option Addr} {f : Nat → Int} (h : IntsOwn w b (.slice a n c) n f) (hlt : n < c) : w.ownsRow b 2 1 (.slice a n c) n (ic f n) ∧ a = some ⟨b, 0, none⟩ ∧ 0 < n := by
  obtain ⟨hm, a0, c0, hv, hcc, hc, hr⟩ := h
  simp only [Value.slice.injEq, true_and] at hv
  obtain ⟨rfl, rfl⟩ := hv
  obtain ⟨h0, rfl, hcm, cur, hcur, hsz⟩ := hr hlt
  obtain ⟨off, ha, hcell⟩ := hc h0
  simp only [Option.some.injEq, Addr.mk.injEq, true_and, and_true] at ha
  subst ha
  refine ⟨⟨ic_len _ _, .inr ⟨b, c, cur, rfl, Nat.le_refl _, hcur, hcc, hcm, by simpa using hsz, ?_⟩⟩, rfl, h0⟩
  apply List.ext_getElem?
  intro j
  by_cases hj : j < n
  · have e := (hcell j hj).1
    rw [Nat.zero_add, cell_of_row w b j cur _ (0, 0) hcur] at e
    rw [List.getElem?_take, if_pos (by omega), ic_at f n j hj]
    simpa using e
  · rw [List.getElem?_eq_none (by simp; omega), List.getElem?_eq_none (by rw [ic_len]; omega)]

theorem IntsOwn.block {w : World} {b n : Nat} {v : Value} {f : Nat → Int} (h : IntsOwn w b v n f) (h0 : 0 < n) : v.ownBlock = some b := by
  obtain ⟨_, a, c, rfl, _, hc, _⟩ := h
  obtain ⟨off, rfl, _⟩ := hc h0
  rfl

/-- One more is held: the list has been appended to, and laid into the variable X. -/
theorem append_held {wa wb : World} {L lo hi X g cap base : Nat} {v0 v1 : Value} {q : PoolD} {x : Int} (ho : PoolOwn wa lo hi v0 v1 q) (hhi : hi ≤ wa.heap.size) (hL : L ≤ lo)
    (t : Turned (fun k => 0 < q.hn ∧ v1.ownBlock = some k) wa wb)
    (hrow : wb.ownsRow base 2 1 (.slice (some ⟨g, 0, none⟩) (q.hn + 1) cap) (q.hn + 1) (ic q.h q.hn ++ [.int .i64 x]))
    (hat : (0 < q.hn ∧ v1.ownBlock = some g) ∨ (wa.heap.size ≤ g ∧ L ≤ g)) (hX : hi ≤ X ∨ X < lo) (hXg : g ≠ X) (hm : q.hn + 1 ≤ maxLen) :
    PoolOwn (wb.setCell ⟨X, 1, none⟩ (.slice (some ⟨g, 0, none⟩) (q.hn + 1) cap)) L wb.heap.size v0 (.slice (some ⟨g, 0, none⟩) (q.hn + 1) cap) (holdD q x) := by
  obtain ⟨bs, hb, kb, kv, h1, h2, h3, h4, h5⟩ := ho
  have tX := Turned.put wb X 1 (.slice (some ⟨g, 0, none⟩) (q.hn + 1) cap)
  have hsb : ∀ k, SlotsB bs kb q.n q.s k → ¬ (0 < q.hn ∧ v1.ownBlock = some k) := fun k hk hx => by
    rw [h3.block hx.1] at hx
    simp only [Option.some.injEq] at hx
    exact h4 hx.1 (hx.2 ▸ hk)
  have hsX : ∀ k, SlotsB bs kb q.n q.s k → ¬ k = X := fun k hk e => by have := h5 k (Or.inl hk); omega
  have s1 := (h1.turned t (fun h0 => hsb _ (Or.inl ⟨h0, rfl⟩)) (fun i hi h => hsb _ (Or.inr ⟨i, hi, h, rfl⟩))).turned tX (fun h0 => hsX _ (Or.inl ⟨h0, rfl⟩)) (fun i hi h => hsX _ (Or.inr ⟨i, hi, h, rfl⟩))
  rw [← ic_hold] at hrow
  have hrow2 := hrow.kept (grown_of_turned tX) (Or.inr (by simp [Value.ownBlock]; exact hXg))
  obtain ⟨gb, hi2, hg2⟩ := ints_of_owns2 (f := (holdD q x).h) hm hrow2 (fun e => absurd e (Nat.succ_ne_zero _))
  obtain rfl : g = gb := by have := hg2 (Nat.succ_pos _); simpa [Value.ownBlock] using this
  have hgl := hrow.lt g rfl
  refine ⟨bs, g, kb, kv, s1, h2, hi2, fun _ hx => ?_, fun k hk => ?_⟩
  · rcases hat with ⟨h0, he⟩ | ⟨he, _⟩
    · exact hsb g hx ⟨h0, he⟩
    · have := h5 g (Or.inl hx); omega
  · have hz := t.size
    rcases hk with hk | ⟨_, rfl⟩
    · have := h5 k (Or.inl hk); omega
    · rcases hat with ⟨h0, he⟩ | ⟨he, he2⟩
      · rw [h3.block h0] at he
        simp only [Option.some.injEq] at he
        have := h5 hb (Or.inr ⟨h0, rfl⟩)
        omega
      · omega

/-- The first slot's birth is written. -/
theorem PoolOwn.birth {w : World} {lo hi : Nat} {a : Option Addr} {c : Nat} {v1 : Value} {p : PoolD} (h : PoolOwn w lo hi (.slice a p.n c) v1 p) (h0 : 0 < p.n) :
    ∃ bs off, a = some ⟨bs, off, none⟩ ∧ (lo ≤ bs ∧ bs < hi) ∧ Cell w bs off (.int .i64 (p.s 0).birth) ∧ ∀ x : Int, PoolOwn (w.setCell ⟨bs, off, none⟩ (.int .i64 x)) lo hi (.slice a p.n c) v1 (setS p 0 { birth := x, kn := (p.s 0).kn, ks := (p.s 0).ks, kb := (p.s 0).kb, data := (p.s 0).data }) := by
  obtain ⟨bs, hb, kb, kv, ⟨hm, a0, c0, hv, hcc, hx⟩, hap, hint, hnb, hpl⟩ := h
  simp only [Value.slice.injEq, true_and] at hv
  obtain ⟨rfl, rfl⟩ := hv
  obtain ⟨off, ha, hsl⟩ := hx h0
  have hbs := hpl bs (Or.inl (Or.inl ⟨h0, rfl⟩))
  have hb0 := (hsl 0 h0).birth
  rw [Nat.zero_mul, Nat.add_zero] at hb0
  have hkn : ∀ (x : Int) j, ((setS p 0 { birth := x, kn := (p.s 0).kn, ks := (p.s 0).ks, kb := (p.s 0).kb, data := (p.s 0).data }).s j).kn = (p.s j).kn := fun x j => by
    by_cases e : j = 0
    · subst e; rfl
    · simp only [setS, if_neg e]
  have hsb : ∀ (x : Int) k, SlotsB bs kb p.n (setS p 0 { birth := x, kn := (p.s 0).kn, ks := (p.s 0).ks, kb := (p.s 0).kb, data := (p.s 0).data }).s k ↔ SlotsB bs kb p.n p.s k := fun x k => by
    unfold SlotsB
    simp only [hkn]
  refine ⟨bs, off, ha, hbs, hb0, fun x => ⟨bs, hb, kb, kv, ⟨hm, a, c, rfl, hcc, fun _ => ⟨off, ha, fun j hj => ?_⟩⟩, fun i j hi hj hij g1 g2 => ?_, ?_, fun g0 hq => ?_, fun k hk => ?_⟩⟩
  · have hj' := hsl j hj
    by_cases e : j = 0
    · subst e
      simp only [setS, if_true]
      rw [Nat.zero_mul, Nat.add_zero] at hj' ⊢
      exact ⟨hj'.birth.set _, hj'.kidsv.other _ (Or.inr (by omega)), hj'.data.other _ (Or.inr (by omega)), hj'.kids.turned (Turned.put _ _ _ _) (fun hk e => hj'.apart hk e), hj'.small, hj'.apart⟩
    · simp only [setS, if_neg e]
      exact ⟨hj'.birth.other _ (Or.inr (by omega)), hj'.kidsv.other _ (Or.inr (by omega)), hj'.data.other _ (Or.inr (by omega)), hj'.kids.turned (Turned.put _ _ _ _) (fun hk e => hj'.apart hk e), hj'.small, hj'.apart⟩
  · rw [hkn] at g1 g2
    exact hap i j hi hj hij g1 g2
  · exact hint.turned (Turned.put _ _ _ _) (fun g0 e => hnb g0 (Or.inl ⟨h0, e⟩))
  · exact hnb g0 ((hsb x hb).1 hq)
  · refine hpl k ?_
    rcases hk with hk | hk
    · exact Or.inl ((hsb x k).1 hk)
    · exact Or.inr hk

end Go.Proofs.Ytjbcjlednedboaa
