/- What PoolSync leaves: the pool with its held slots free; when it does. -/
import Derived.Test.YtjbcjlednedboaaNeeded
import Derived.Test.YtjbcjlednedboaaCopy2
import Derived.Test.YtjbcjlednedboaaSpecRight3
namespace Go.Proofs.Ytjbcjlednedboaa
open Go.RowKit
set_option linter.unusedVariables false

open Classical in
/-- The first m held slots free. -/
noncomputable def freed (p : PoolD) (m : Nat) : PoolD := { n := p.n, s := fun i => if Has m p.h (i : Int) then zeroS else p.s i, hn := p.hn, h := p.h }
/-- All held slots free, none held. -/
noncomputable def swept (p : PoolD) : PoolD := { n := p.n, s := (freed p p.hn).s, hn := 0, h := p.h }
def setS (p : PoolD) (i : Nat) (s : SlotD) : PoolD := { n := p.n, s := fun j => if j = i then s else p.s j, hn := p.hn, h := p.h }
open Classical in
noncomputable def syncP (p : PoolD) : PoolD := if Right p ∧ Right (swept p) then swept p else p

theorem freed_yes {p : PoolD} {m i : Nat} (h : Has m p.h (i : Int)) : (freed p m).s i = zeroS := if_pos h
theorem freed_not {p : PoolD} {m i : Nat} (h : ¬ Has m p.h (i : Int)) : (freed p m).s i = p.s i := if_neg h
theorem freed_zero (p : PoolD) : freed p 0 = p := by
  have e : (freed p 0).s = p.s := funext fun i => freed_not (fun ⟨j, hj, _⟩ => absurd hj (Nat.not_lt_zero _))
  show PoolD.mk p.n (freed p 0).s p.hn p.h = p
  rw [e]
theorem freed_succ {p : PoolD} {k m : Nat} (hk : p.h k = (m : Int)) : freed p (k + 1) = setS (freed p k) m zeroS := by
  have e : (freed p (k + 1)).s = (setS (freed p k) m zeroS).s := funext fun i => by
    show _ = if i = m then zeroS else (freed p k).s i
    by_cases h1 : i = m
    · rw [if_pos h1, freed_yes ⟨k, by omega, by rw [hk, h1]⟩]
    · rw [if_neg h1]
      by_cases h2 : Has k p.h (i : Int)
      · rw [freed_yes h2, freed_yes (by obtain ⟨j, hj, e⟩ := h2; exact ⟨j, by omega, e⟩)]
      · rw [freed_not h2, freed_not (fun ⟨j, hj, e⟩ => h2 ⟨j, by
          by_cases e2 : j = k
          · subst e2; rw [hk] at e; omega
          · omega, e⟩)]
  show PoolD.mk p.n (freed p (k + 1)).s p.hn p.h = PoolD.mk p.n (setS (freed p k) m zeroS).s p.hn p.h
  rw [e]

theorem zero_free : Free zeroS := ⟨rfl, rfl, by simp [zeroS, Go.ByteArray.toList_eq]⟩

theorem right_kn {p : PoolD} (h : Right p) {i : Nat} (hi : i < p.n) : (p.s i).kn = 0 ∨ (p.s i).kn = 8 := by
  rcases h.2.1 i hi with h | h
  · exact Or.inl h.2.1
  · rcases h.2 with h | h
    · exact Or.inl h.1
    · exact Or.inr h.1

theorem kid_cells {s : SlotD} (h : s.kn = 8) {i : Nat} (hi : i < 8) : kidCell s (i * 2) = s.ks i ∧ kidCell s (i * 2 + 1) = s.kb i := by
  refine ⟨?_, ?_⟩
  · unfold kidCell; rw [if_pos (by omega), if_pos (by omega), show i * 2 / 2 = i by omega]
  · unfold kidCell; rw [if_pos (by omega), if_neg (by omega), show (i * 2 + 1) / 2 = i by omega]

/-- What it means that a Kid is not kept. -/
theorem needs_iff (p : PoolD) (i : Nat) : NeedsAt p i ↔ ¬ Has p.hn p.h (i : Int) ∧ ∃ m, m < 8 ∧ Has p.hn p.h (kidCell (p.s i) (m * 2)) ∧ ¬ (kidCell (p.s i) (m * 2) = 0 ∧ kidCell (p.s i) (m * 2 + 1) = 0) := by
  unfold NeedsAt
  refine and_congr Iff.rfl ?_
  have hk : ∀ m, m < 8 → ∀ r, r < 2 → Has p.hn p.h (kidCell (p.s i) (m * 2)) → keptCell (p.s i) p.hn p.h 8 (m * 2 + r) = 0 := fun m hm r hr h => if_pos ⟨by omega, by rw [show (m * 2 + r) / 2 = m by omega]; exact h⟩
  have hk2 : ∀ m, ∀ r, r < 2 → ¬ Has p.hn p.h (kidCell (p.s i) (m * 2)) → keptCell (p.s i) p.hn p.h 8 (m * 2 + r) = kidCell (p.s i) (m * 2 + r) := fun m r hr h => if_neg (fun x => h (by have := x.2; rw [show (m * 2 + r) / 2 = m by omega] at this; exact this))
  constructor
  · intro he
    apply Classical.byContradiction
    intro hx
    have : eq16 (kidCell (p.s i)) (keptCell (p.s i) p.hn p.h 8) = true := (eq16_iff _ _).2 fun m hm => by
      by_cases h : Has p.hn p.h (kidCell (p.s i) (m * 2))
      · have e0 := hk m hm 0 (by omega) h
        have e1 := hk m hm 1 (by omega) h
        rw [Nat.add_zero] at e0
        rw [e0, e1]
        apply Classical.byContradiction
        intro hy
        exact hx ⟨m, hm, h, hy⟩
      · have e0 := hk2 m 0 (by omega) h
        have e1 := hk2 m 1 (by omega) h
        rw [Nat.add_zero] at e0
        rw [e0, e1]
        exact ⟨rfl, rfl⟩
    rw [this] at he
    cases he
  · rintro ⟨m, hm, h, hy⟩
    apply Bool.eq_false_iff.2
    intro he
    have := (eq16_iff _ _).1 he m hm
    have e0 := hk m hm 0 (by omega) h
    have e1 := hk m hm 1 (by omega) h
    rw [Nat.add_zero] at e0
    rw [e0, e1] at this
    exact hy this

theorem needed_iff {p : PoolD} (hR : Right p) : Needed p ↔ ¬ Right (swept p) := by
  constructor
  · rintro ⟨i, hi, h⟩ hS
    obtain ⟨hni, m, hm, hH, hz⟩ := (needs_iff p i).1 h
    have hkn : (p.s i).kn = 8 := by
      rcases right_kn hR hi with h | h
      · exact absurd ⟨by unfold kidCell; rw [if_neg (by omega)], by unfold kidCell; rw [if_neg (by omega)]⟩ hz
      · exact h
    obtain ⟨e0, e1⟩ := kid_cells hkn hm
    rw [e0] at hH
    rw [e0, e1] at hz
    have hsi : (swept p).s i = p.s i := freed_not hni
    have hP : Points p ((p.s i).ks m) ((p.s i).kb m) := by
      rcases hR.2.1 i hi with h | h
      · have := h.2.1; omega
      · rcases h.2 with h | h
        · omega
        · rcases h.2.2 m (by omega) with h | h
          · exact absurd h hz
          · exact h.1
    rcases hS.2.1 i hi with h | h
    · rw [hsi] at h; have := h.2.1; omega
    · rw [hsi] at h
      rcases h.2 with h | h
      · omega
      · rcases h.2.2 m (by omega) with h | h
        · exact hz h
        · obtain ⟨h1, h2, h3, h4⟩ := h.1
          have hz' : (swept p).s ((p.s i).ks m).toNat = zeroS := freed_yes (by rw [Int.toNat_of_nonneg h2]; exact hH)
          rw [hz'] at h4
          have : (0 : Int) = (p.s i).kb m := h4
          have := hP.1
          omega
  · intro hS
    apply Classical.byContradiction
    intro hN
    apply hS
    refine ⟨hR.1, fun i hi => ?_, fun i hi => absurd hi (Nat.not_lt_zero _)⟩
    by_cases hni : Has p.hn p.h (i : Int)
    · rw [show (swept p).s i = zeroS from freed_yes hni]; exact Or.inl zero_free
    · rw [show (swept p).s i = p.s i from freed_not hni]
      rcases hR.2.1 i hi with h | h
      · exact Or.inl h
      · refine Or.inr ⟨h.1, ?_⟩
        rcases h.2 with h2 | h2
        · exact Or.inl h2
        · refine Or.inr ⟨h2.1, h2.2.1, fun m hm => ?_⟩
          rcases h2.2.2 m hm with h3 | h3
          · exact Or.inl h3
          · by_cases hH : Has p.hn p.h ((p.s i).ks m)
            · left
              apply Classical.byContradiction
              intro hz
              obtain ⟨e0, e1⟩ := kid_cells h2.1 (i := m) (by omega)
              exact hN ⟨i, hi, (needs_iff p i).2 ⟨hni, m, by omega, by rw [e0]; exact hH, by rw [e0, e1]; exact hz⟩⟩
            · right
              obtain ⟨⟨g1, g2, g3, g4⟩, g5⟩ := h3
              exact ⟨⟨g1, g2, g3, by rw [show (swept p).s ((p.s i).ks m).toNat = p.s ((p.s i).ks m).toNat from freed_not (by rw [Int.toNat_of_nonneg g2]; exact hH)]; exact g4⟩, g5⟩

theorem sync_yes {p : PoolD} (h : Right p) (h' : Right (swept p)) : syncP p = swept p := if_pos ⟨h, h'⟩
theorem sync_no {p : PoolD} (h : ¬ (Right p ∧ Right (swept p))) : syncP p = p := if_neg h

/-- A slot of an own pool is written. -/
theorem PoolOwn.set {w : World} {lo hi : Nat} {a : Option Addr} {c : Nat} {v1 : Value} {p : PoolD} (h : PoolOwn w lo hi (.slice a p.n c) v1 p) {i : Nat} (hi' : i < p.n) :
    ∃ bs off, a = some ⟨bs, off, none⟩ ∧ (lo ≤ bs ∧ bs < hi) ∧ (∃ x0 x1 x2, Cell w bs (off + i * 3) x0 ∧ Cell w bs (off + i * 3 + 1) x1 ∧ Cell w bs (off + i * 3 + 2) x2) ∧
      ∀ (s : SlotD) (nb : Nat) (nv : Value) (lo' hi' : Nat), PtrsOwn w nb nv s.kn s.ks s.kb → s.data.size ≤ maxLen → (0 < s.kn → (nb < lo ∨ hi ≤ nb) ∧ lo' ≤ nb ∧ nb < hi') → lo' ≤ lo → hi ≤ hi' →
        PoolOwn (((w.setCell ⟨bs, off + i * 3, none⟩ (.int .i64 s.birth)).setCell ⟨bs, off + i * 3 + 1, none⟩ nv).setCell ⟨bs, off + i * 3 + 2, none⟩ (.string s.data)) lo' hi' (.slice a p.n c) v1 (setS p i s) := by
  obtain ⟨bs, hb, kb, kv, ⟨hm, a0, c0, hv, hcc, hx⟩, hap, hint, hnb, hpl⟩ := h
  simp only [Value.slice.injEq, true_and] at hv
  obtain ⟨rfl, rfl⟩ := hv
  have h0 : 0 < p.n := by omega
  obtain ⟨off, ha, hsl⟩ := hx h0
  have hbs := hpl bs (Or.inl (Or.inl ⟨h0, rfl⟩))
  have hkb : ∀ j, j < p.n → 0 < (p.s j).kn → lo ≤ kb j ∧ kb j < hi := fun j hj hk => hpl _ (Or.inl (Or.inr ⟨j, hj, hk, rfl⟩))
  have hhb : 0 < p.hn → lo ≤ hb ∧ hb < hi := fun h => hpl _ (Or.inr ⟨h, rfl⟩)
  refine ⟨bs, off, ha, hbs, ⟨_, _, _, (hsl i hi').birth, (hsl i hi').kidsv, (hsl i hi').data⟩, fun s nb nv lo' hi'' hp hs hnn h1 h2 => ?_⟩
  refine ⟨bs, hb, (fun j => if j = i then nb else kb j), (fun j => if j = i then nv else kv j), ⟨hm, a, c, rfl, hcc, fun _ => ⟨off, ha, fun j hj => ?_⟩⟩, fun j k hj hk hjk g1 g2 => ?_, ?_, fun g0 hx => ?_, fun k hk => ?_⟩
  · have hj' := hsl j hj
    by_cases e : j = i
    · subst e
      simp only [setS, if_true]
      refine ⟨?_, ?_, ?_, ?_, hs, fun hk e => by have := hnn hk; omega⟩
      · exact ((hj'.birth.set _).other _ (Or.inr (by omega))).other _ (Or.inr (by omega))
      · exact ((hj'.kidsv.other _ (Or.inr (by omega))).set _).other _ (Or.inr (by omega))
      · exact ((hj'.data.other _ (Or.inr (by omega))).other _ (Or.inr (by omega))).set _
      · refine ((hp.turned (Turned.put _ _ _ _) ?_).turned (Turned.put _ _ _ _) ?_).turned (Turned.put _ _ _ _) ?_
        all_goals exact fun hk e => by have := hnn hk; omega
    · simp only [setS, if_neg e]
      refine ⟨?_, ?_, ?_, ?_, hj'.small, hj'.apart⟩
      · exact ((hj'.birth.other _ (Or.inr (by omega))).other _ (Or.inr (by omega))).other _ (Or.inr (by omega))
      · exact ((hj'.kidsv.other _ (Or.inr (by omega))).other _ (Or.inr (by omega))).other _ (Or.inr (by omega))
      · exact ((hj'.data.other _ (Or.inr (by omega))).other _ (Or.inr (by omega))).other _ (Or.inr (by omega))
      · refine ((hj'.kids.turned (Turned.put _ _ _ _) ?_).turned (Turned.put _ _ _ _) ?_).turned (Turned.put _ _ _ _) ?_
        all_goals exact fun hk e => hj'.apart hk e
  · show (if j = i then nb else kb j) ≠ (if k = i then nb else kb k)
    by_cases e1 : j = i
    · by_cases e2 : k = i
      · omega
      · rw [if_pos e1, if_neg e2]
        simp only [setS, if_pos e1] at g1
        simp only [setS, if_neg e2] at g2
        have := hnn g1; have := hkb k hk g2; omega
    · by_cases e2 : k = i
      · rw [if_neg e1, if_pos e2]
        simp only [setS, if_neg e1] at g1
        simp only [setS, if_pos e2] at g2
        have := hnn g2; have := hkb j hj g1; omega
      · rw [if_neg e1, if_neg e2]
        simp only [setS, if_neg e1] at g1
        simp only [setS, if_neg e2] at g2
        exact hap j k hj hk hjk g1 g2
  · have hne : 0 < p.hn → hb ≠ bs := fun h e => hnb h (Or.inl ⟨h0, e⟩)
    refine ((hint.turned (Turned.put _ _ _ _) ?_).turned (Turned.put _ _ _ _) ?_).turned (Turned.put _ _ _ _) ?_
    all_goals exact fun hk e => hne hk e
  · rcases hx with ⟨_, e⟩ | ⟨j, hj, g1, e⟩
    · exact hnb g0 (Or.inl ⟨h0, e⟩)
    · by_cases e1 : j = i
      · simp only [setS, if_pos e1] at g1 e
        have := hnn g1; have := hhb g0; omega
      · simp only [setS, if_neg e1] at g1 e
        exact hnb g0 (Or.inr ⟨j, hj, g1, e⟩)
  · rcases hk with (⟨_, e⟩ | ⟨j, hj, g1, e⟩) | ⟨g0, e⟩
    · omega
    · by_cases e1 : j = i
      · simp only [setS, if_pos e1] at g1 e
        have := hnn g1; omega
      · simp only [setS, if_neg e1] at g1 e
        have := hkb j hj g1; omega
    · have := hhb g0; omega

theorem PoolOwn.noHeld {w : World} {lo hi : Nat} {v0 v1 : Value} {p : PoolD} (h : PoolOwn w lo hi v0 v1 p) : PoolOwn w lo hi v0 (.slice none 0 0) { n := p.n, s := p.s, hn := 0, h := p.h } := by
  obtain ⟨bs, hb, kb, kv, h1, h2, h3, h4, h5⟩ := h
  refine ⟨bs, 0, kb, kv, h1, h2, ⟨Nat.zero_le _, none, 0, rfl, Nat.le_refl _, fun h => absurd h (Nat.lt_irrefl _), fun h => absurd h (Nat.lt_irrefl _)⟩, fun h => absurd h (Nat.lt_irrefl _), fun k hk => ?_⟩
  rcases hk with hk | ⟨h, _⟩
  · exact h5 k (Or.inl hk)
  · exact absurd h (Nat.lt_irrefl _)

/-- A pool is laid into the variable of the result. -/
theorem pool_ret {w wr : World} {lo hi R : Nat} {s0 s1 : Value} {p : PoolD} (ho : PoolOwn wr lo hi s0 s1 p) (hR1 : R < lo) (hlo : w.heap.size ≤ R) (hhi : hi ≤ wr.heap.size) (hb : Below w.heap.size w wr) :
    PoolOwn ((wr.setCell ⟨R, 0, none⟩ s0).setCell ⟨R, 1, none⟩ s1) w.heap.size ((wr.setCell ⟨R, 0, none⟩ s0).setCell ⟨R, 1, none⟩ s1).heap.size s0 s1 p ∧ Below w.heap.size w ((wr.setCell ⟨R, 0, none⟩ s0).setCell ⟨R, 1, none⟩ s1) := by
  have t := (Turned.put wr R 0 s0).trans (Turned.put _ R 1 s1)
  have hz := t.size
  exact ⟨(ho.turned t (fun k hk => by omega)).wide (by omega) (by omega), (hb.setCell hlo _).setCell hlo _⟩

end Go.Proofs.Ytjbcjlednedboaa
