/- What holds of a pool behind PoolTake, PoolHold and PoolSync: it is right, it tells what was taken, it has one room less. -/
import Derived.Test.YtjbcjlednedboaaTakeA
import Derived.Test.YtjbcjlednedboaaPoolAtI
import Derived.Test.YtjbcjlednedboaaRoomI
namespace Go.Proofs.Ytjbcjlednedboaa
open Go.RowKit
set_option linter.unusedVariables false

theorem set_here (p : PoolD) (i : Nat) (s : SlotD) : (setS p i s).s i = s := if_pos rfl
theorem set_there (p : PoolD) {i j : Nat} (s : SlotD) (h : j ≠ i) : (setS p i s).s j = p.s j := if_neg h

theorem points_set {p : PoolD} {i : Nat} {s : SlotD} {xs xb : Int} (hi : Free (p.s i)) (h : Points p xs xb) : Points (setS p i s) xs xb := by
  obtain ⟨h1, h2, h3, h4⟩ := h
  refine ⟨h1, h2, h3, ?_⟩
  have hne : xs.toNat ≠ i := fun e => by
    rw [e] at h4
    have := hi.1
    omega
  rw [set_there p s hne]
  exact h4

theorem fits_set {p : PoolD} {i : Nat} {s t : SlotD} (hi : Free (p.s i)) (h : Fits p t) : Fits (setS p i s) t := by
  refine ⟨h.1, ?_⟩
  rcases h.2 with h2 | h2
  · exact Or.inl h2
  · refine Or.inr ⟨h2.1, h2.2.1, fun m hm => ?_⟩
    rcases h2.2.2 m hm with h3 | h3
    · exact Or.inl h3
    · exact Or.inr ⟨points_set hi h3.1, h3.2⟩

theorem right_set {p : PoolD} {i : Nat} {s : SlotD} (hR : Right p) (hi : First p.n p.s i) (hs : Fits p s) : Right (setS p i s) := by
  refine ⟨hR.1, fun j hj => ?_, fun j hj => ?_⟩
  · by_cases e : j = i
    · rw [e, set_here]
      exact Or.inr (fits_set hi.2.1 hs)
    · rw [set_there p s e]
      rcases hR.2.1 j hj with h | h
      · exact Or.inl h
      · exact Or.inr (fits_set hi.2.1 h)
  · obtain ⟨h1, h2, h3, h4⟩ := hR.2.2 j hj
    refine ⟨h1, h2, ?_, h4⟩
    have hne : (p.h j).toNat ≠ i := fun e => h3 (by rw [e]; exact hi.2.1)
    show ¬ Free ((setS p i s).s (p.h j).toNat)
    rw [set_there p s hne]
    exact h3

theorem at_set {p : PoolD} {i : Nat} {s : SlotD} (hR : Right p) (hi : First p.n p.s i) (hs : Fits p s) : atP (setS p i s) (i : Int) s.birth = s := by
  have hP : Points (setS p i s) (i : Int) s.birth := ⟨hs.1.1, by omega, by have := hi.1; show (i : Int) < (p.n : Int); omega, by rw [Int.toNat_natCast, set_here]⟩
  rw [atP_yes (right_set hR hi hs) hP, Int.toNat_natCast, set_here]

theorem fits_not_free {p : PoolD} {s : SlotD} (h : Fits p s) : ¬ Free s := fun hf => by
  have := hf.1
  have := h.1.1
  omega

theorem room_set {p : PoolD} {i : Nat} {s : SlotD} (hi : Free (p.s i)) (hs : ¬ Free s) : ∀ n, roomN (setS p i s).s n + (if i < n then 1 else 0) = roomN p.s n
  | 0 => rfl
  | n + 1 => by
    have ih := room_set hi hs n
    by_cases e : n = i
    · subst e
      rw [if_pos (by omega)]
      rw [if_neg (by omega)] at ih
      rw [roomN_no (by rw [set_here]; exact hs), roomN_yes hi]
      omega
    · have hsn : (setS p i s).s n = p.s n := set_there p s e
      have hif : (if i < n + 1 then 1 else 0) = (if i < n then 1 else 0) := by
        by_cases e2 : i < n
        · rw [if_pos e2, if_pos (by omega)]
        · rw [if_neg e2, if_neg (by omega)]
      rw [hif]
      by_cases hf : Free (p.s n)
      · rw [roomN_yes (by rw [hsn]; exact hf), roomN_yes hf]
        omega
      · rw [roomN_no (by rw [hsn]; exact hf), roomN_no hf]
        exact ih

theorem roomP_set {p : PoolD} {i : Nat} {s : SlotD} (hR : Right p) (hi : First p.n p.s i) (hs : Fits p s) : roomP (setS p i s) = roomP p - 1 := by
  have h := room_set (p := p) (i := i) (s := s) hi.2.1 (fits_not_free hs) p.n
  rw [if_pos hi.1] at h
  have e1 : roomP (setS p i s) = (roomN (setS p i s).s p.n : Int) := if_pos (right_set hR hi hs)
  have e2 : roomP p = (roomN p.s p.n : Int) := if_pos hR
  rw [e1, e2]
  omega

theorem has_hold {p : PoolD} {xs y : Int} {j : Nat} (hj : j ≤ p.hn) : Has j (holdD p xs).h y ↔ Has j p.h y := by
  constructor
  · rintro ⟨k, hk, e⟩
    exact ⟨k, hk, by rw [← e]; exact (if_neg (by omega : ¬ k = p.hn)).symm⟩
  · rintro ⟨k, hk, e⟩
    exact ⟨k, hk, by rw [← e]; exact if_neg (by omega : ¬ k = p.hn)⟩

theorem fits_hold {p : PoolD} {xs : Int} {t : SlotD} (h : Fits p t) : Fits (holdD p xs) t := h

theorem right_hold {p : PoolD} {xs xb : Int} (hR : Right p) (hP : Points p xs xb) (hH : ¬ Has p.hn p.h xs) : Right (holdD p xs) := by
  refine ⟨hR.1, fun j hj => hR.2.1 j hj, fun j hj => ?_⟩
  by_cases e : j = p.hn
  · subst e
    have hx : (holdD p xs).h p.hn = xs := if_pos rfl
    refine ⟨?_, ?_, ?_, ?_⟩
    · rw [hx]; exact hP.2.1
    · rw [hx]; exact hP.2.2.1
    · rw [hx]
      intro hf
      have h4 := hP.2.2.2
      have h5 : (p.s xs.toNat).birth = 0 := hf.1
      have := hP.1
      omega
    · rw [hx, has_hold (Nat.le_refl _)]
      exact hH
  · have hj' : j < p.hn := by have : j < p.hn + 1 := hj; omega
    have hx : (holdD p xs).h j = p.h j := if_neg e
    obtain ⟨h1, h2, h3, h4⟩ := hR.2.2 j hj'
    refine ⟨?_, ?_, ?_, ?_⟩
    · rw [hx]; exact h1
    · rw [hx]; exact h2
    · rw [hx]; exact h3
    · rw [hx, has_hold (by omega)]
      exact h4

theorem at_hold {p : PoolD} {xs xb : Int} (hR : Right p) (hP : Points p xs xb) (hH : ¬ Has p.hn p.h xs) : atP (holdD p xs) xs xb = p.s xs.toNat :=
  atP_yes (right_hold hR hP hH) hP

/-- Synced, it is free, or all is as it was. -/
theorem sync_hold {p : PoolD} {xs xb : Int} (hP : Points p xs xb) : ((syncP (holdD p xs)).hn = 0 ∧ (atP (syncP (holdD p xs)) xs xb).birth = 0) ∨ syncP (holdD p xs) = holdD p xs := by
  by_cases h : Right (holdD p xs) ∧ Right (swept (holdD p xs))
  · left
    rw [sync_yes h.1 h.2]
    refine ⟨rfl, ?_⟩
    have hn : ¬ (Right (swept (holdD p xs)) ∧ Points (swept (holdD p xs)) xs xb) := fun hx => by
      obtain ⟨h1, h2, h3, h4⟩ := hx.2
      have hz : (swept (holdD p xs)).s xs.toNat = zeroS := freed_yes (p := holdD p xs) (m := p.hn + 1) ⟨p.hn, by omega, by rw [Int.toNat_of_nonneg h2]; exact if_pos rfl⟩
      rw [hz] at h4
      have : (0 : Int) = xb := h4
      omega
    rw [atP_no hn]
    rfl
  · right
    exact sync_no h

end Go.Proofs.Ytjbcjlednedboaa
