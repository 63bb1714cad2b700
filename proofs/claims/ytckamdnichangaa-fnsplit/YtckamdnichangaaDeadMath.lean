/- Pointers that are right, parted and the same, as plain facts; the map of slots that were seen, as a datum (no law is proved here). -/
import Derived.Test.YtckamdnichangaaBase
import Derived.Maps.OwnSet
namespace Go.Proofs.Ytckamdnichangaa
open Go.RowKit Go.Maps
set_option linter.unusedVariables false

def TimeOk (t : Int) : Prop := 0 ≤ t ∧ t ≤ 1000000
def PtrOk (s b : Int) : Prop := 0 ≤ s ∧ s ≤ 199 ∧ 1 ≤ b ∧ b ≤ 1000000
/-- No two have one slot. -/
def Dist (n : Nat) (f : Nat → Int) : Prop := ∀ i, i < n → ∀ k, k < i → f k ≠ f i
def PtrsOk (n : Nat) (f g : Nat → Int) : Prop := n ≤ 200 ∧ (∀ i, i < n → PtrOk (f i) (g i)) ∧ Dist n f
def PIn (n : Nat) (f g : Nat → Int) (x y : Int) : Prop := ∃ j, j < n ∧ f j = x ∧ g j = y
def PSame (n : Nat) (f g : Nat → Int) (m : Nat) (f' g' : Nat → Int) : Prop := PtrsOk n f g ∧ PtrsOk m f' g' ∧ n = m ∧ ∀ i, i < n → PIn m f' g' (f i) (g i)

theorem Dist.inj {n : Nat} {f : Nat → Int} (h : Dist n f) {i k : Nat} (hi : i < n) (hk : k < n) (e : f i = f k) : i = k := by
  rcases Nat.lt_trichotomy i k with h1 | h1 | h1
  · exact absurd e (h k hk i h1)
  · exact h1
  · exact absurd e.symm (h i hi k h1)

theorem pigeon : ∀ (n m : Nat) (h : Nat → Nat), (∀ i, i < n → h i < m) → (∀ i k, i < n → k < n → h i = h k → i = k) → n ≤ m
  | 0, _, _, _, _ => Nat.zero_le _
  | n + 1, m, h, h1, h2 => by
    have hm := h1 n (Nat.lt_succ_self n)
    have := pigeon n (m - 1) (fun i => if h i < h n then h i else h i - 1) (fun i hi => by
      have := h1 i (by omega)
      have : h i ≠ h n := fun e => by have := h2 i n (by omega) (by omega) e; omega
      show (if h i < h n then h i else h i - 1) < m - 1
      split <;> omega) (fun i k hi hk e => by
      have a1 : h i ≠ h n := fun e => by have := h2 i n (by omega) (by omega) e; omega
      have a2 : h k ≠ h n := fun e => by have := h2 k n (by omega) (by omega) e; omega
      have e' : (if h i < h n then h i else h i - 1) = (if h k < h n then h k else h k - 1) := e
      refine h2 i k (by omega) (by omega) ?_
      split at e' <;> split at e' <;> omega)
    omega

/-- Of two lists of right pointers of one length: if all of one are in the other one, all of that one are in this. -/
theorem same_flip {n : Nat} {f g f' g' : Nat → Int} (h1 : PtrsOk n f g) (h2 : PtrsOk n f' g') (h : ∀ i, i < n → PIn n f' g' (f i) (g i)) : ∀ j, j < n → PIn n f g (f' j) (g' j) := by
  intro j hj
  by_cases hx : PIn n f g (f' j) (g' j)
  · exact hx
  · exfalso
    have := pigeon n (n - 1) (fun i => if hi : i < n then (if (h i hi).choose < j then (h i hi).choose else (h i hi).choose - 1) else 0) (fun i hi => by
      have hs := (h i hi).choose_spec
      have hne : (h i hi).choose ≠ j := fun e => hx ⟨i, hi, by rw [← hs.2.1, e], by rw [← hs.2.2, e]⟩
      simp only [hi, dif_pos]
      split <;> omega) (fun i k hi hk e => by
      have hs := (h i hi).choose_spec
      have hs' := (h k hk).choose_spec
      have hne : (h i hi).choose ≠ j := fun e => hx ⟨i, hi, by rw [← hs.2.1, e], by rw [← hs.2.2, e]⟩
      have hne' : (h k hk).choose ≠ j := fun e => hx ⟨k, hk, by rw [← hs'.2.1, e], by rw [← hs'.2.2, e]⟩
      simp only [hi, hk, dif_pos] at e
      have e2 : (h i hi).choose = (h k hk).choose := by split at e <;> split at e <;> omega
      refine h1.2.2.inj hi hk ?_
      rw [← hs.2.1, ← hs'.2.1, e2])
    omega

theorem PSame.symm {n m : Nat} {f g f' g' : Nat → Int} (h : PSame n f g m f' g') : PSame m f' g' n f g := by
  obtain ⟨h1, h2, rfl, h3⟩ := h
  exact ⟨h2, h1, rfl, same_flip h1 h2 h3⟩

/-- The key of a slot. -/
def keyI (x : Int) : Lit := .int .i64 x
theorem keyI_ne {x y : Int} (h : x ≠ y) : keyI x ≠ keyI y := fun e => h (by unfold keyI at e; injection e)
theorem keyI_key (x : Int) : WideAt.IsKeyLit (keyI x) := trivial
def datI (x : Int) : DataW Unit := .lit (.int .i64 x)
theorem datI_inj {x y : Int} (h : datI x = datI y) : x = y := by unfold datI at h; injection h with h; injection h

/-- The map of the first k slots. -/
def seenD (f g : Nat → Int) : Nat → DataW Unit
  | 0 => .map []
  | k + 1 => (seenD f g k).put (keyI (f k)) (datI (g k))

theorem seen_tidy (f g : Nat → Int) : ∀ k, Tidy (seenD f g k)
  | 0 => tidy_empty
  | k + 1 => (seen_tidy f g k).put (keyI_key _) _

theorem seen_has (f g : Nat → Int) (x : Int) : ∀ k, Maps.has (seenD f g k) (keyI x) = true ↔ ∃ i, i < k ∧ f i = x
  | 0 => by
    constructor
    · intro h; exact absurd h (by simp [seenD, Maps.has])
    · rintro ⟨i, hi, _⟩; omega
  | k + 1 => by
    by_cases hx : f k = x
    · subst hx
      exact ⟨fun _ => ⟨k, by omega, rfl⟩, fun _ => has_put_same (seen_tidy f g k).isMap (keyI_key _) _⟩
    · rw [show Maps.has (seenD f g (k + 1)) (keyI x) = Maps.has (seenD f g k) (keyI x) from has_put_other (keyI_ne (Ne.symm hx)) _, seen_has f g x k]
      constructor
      · rintro ⟨i, hi, e⟩; exact ⟨i, by omega, e⟩
      · rintro ⟨i, hi, e⟩
        by_cases h : i = k
        · subst h; exact absurd e hx
        · exact ⟨i, by omega, e⟩

theorem dist_succ {k : Nat} {f : Nat → Int} : Dist (k + 1) f ↔ Dist k f ∧ ∀ i, i < k → f i ≠ f k := by
  constructor
  · exact fun h => ⟨fun i hi => h i (by omega), fun i hi => h k (by omega) i hi⟩
  · rintro ⟨h1, h2⟩ i hi j hj
    by_cases e : i = k
    · subst e; exact h2 j hj
    · exact h1 i (by omega) j hj

theorem seen_size (f g : Nat → Int) : ∀ k, Maps.size (seenD f g k) ≤ k ∧ (Maps.size (seenD f g k) = k ↔ Dist k f)
  | 0 => ⟨Nat.le_refl _, fun _ i hi => by omega, fun _ => rfl⟩
  | k + 1 => by
    obtain ⟨h1, h2⟩ := seen_size f g k
    have e : Maps.size (seenD f g (k + 1)) = if Maps.has (seenD f g k) (keyI (f k)) then Maps.size (seenD f g k) else Maps.size (seenD f g k) + 1 := size_put (seen_tidy f g k) _
    by_cases hh : Maps.has (seenD f g k) (keyI (f k)) = true
    · rw [if_pos hh] at e
      rw [e, dist_succ]
      refine ⟨by omega, fun h => by omega, fun h => ?_⟩
      obtain ⟨i, hi, he⟩ := (seen_has f g (f k) k).1 hh
      exact absurd he (h.2 i hi)
    · rw [if_neg hh] at e
      rw [e, dist_succ, ← h2]
      refine ⟨by omega, fun h => ⟨by omega, fun i hi he => hh ((seen_has f g (f k) k).2 ⟨i, hi, he⟩)⟩, fun h => by omega⟩

theorem seen_at {n : Nat} {f : Nat → Int} (g : Nat → Int) (hd : Dist n f) (z : DataW Unit) : ∀ k, k ≤ n → ∀ i, i < k → (seenD f g k).atKey (keyI (f i)) z = datI (g i)
  | 0, _, i, hi => absurd hi (Nat.not_lt_zero _)
  | k + 1, hk, i, hi => by
    by_cases e : i = k
    · subst e; exact atKey_put_same (seen_tidy f g i).isMap (keyI_key _) _ _
    · exact (atKey_put_other (keyI_ne (fun h => e (hd.inj (by omega) (by omega) h))) _ _).trans (seen_at g hd z k (by omega) i (by omega))

/-- What is left of a list of right pointers, of which the slots of the first k of another list are gone. -/
structure LeftD (n : Nat) (f g f' : Nat → Int) (k : Nat) (D : DataW Unit) : Prop where
  tidy : Tidy D
  size : Maps.size D + k = n
  at' : ∀ x, (∀ j, j < k → f' j ≠ x) → (∀ i, i < n → f i = x → D.atKey (keyI x) (datI 0) = datI (g i)) ∧ ((∀ i, i < n → f i ≠ x) → D.atKey (keyI x) (datI 0) = datI 0)
  has : ∀ x, Maps.has D (keyI x) = true ↔ (∃ i, i < n ∧ f i = x) ∧ ∀ j, j < k → f' j ≠ x

theorem LeftD.start {n : Nat} {f g : Nat → Int} (h : PtrsOk n f g) (f' : Nat → Int) : LeftD n f g f' 0 (seenD f g n) where
  tidy := seen_tidy f g n
  size := by rw [(seen_size f g n).2.2 h.2.2]; rfl
  at' := fun x _ => ⟨fun i hi e => by subst e; exact seen_at g h.2.2 _ n (Nat.le_refl _) i hi, fun hno => by
    refine atKey_of_not_has ?_ _
    rw [Bool.eq_false_iff]
    intro hh
    obtain ⟨i, hi, e⟩ := (seen_has f g x n).1 hh
    exact hno i hi e⟩
  has := fun x => by
    rw [seen_has]
    exact ⟨fun h => ⟨h, fun j hj => absurd hj (Nat.not_lt_zero _)⟩, fun h => h.1⟩

/-- The next one's birth is as in the map: it goes. -/
theorem LeftD.next {n m : Nat} {f g f' g' : Nat → Int} {k : Nat} {D : DataW Unit} (h : LeftD n f g f' k D) (h2 : PtrsOk m f' g') (hk : k < m) (e : D.atKey (keyI (f' k)) (datI 0) = datI (g' k)) : LeftD n f g f' (k + 1) (D.del (keyI (f' k))) := by
  have hhas : Maps.has D (keyI (f' k)) = true := by
    by_cases hh : Maps.has D (keyI (f' k)) = true
    · exact hh
    · rw [atKey_of_not_has (by simpa using hh)] at e
      have := datI_inj e
      have := (h2.2.1 k hk).2.2.1
      omega
  have hs := size_del (k := keyI (f' k)) h.tidy
  rw [hhas] at hs
  refine ⟨h.tidy.del _, ?_, fun x hx => ?_, fun x => ?_⟩
  · have := h.size
    have hs' : Maps.size (D.del (keyI (f' k))) + 1 = Maps.size D := hs
    omega
  · have hne : f' k ≠ x := hx k (by omega)
    rw [atKey_del_other (keyI_ne (Ne.symm hne))]
    exact h.at' x (fun j hj => hx j (by omega))
  · by_cases hne : f' k = x
    · subst hne
      rw [has_del_same]
      exact ⟨fun h => absurd h (by simp), fun h => absurd rfl (h.2 k (by omega))⟩
    · rw [has_del_other (keyI_ne (Ne.symm hne)), h.has x]
      refine and_congr_right fun _ => ⟨fun h j hj => ?_, fun h j hj => h j (by omega)⟩
      by_cases ej : j = k
      · subst ej; exact hne
      · exact h j (by omega)

theorem LeftD.no {n m : Nat} {f g f' g' : Nat → Int} {k : Nat} {D : DataW Unit} (h : LeftD n f g f' k D) (h1 : PtrsOk n f g) (h2 : PtrsOk m f' g') (hk : k < m) {c : Int} (e : D.atKey (keyI (f' k)) (datI 0) = datI c) (hc : c ≠ g' k) : ¬ PSame n f g m f' g' := by
  intro hs
  obtain ⟨i, hi, e1, e2⟩ := hs.symm.2.2.2 k hk
  have := (h.at' (f' k) (fun j hj => h2.2.2 k hk j hj)).1 i hi e1
  rw [e] at this
  exact hc ((datI_inj this).trans e2)

/-- All of the other list were there. -/
theorem LeftD.end {n m : Nat} {f g f' g' : Nat → Int} {D : DataW Unit} (h : LeftD n f g f' m D) (h1 : PtrsOk n f g) (h2 : PtrsOk m f' g') (hin : ∀ j, j < m → PIn n f g (f' j) (g' j)) : Maps.size D = 0 ↔ PSame n f g m f' g' := by
  have hs := h.size
  constructor
  · intro h0
    obtain rfl : m = n := by omega
    exact PSame.symm ⟨h2, h1, rfl, hin⟩
  · intro hp
    have := hp.2.2.1
    omega

theorem LeftD.in {n m : Nat} {f g f' g' : Nat → Int} {k : Nat} {D : DataW Unit} (h : LeftD n f g f' k D) (h2 : PtrsOk m f' g') (hk : k < m) (e : D.atKey (keyI (f' k)) (datI 0) = datI (g' k)) : PIn n f g (f' k) (g' k) := by
  by_cases hx : ∃ i, i < n ∧ f i = f' k
  · obtain ⟨i, hi, ei⟩ := hx
    have := (h.at' (f' k) (fun j hj => h2.2.2 k hk j hj)).1 i hi ei
    rw [e] at this
    exact ⟨i, hi, ei, (datI_inj this).symm⟩
  · have := (h.at' (f' k) (fun j hj => h2.2.2 k hk j hj)).2 (fun i hi e => hx ⟨i, hi, e⟩)
    rw [e] at this
    have := datI_inj this
    have := (h2.2.1 k hk).2.2.1
    omega

/-- Those of the first k that the question takes, and the others. -/
def youngL (f g : Nat → Int) (t : Int) : Nat → List (Int × Int)
  | 0 => []
  | k + 1 => if t < g k then youngL f g t k ++ [(f k, g k)] else youngL f g t k
def oldL (f g : Nat → Int) (t : Int) : Nat → List (Int × Int)
  | 0 => []
  | k + 1 => if t < g k then oldL f g t k else oldL f g t k ++ [(f k, g k)]
theorem young_len (f g : Nat → Int) (t : Int) : ∀ k, (youngL f g t k).length + (oldL f g t k).length = k
  | 0 => rfl
  | k + 1 => by
    have := young_len f g t k
    unfold youngL oldL
    split <;> simp <;> omega

end Go.Proofs.Ytckamdnichangaa
