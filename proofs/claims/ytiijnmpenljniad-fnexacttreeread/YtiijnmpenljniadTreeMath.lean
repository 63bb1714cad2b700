/- What a tree is, as plain facts on a pool: the pointers in it, in their order; when it is right, as spec says it and as impl says it, and that both are one. -/
import Derived.Test.YtiijnmpenljniadIsPtr
import Derived.Test.YtiijnmpenljniadKids2
namespace Go.Proofs.Ytiijnmpenljniad
open Go.RowKit
set_option linter.unusedVariables false

/-- A pointer that is none. -/
def Nil (xs xb : Int) : Prop := xs = 0 ∧ xb = 0
instance (xs xb : Int) : Decidable (Nil xs xb) := inferInstanceAs (Decidable (xs = 0 ∧ xb = 0))

/-- The pointer, in a list, if it is not none. -/
def one (xs xb : Int) : List (Int × Int) := if Nil xs xb then [] else [(xs, xb)]

/-- Of the first k pointers those that are not none. -/
def kidsUp (ks kb : Nat → Int) : Nat → List (Int × Int)
  | 0 => []
  | k + 1 => kidsUp ks kb k ++ one (ks k) (kb k)

def kidS (s : SlotD) (i : Nat) : Int := kidCell s (i * 2)
def kidB (s : SlotD) (i : Nat) : Int := kidCell s (i * 2 + 1)

/-- The Kids of a slot that are not none. -/
def lowL (s : SlotD) : List (Int × Int) := kidsUp (kidS s) (kidB s) 8

/-- What is below the pointer of a node. -/
def midL (p : PoolD) (xs xb : Int) : List (Int × Int) := if Nil xs xb then [] else (xs, xb) :: lowL (p.s xs.toNat)

/-- The first k Kids of a slot, and what is below them. -/
def subUp (p : PoolD) (s : SlotD) : Nat → List (Int × Int)
  | 0 => []
  | k + 1 => subUp p s k ++ midL p (kidS s k) (kidB s k)

/-- All pointers of a tree. -/
def treeL (p : PoolD) (rs rb : Int) : List (Int × Int) := if Nil rs rb then [] else (rs, rb) :: subUp p (p.s rs.toNat) 8

theorem kidS_at {s : SlotD} (h : s.kn = 8) {i : Nat} (hi : i < 8) : kidS s i = s.ks i := by
  unfold kidS kidCell
  rw [show i * 2 / 2 = i by omega, if_pos (by omega), if_pos (by omega)]
theorem kidB_at {s : SlotD} (h : s.kn = 8) {i : Nat} (hi : i < 8) : kidB s i = s.kb i := by
  unfold kidB kidCell
  rw [show (i * 2 + 1) / 2 = i by omega, if_pos (by omega), if_neg (by omega)]
theorem kidS_no {s : SlotD} (h : s.kn = 0) (i : Nat) : kidS s i = 0 := by
  unfold kidS kidCell
  rw [if_neg (by omega)]
theorem kidB_no {s : SlotD} (h : s.kn = 0) (i : Nat) : kidB s i = 0 := by
  unfold kidB kidCell
  rw [if_neg (by omega)]

theorem mem_one {xs xb : Int} {x : Int × Int} : x ∈ one xs xb ↔ x = (xs, xb) ∧ ¬ Nil xs xb := by
  unfold one
  by_cases h : Nil xs xb
  · rw [if_pos h]; simp [h]
  · rw [if_neg h]; simp [h]
theorem mem_kidsUp {ks kb : Nat → Int} {x : Int × Int} : ∀ {k : Nat}, x ∈ kidsUp ks kb k ↔ ∃ i, i < k ∧ x = (ks i, kb i) ∧ ¬ Nil (ks i) (kb i)
  | 0 => by simp [kidsUp]
  | k + 1 => by
    rw [kidsUp, List.mem_append, mem_kidsUp, mem_one]
    constructor
    · rintro (⟨i, hi, h⟩ | h)
      · exact ⟨i, by omega, h⟩
      · exact ⟨k, by omega, h⟩
    · rintro ⟨i, hi, h⟩
      by_cases e : i = k
      · subst e; exact Or.inr h
      · exact Or.inl ⟨i, by omega, h⟩
theorem mem_midL {p : PoolD} {xs xb : Int} {x : Int × Int} : x ∈ midL p xs xb ↔ ¬ Nil xs xb ∧ (x = (xs, xb) ∨ x ∈ lowL (p.s xs.toNat)) := by
  unfold midL
  by_cases h : Nil xs xb
  · rw [if_pos h]; simp [h]
  · rw [if_neg h]; simp [h]
theorem mem_subUp {p : PoolD} {s : SlotD} {x : Int × Int} : ∀ {k : Nat}, x ∈ subUp p s k ↔ ∃ i, i < k ∧ x ∈ midL p (kidS s i) (kidB s i)
  | 0 => by simp [subUp]
  | k + 1 => by
    rw [subUp, List.mem_append, mem_subUp]
    constructor
    · rintro (⟨i, hi, h⟩ | h)
      · exact ⟨i, by omega, h⟩
      · exact ⟨k, by omega, h⟩
    · rintro ⟨i, hi, h⟩
      by_cases e : i = k
      · subst e; exact Or.inr h
      · exact Or.inl ⟨i, by omega, h⟩

theorem kidsUp_len (ks kb : Nat → Int) : ∀ k, (kidsUp ks kb k).length ≤ k
  | 0 => Nat.le_refl _
  | k + 1 => by
    have := kidsUp_len ks kb k
    unfold kidsUp one
    split <;> simp <;> omega
theorem midL_len (p : PoolD) (xs xb : Int) : (midL p xs xb).length ≤ 9 := by
  unfold midL
  have := kidsUp_len (kidS (p.s xs.toNat)) (kidB (p.s xs.toNat)) 8
  split
  · simp
  · show (lowL _).length + 1 ≤ 9
    unfold lowL
    omega
theorem subUp_len (p : PoolD) (s : SlotD) : ∀ k, (subUp p s k).length ≤ 9 * k
  | 0 => Nat.le_refl _
  | k + 1 => by
    have := subUp_len p s k
    have := midL_len p (kidS s k) (kidB s k)
    unfold subUp
    rw [List.length_append]
    omega
theorem treeL_len (p : PoolD) (rs rb : Int) : (treeL p rs rb).length ≤ 73 := by
  unfold treeL
  have := subUp_len p (p.s rs.toNat) 8
  split
  · simp
  · show (subUp _ _ _).length + 1 ≤ 73
    omega

/-- A node, a page, neither of them held. -/
def NodeAt (p : PoolD) (xs xb : Int) : Prop := Points p xs xb ∧ 0 < (p.s xs.toNat).kn ∧ ¬ Has p.hn p.h xs
def PageAt (p : PoolD) (xs xb : Int) : Prop := Points p xs xb ∧ (p.s xs.toNat).kn = 0 ∧ ¬ Has p.hn p.h xs
/-- A node's Kids are pages, one at least. -/
def LowOk (p : PoolD) (s : SlotD) : Prop := (∀ i, i < 8 → Nil (kidS s i) (kidB s i) ∨ PageAt p (kidS s i) (kidB s i)) ∧ ∃ i, i < 8 ∧ ¬ Nil (kidS s i) (kidB s i)
/-- The i-th Kid of a root is none, or a node. -/
def MidOk (p : PoolD) (s : SlotD) (i : Nat) : Prop := Nil (kidS s i) (kidB s i) ∨ (NodeAt p (kidS s i) (kidB s i) ∧ LowOk p (p.s (kidS s i).toNat))
def slotsL (l : List (Int × Int)) : List Int := l.map Prod.fst
def TopOk (p : PoolD) (s : SlotD) : Prop := (∀ i, i < 8 → MidOk p s i) ∧ ∃ i, i < 8 ∧ ¬ Nil (kidS s i) (kidB s i)
def TreeOk (p : PoolD) (rs rb : Int) : Prop := Nil rs rb ∨ (NodeAt p rs rb ∧ TopOk p (p.s rs.toNat) ∧ (slotsL (treeL p rs rb)).Nodup)
/-- A right pool with a tree in it. -/
def TreeR (p : PoolD) (rs rb : Int) : Prop := Right p ∧ TreeOk p rs rb

/-- What impl.shapeRight tells of a page, a node and a root. -/
def Shape1 (p : PoolD) (s : SlotD) : Prop := (∃ i, i < 8 ∧ ¬ Nil (kidS s i) (kidB s i)) ∧ ∀ i, i < 8 → Nil (kidS s i) (kidB s i) ∨ Page (p.s (kidS s i).toNat)
def Shape0 (p : PoolD) (s : SlotD) : Prop := (∃ i, i < 8 ∧ ¬ Nil (kidS s i) (kidB s i)) ∧ ∀ i, i < 8 → Nil (kidS s i) (kidB s i) ∨ Shape1 p (p.s (kidS s i).toNat)
/-- What impl.apart tells. -/
def Apart (p : PoolD) (l : List (Int × Int)) : Prop := l.Nodup ∧ ∀ x, x ∈ l → ¬ Has p.hn p.h x.1
def TreeOkI (p : PoolD) (rs rb : Int) : Prop := Nil rs rb ∨ (Points p rs rb ∧ Shape0 p (p.s rs.toNat) ∧ Apart p (treeL p rs rb))

/-- A slot of a right pool to which a pointer points. -/
theorem points_fits {p : PoolD} {xs xb : Int} (hR : Right p) (h : Points p xs xb) : Fits p (p.s xs.toNat) := by
  obtain ⟨h1, h2, h3, h4⟩ := h
  rcases hR.2.1 xs.toNat (by omega) with hf | hf
  · have := hf.1; omega
  · exact hf
theorem fits_kn {p : PoolD} {s : SlotD} (h : Fits p s) : s.kn = 0 ∨ s.kn = 8 := by
  rcases h.2 with h | h
  · exact Or.inl h.1
  · exact Or.inr h.1
theorem right_kn {p : PoolD} (hR : Right p) {i : Nat} (hi : i < p.n) : (p.s i).kn = 0 ∨ (p.s i).kn = 8 := by
  rcases hR.2.1 i hi with h | h
  · exact Or.inl h.2.1
  · exact fits_kn h
theorem points_kn {p : PoolD} {xs xb : Int} (hR : Right p) (h : Points p xs xb) : (p.s xs.toNat).kn = 0 ∨ (p.s xs.toNat).kn = 8 := fits_kn (points_fits hR h)
/-- A Kid that is not none points at a slot. -/
theorem kid_points {p : PoolD} {s : SlotD} (h : Fits p s) {i : Nat} (hi : i < 8) (hn : ¬ Nil (kidS s i) (kidB s i)) : Points p (kidS s i) (kidB s i) ∧ kidB s i ≤ s.birth := by
  rcases h.2 with h2 | h2
  · exact absurd ⟨kidS_no h2.1 i, kidB_no h2.1 i⟩ hn
  · rw [kidS_at h2.1 hi, kidB_at h2.1 hi] at hn ⊢
    rcases h2.2.2 i (by omega) with h3 | h3
    · exact absurd h3 hn
    · exact h3
theorem page_iff {p : PoolD} {xs xb : Int} (hR : Right p) (h : Points p xs xb) : Page (p.s xs.toNat) ↔ (p.s xs.toNat).kn = 0 := by
  have hf := points_fits hR h
  constructor
  · exact fun h => h.2.1
  · intro h0
    rcases hf.2 with h2 | h2
    · exact ⟨hf.1, h2⟩
    · omega
theorem some_kid {s : SlotD} (h : s.kn = 0 ∨ s.kn = 8) (he : ∃ i, i < 8 ∧ ¬ Nil (kidS s i) (kidB s i)) : s.kn = 8 := by
  rcases h with h | h
  · obtain ⟨i, _, hi⟩ := he
    exact absurd ⟨kidS_no h i, kidB_no h i⟩ hi
  · exact h

/-- Every pointer of a tree whose root points at a slot points at one. -/
theorem tree_points {p : PoolD} {rs rb : Int} (hR : Right p) (h : Points p rs rb) : ∀ x, x ∈ treeL p rs rb → Points p x.1 x.2 ∧ x.2 ≤ rb := by
  intro x hx
  unfold treeL at hx
  split at hx
  · simp at hx
  · rw [List.mem_cons, mem_subUp] at hx
    rcases hx with rfl | ⟨i, hi, hx⟩
    · exact ⟨h, by simp⟩
    · have hf := points_fits hR h
      have hbr : (p.s rs.toNat).birth = rb := h.2.2.2
      obtain ⟨hn, hx⟩ := mem_midL.1 hx
      have hk := kid_points hf hi hn
      rcases hx with rfl | hx
      · exact ⟨hk.1, by rw [← hbr]; exact hk.2⟩
      · obtain ⟨j, hj, rfl, hn2⟩ := mem_kidsUp.1 hx
        have hf2 := points_fits hR hk.1
        have hk2 := kid_points hf2 hj hn2
        have e : (p.s (kidS (p.s rs.toNat) i).toNat).birth = kidB (p.s rs.toNat) i := hk.1.2.2.2
        have := hk.2
        have := hk2.2
        exact ⟨hk2.1, by show kidB _ j ≤ rb; omega⟩

theorem nodup_iff {p : PoolD} {l : List (Int × Int)} (h : ∀ x, x ∈ l → Points p x.1 x.2) : (slotsL l).Nodup ↔ l.Nodup := by
  unfold slotsL List.Nodup
  rw [List.pairwise_map]
  constructor
  · exact fun hp => hp.imp (fun hne e => hne (by rw [e]))
  · intro hp
    refine List.Pairwise.imp_of_mem ?_ hp
    intro a b ha hb hne e
    apply hne
    have h1 := (h a ha).2.2.2
    have h2 := (h b hb).2.2.2
    rw [e] at h1
    obtain ⟨a1, a2⟩ := a
    obtain ⟨b1, b2⟩ := b
    simp only [Prod.mk.injEq]
    exact ⟨e, by simp only at h1 h2 e; rw [← h1, ← h2]⟩

theorem tree_iff {p : PoolD} {rs rb : Int} (hR : Right p) : TreeOkI p rs rb ↔ TreeOk p rs rb := by
  by_cases hz : Nil rs rb
  · exact ⟨fun _ => Or.inl hz, fun _ => Or.inl hz⟩
  have hroot : (rs, rb) ∈ treeL p rs rb := by unfold treeL; rw [if_neg hz]; simp
  have hkid : ∀ i, i < 8 → ¬ Nil (kidS (p.s rs.toNat) i) (kidB (p.s rs.toNat) i) → (kidS (p.s rs.toNat) i, kidB (p.s rs.toNat) i) ∈ treeL p rs rb := fun i hi hn => by
    unfold treeL
    rw [if_neg hz, List.mem_cons, mem_subUp]
    exact Or.inr ⟨i, hi, mem_midL.2 ⟨hn, Or.inl rfl⟩⟩
  have hlow : ∀ i, i < 8 → ¬ Nil (kidS (p.s rs.toNat) i) (kidB (p.s rs.toNat) i) → ∀ x, x ∈ lowL (p.s (kidS (p.s rs.toNat) i).toNat) → x ∈ treeL p rs rb := fun i hi hn x hx => by
    unfold treeL
    rw [if_neg hz, List.mem_cons, mem_subUp]
    exact Or.inr ⟨i, hi, mem_midL.2 ⟨hn, Or.inr hx⟩⟩
  constructor
  · rintro (h | ⟨hP, ⟨he, hS⟩, hA⟩)
    · exact Or.inl h
    · right
      have hf := points_fits hR hP
      have hk8 := some_kid (fits_kn hf) he
      refine ⟨⟨hP, by omega, hA.2 _ hroot⟩, ⟨fun i hi => ?_, he⟩, (nodup_iff (fun x hx => (tree_points hR hP x hx).1)).2 hA.1⟩
      by_cases hn : Nil (kidS (p.s rs.toNat) i) (kidB (p.s rs.toNat) i)
      · exact Or.inl hn
      · right
        have hk := kid_points hf hi hn
        have hf2 := points_fits hR hk.1
        obtain ⟨he2, hS2⟩ : Shape1 p (p.s (kidS (p.s rs.toNat) i).toNat) := by
          rcases hS i hi with h | h
          · exact absurd h hn
          · exact h
        have hk82 := some_kid (fits_kn hf2) he2
        refine ⟨⟨hk.1, by omega, hA.2 _ (hkid i hi hn)⟩, fun j hj => ?_, he2⟩
        by_cases hn2 : Nil (kidS (p.s (kidS (p.s rs.toNat) i).toNat) j) (kidB (p.s (kidS (p.s rs.toNat) i).toNat) j)
        · exact Or.inl hn2
        · right
          have hk2 := kid_points hf2 hj hn2
          refine ⟨hk2.1, ?_, hA.2 _ (hlow i hi hn _ (mem_kidsUp.2 ⟨j, hj, rfl, hn2⟩))⟩
          rcases hS2 j hj with h | h
          · exact absurd h hn2
          · exact h.2.1
  · rintro (h | ⟨hN, ⟨hM, he⟩, hD⟩)
    · exact Or.inl h
    · right
      have hP := hN.1
      have hf := points_fits hR hP
      have held : ∀ x, x ∈ treeL p rs rb → ¬ Has p.hn p.h x.1 := fun x hx => by
        unfold treeL at hx
        rw [if_neg hz, List.mem_cons, mem_subUp] at hx
        rcases hx with rfl | ⟨i, hi, hx⟩
        · exact hN.2.2
        · obtain ⟨hn, hx⟩ := mem_midL.1 hx
          rcases hM i hi with h | ⟨h1, h2⟩
          · exact absurd h hn
          · rcases hx with rfl | hx
            · exact h1.2.2
            · obtain ⟨j, hj, rfl, hn2⟩ := mem_kidsUp.1 hx
              rcases h2.1 j hj with h | h
              · exact absurd h hn2
              · exact h.2.2
      refine ⟨hP, ⟨he, fun i hi => ?_⟩, (nodup_iff (fun x hx => (tree_points hR hP x hx).1)).1 hD, held⟩
      rcases hM i hi with h | ⟨h1, h2, h3⟩
      · exact Or.inl h
      · refine Or.inr ⟨h3, fun j hj => ?_⟩
        rcases h2 j hj with h | h
        · exact Or.inl h
        · exact Or.inr ((page_iff hR h.1).2 h.2.1)

end Go.Proofs.Ytiijnmpenljniad
