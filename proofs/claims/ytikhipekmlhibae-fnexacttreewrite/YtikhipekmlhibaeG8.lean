/- What a tree is, as plain facts on a pool: the pointers in it, in their order; when it is right, as spec says it and as impl says it, and that both are one. -/
import Derived.Test.YtikhipekmlhibaeG5
import Derived.Test.YtikhipekmlhibaeG6
import Derived.Test.YtikhipekmlhibaeG7
import Derived.Deep.DeepCutAuto
namespace Go.Proofs.Ytikhipekmlhibae
open Go.RowKit
set_option linter.unusedVariables false

/-- A pointer that is none. -/
def Nil (xs xb : Int) : Prop := xs = 0 ∧ xb = 0
instance (xs xb : Int) : Decidable (Nil xs xb) := inferInstanceAs (Decidable (xs = 0 ∧ xb = 0))

/-- The pointer, in a list, if it is not none. -/
def one (xs xb : Int) : List (Int × Int) := if Nil xs xb then [] else [(xs, xb)]

/-- Of the first k pointers those that are not none. -/
def kidsUp (ks kb : Nat → Int) : Nat → List (Int × Int)
  | 0 => []
  | k + 1 => kidsUp ks kb k ++ one (ks k) (kb k)

def kidS (s : SlotD) (i : Nat) : Int := kidCell s (i * 2)
def kidB (s : SlotD) (i : Nat) : Int := kidCell s (i * 2 + 1)

/-- The Kids of a slot that are not none. -/
def lowL (s : SlotD) : List (Int × Int) := kidsUp (kidS s) (kidB s) 8

/-- What is below the pointer of a node. -/
def midL (p : PoolD) (xs xb : Int) : List (Int × Int) := if Nil xs xb then [] else (xs, xb) :: lowL (p.s xs.toNat)

/-- The first k Kids of a slot, and what is below them. -/
def subUp (p : PoolD) (s : SlotD) : Nat → List (Int × Int)
  | 0 => []
  | k + 1 => subUp p s k ++ midL p (kidS s k) (kidB s k)

/-- All pointers of a tree. -/
def treeL (p : PoolD) (rs rb : Int) : List (Int × Int) := if Nil rs rb then [] else (rs, rb) :: subUp p (p.s rs.toNat) 8

theorem kidS_at {s : SlotD} (h : s.kn = 8) {i : Nat} (hi : i < 8) : kidS s i = s.ks i := by
  unfold kidS kidCell
  rw [show i * 2 / 2 = i by omega, if_pos (by omega), if_pos (by omega)]
theorem kidB_at {s : SlotD} (h : s.kn = 8) {i : Nat} (hi : i < 8) : kidB s i = s.kb i := by
  unfold kidB kidCell
  rw [show (i * 2 + 1) / 2 = i by omega, if_pos (by omega), if_neg (by omega)]
theorem kidS_no {s : SlotD} (h : s.kn = 0) (i : Nat) : kidS s i = 0 := by
  unfold kidS kidCell
  rw [if_neg (by omega)]
theorem kidB_no {s : SlotD} (h : s.kn = 0) (i : Nat) : kidB s i = 0 := by
  unfold kidB kidCell
  rw [if_neg (by omega)]

theorem mem_one {xs xb : Int} {x : Int × Int} : x ∈ one xs xb ↔ x = (xs, xb) ∧ ¬ Nil xs xb := by
  unfold one
  by_cases h : Nil xs xb
  · rw [if_pos h]; simp [h]
  · rw [if_neg h]; simp [h]
theorem mem_kidsUp {ks kb : Nat → Int} {x : Int × Int} : ∀ {k : Nat}, x ∈ kidsUp ks kb k ↔ ∃ i, i < k ∧ x = (ks i, kb i) ∧ ¬ Nil (ks i) (kb i)
  | 0 => by simp [kidsUp]
  | k + 1 => by
    rw [kidsUp, List.mem_append, mem_kidsUp, mem_one]
    constructor
    · rintro (⟨i, hi, h⟩ | h)
      · exact ⟨i, by omega, h⟩
      · exact ⟨k, by omega, h⟩
    · rintro ⟨i, hi, h⟩
      by_cases e : i = k
      · subst e; exact Or.inr h
      · exact Or.inl ⟨i, by omega, h⟩
theorem mem_midL {p : PoolD} {xs xb : Int} {x : Int × Int} : x ∈ midL p xs xb ↔ ¬ Nil xs xb ∧ (x = (xs, xb) ∨ x ∈ lowL (p.s xs.toNat)) := by
  unfold midL
  by_cases h : Nil xs xb
  · rw [if_pos h]; simp [h]
  · rw [if_neg h]; simp [h]
theorem mem_subUp {p : PoolD} {s : SlotD} {x : Int × Int} : ∀ {k : Nat}, x ∈ subUp p s k ↔ ∃ i, i < k ∧ x ∈ midL p (kidS s i) (kidB s i)
  | 0 => by simp [subUp]
  | k + 1 => by
    rw [subUp, List.mem_append, mem_subUp]
    constructor
    · rintro (⟨i, hi, h⟩ | h)
      · exact ⟨i, by omega, h⟩
      · exact ⟨k, by omega, h⟩
    · rintro ⟨i, hi, h⟩
      by_cases e : i = k
      · subst e; exact Or.inr h
      · exact Or.inl ⟨i, by omega, h⟩

theorem kidsUp_len (ks kb : Nat → Int) : ∀ k, (kidsUp ks kb k).length ≤ k
  | 0 => Nat.le_refl _
  | k + 1 => by
    have := kidsUp_len ks kb k
    unfold kidsUp one
    split <;> simp <;> omega
theorem midL_len (p : PoolD) (xs xb : Int) : (midL p xs xb).length ≤ 9 := by
  unfold midL
  have := kidsUp_len (kidS (p.s xs.toNat)) (kidB (p.s xs.toNat)) 8
  split
  · simp
  · show (lowL _).length + 1 ≤ 9
    unfold lowL
    omega
theorem subUp_len (p : PoolD) (s : SlotD) : ∀ k, (subUp p s k).length ≤ 9 * k
  | 0 => Nat.le_refl _
  | k + 1 => by
    have := subUp_len p s k
    have := midL_len p (kidS s k) (kidB s k)
    unfold subUp
    rw [List.length_append]
    omega
theorem treeL_len (p : PoolD) (rs rb : Int) : (treeL p rs rb).length ≤ 73 := by
  unfold treeL
  have := subUp_len p (p.s rs.toNat) 8
  split
  · simp
  · show (subUp _ _ _).length + 1 ≤ 73
    omega

/-- A node, a page, neither of them held. -/
def NodeAt (p : PoolD) (xs xb : Int) : Prop := Points p xs xb ∧ 0 < (p.s xs.toNat).kn ∧ ¬ Has p.hn p.h xs
def PageAt (p : PoolD) (xs xb : Int) : Prop := Points p xs xb ∧ (p.s xs.toNat).kn = 0 ∧ ¬ Has p.hn p.h xs
/-- A node's Kids are pages, one at least. -/
def LowOk (p : PoolD) (s : SlotD) : Prop := (∀ i, i < 8 → Nil (kidS s i) (kidB s i) ∨ PageAt p (kidS s i) (kidB s i)) ∧ ∃ i, i < 8 ∧ ¬ Nil (kidS s i) (kidB s i)
/-- The i-th Kid of a root is none, or a node. -/
def MidOk (p : PoolD) (s : SlotD) (i : Nat) : Prop := Nil (kidS s i) (kidB s i) ∨ (NodeAt p (kidS s i) (kidB s i) ∧ LowOk p (p.s (kidS s i).toNat))
def slotsL (l : List (Int × Int)) : List Int := l.map Prod.fst
def TopOk (p : PoolD) (s : SlotD) : Prop := (∀ i, i < 8 → MidOk p s i) ∧ ∃ i, i < 8 ∧ ¬ Nil (kidS s i) (kidB s i)
def TreeOk (p : PoolD) (rs rb : Int) : Prop := Nil rs rb ∨ (NodeAt p rs rb ∧ TopOk p (p.s rs.toNat) ∧ (slotsL (treeL p rs rb)).Nodup)
/-- A right pool with a tree in it. -/
def TreeR (p : PoolD) (rs rb : Int) : Prop := Right p ∧ TreeOk p rs rb

/-- What impl.shapeRight tells of a page, a node and a root. -/
def Shape1 (p : PoolD) (s : SlotD) : Prop := (∃ i, i < 8 ∧ ¬ Nil (kidS s i) (kidB s i)) ∧ ∀ i, i < 8 → Nil (kidS s i) (kidB s i) ∨ Page (p.s (kidS s i).toNat)
def Shape0 (p : PoolD) (s : SlotD) : Prop := (∃ i, i < 8 ∧ ¬ Nil (kidS s i) (kidB s i)) ∧ ∀ i, i < 8 → Nil (kidS s i) (kidB s i) ∨ Shape1 p (p.s (kidS s i).toNat)
/-- What impl.apart tells. -/
def Apart (p : PoolD) (l : List (Int × Int)) : Prop := l.Nodup ∧ ∀ x, x ∈ l → ¬ Has p.hn p.h x.1
def TreeOkI (p : PoolD) (rs rb : Int) : Prop := Nil rs rb ∨ (Points p rs rb ∧ Shape0 p (p.s rs.toNat) ∧ Apart p (treeL p rs rb))

/-- A slot of a right pool to which a pointer points. -/
theorem points_fits {p : PoolD} {xs xb : Int} (hR : Right p) (h : Points p xs xb) : Fits p (p.s xs.toNat) := by
  obtain ⟨h1, h2, h3, h4⟩ := h
  rcases hR.2.1 xs.toNat (by omega) with hf | hf
  · have := hf.1; omega
  · exact hf
theorem fits_kn {p : PoolD} {s : SlotD} (h : Fits p s) : s.kn = 0 ∨ s.kn = 8 := by
  rcases h.2 with h | h
  · exact Or.inl h.1
  · exact Or.inr h.1
theorem right_kn {p : PoolD} (hR : Right p) {i : Nat} (hi : i < p.n) : (p.s i).kn = 0 ∨ (p.s i).kn = 8 := by
  rcases hR.2.1 i hi with h | h
  · exact Or.inl h.2.1
  · exact fits_kn h
theorem points_kn {p : PoolD} {xs xb : Int} (hR : Right p) (h : Points p xs xb) : (p.s xs.toNat).kn = 0 ∨ (p.s xs.toNat).kn = 8 := fits_kn (points_fits hR h)
/-- A Kid that is not none points at a slot. -/
theorem kid_points {p : PoolD} {s : SlotD} (h : Fits p s) {i : Nat} (hi : i < 8) (hn : ¬ Nil (kidS s i) (kidB s i)) : Points p (kidS s i) (kidB s i) ∧ kidB s i ≤ s.birth := by
  rcases h.2 with h2 | h2
  · exact absurd ⟨kidS_no h2.1 i, kidB_no h2.1 i⟩ hn
  · rw [kidS_at h2.1 hi, kidB_at h2.1 hi] at hn ⊢
    rcases h2.2.2 i (by omega) with h3 | h3
    · exact absurd h3 hn
    · exact h3
theorem page_iff {p : PoolD} {xs xb : Int} (hR : Right p) (h : Points p xs xb) : Page (p.s xs.toNat) ↔ (p.s xs.toNat).kn = 0 := by
  have hf := points_fits hR h
  constructor
  · exact fun h => h.2.1
  · intro h0
    rcases hf.2 with h2 | h2
    · exact ⟨hf.1, h2⟩
    · omega
theorem some_kid {s : SlotD} (h : s.kn = 0 ∨ s.kn = 8) (he : ∃ i, i < 8 ∧ ¬ Nil (kidS s i) (kidB s i)) : s.kn = 8 := by
  rcases h with h | h
  · obtain ⟨i, _, hi⟩ := he
    exact absurd ⟨kidS_no h i, kidB_no h i⟩ hi
  · exact h

/-- Every pointer of a tree whose root points at a slot points at one. -/
theorem tree_points {p : PoolD} {rs rb : Int} (hR : Right p) (h : Points p rs rb) : ∀ x, x ∈ treeL p rs rb → Points p x.1 x.2 ∧ x.2 ≤ rb := by
  intro x hx
  unfold treeL at hx
  split at hx
  · simp at hx
  · rw [List.mem_cons, mem_subUp] at hx
    rcases hx with rfl | ⟨i, hi, hx⟩
    · exact ⟨h, by simp⟩
    · have hf := points_fits hR h
      have hbr : (p.s rs.toNat).birth = rb := h.2.2.2
      obtain ⟨hn, hx⟩ := mem_midL.1 hx
      have hk := kid_points hf hi hn
      rcases hx with rfl | hx
      · exact ⟨hk.1, by rw [← hbr]; exact hk.2⟩
      · obtain ⟨j, hj, rfl, hn2⟩ := mem_kidsUp.1 hx
        have hf2 := points_fits hR hk.1
        have hk2 := kid_points hf2 hj hn2
        have e : (p.s (kidS (p.s rs.toNat) i).toNat).birth = kidB (p.s rs.toNat) i := hk.1.2.2.2
        have := hk.2
        have := hk2.2
        exact ⟨hk2.1, by show kidB _ j ≤ rb; omega⟩

theorem nodup_iff {p : PoolD} {l : List (Int × Int)} (h : ∀ x, x ∈ l → Points p x.1 x.2) : (slotsL l).Nodup ↔ l.Nodup := by
  unfold slotsL List.Nodup
  rw [List.pairwise_map]
  constructor
  · exact fun hp => hp.imp (fun hne e => hne (by rw [e]))
  · intro hp
    refine List.Pairwise.imp_of_mem ?_ hp
    intro a b ha hb hne e
    apply hne
    have h1 := (h a ha).2.2.2
    have h2 := (h b hb).2.2.2
    rw [e] at h1
    obtain ⟨a1, a2⟩ := a
    obtain ⟨b1, b2⟩ := b
    simp only [Prod.mk.injEq]
    exact ⟨e, by simp only at h1 h2 e; rw [← h1, ← h2]⟩

theorem tree_iff {p : PoolD} {rs rb : Int} (hR : Right p) : TreeOkI p rs rb ↔ TreeOk p rs rb := by
  by_cases hz : Nil rs rb
  · exact ⟨fun _ => Or.inl hz, fun _ => Or.inl hz⟩
  have hroot : (rs, rb) ∈ treeL p rs rb := by unfold treeL; rw [if_neg hz]; simp
  have hkid : ∀ i, i < 8 → ¬ Nil (kidS (p.s rs.toNat) i) (kidB (p.s rs.toNat) i) → (kidS (p.s rs.toNat) i, kidB (p.s rs.toNat) i) ∈ treeL p rs rb := fun i hi hn => by
    unfold treeL
    rw [if_neg hz, List.mem_cons, mem_subUp]
    exact Or.inr ⟨i, hi, mem_midL.2 ⟨hn, Or.inl rfl⟩⟩
  have hlow : ∀ i, i < 8 → ¬ Nil (kidS (p.s rs.toNat) i) (kidB (p.s rs.toNat) i) → ∀ x, x ∈ lowL (p.s (kidS (p.s rs.toNat) i).toNat) → x ∈ treeL p rs rb := fun i hi hn x hx => by
    unfold treeL
    rw [if_neg hz, List.mem_cons, mem_subUp]
    exact Or.inr ⟨i, hi, mem_midL.2 ⟨hn, Or.inr hx⟩⟩
  constructor
  · rintro (h | ⟨hP, ⟨he, hS⟩, hA⟩)
    · exact Or.inl h
    · right
      have hf := points_fits hR hP
      have hk8 := some_kid (fits_kn hf) he
      refine ⟨⟨hP, by omega, hA.2 _ hroot⟩, ⟨fun i hi => ?_, he⟩, (nodup_iff (fun x hx => (tree_points hR hP x hx).1)).2 hA.1⟩
      by_cases hn : Nil (kidS (p.s rs.toNat) i) (kidB (p.s rs.toNat) i)
      · exact Or.inl hn
      · right
        have hk := kid_points hf hi hn
        have hf2 := points_fits hR hk.1
        obtain ⟨he2, hS2⟩ : Shape1 p (p.s (kidS (p.s rs.toNat) i).toNat) := by
          rcases hS i hi with h | h
          · exact absurd h hn
          · exact h
        have hk82 := some_kid (fits_kn hf2) he2
        refine ⟨⟨hk.1, by omega, hA.2 _ (hkid i hi hn)⟩, fun j hj => ?_, he2⟩
        by_cases hn2 : Nil (kidS (p.s (kidS (p.s rs.toNat) i).toNat) j) (kidB (p.s (kidS (p.s rs.toNat) i).toNat) j)
        · exact Or.inl hn2
        · right
          have hk2 := kid_points hf2 hj hn2
          refine ⟨hk2.1, ?_, hA.2 _ (hlow i hi hn _ (mem_kidsUp.2 ⟨j, hj, rfl, hn2⟩))⟩
          rcases hS2 j hj with h | h
          · exact absurd h hn2
          · exact h.2.1
  · rintro (h | ⟨hN, ⟨hM, he⟩, hD⟩)
    · exact Or.inl h
    · right
      have hP := hN.1
      have hf := points_fits hR hP
      have held : ∀ x, x ∈ treeL p rs rb → ¬ Has p.hn p.h x.1 := fun x hx => by
        unfold treeL at hx
        rw [if_neg hz, List.mem_cons, mem_subUp] at hx
        rcases hx with rfl | ⟨i, hi, hx⟩
        · exact hN.2.2
        · obtain ⟨hn, hx⟩ := mem_midL.1 hx
          rcases hM i hi with h | ⟨h1, h2⟩
          · exact absurd h hn
          · rcases hx with rfl | hx
            · exact h1.2.2
            · obtain ⟨j, hj, rfl, hn2⟩ := mem_kidsUp.1 hx
              rcases h2.1 j hj with h | h
              · exact absurd h hn2
              · exact h.2.2
      refine ⟨hP, ⟨he, fun i hi => ?_⟩, (nodup_iff (fun x hx => (tree_points hR hP x hx).1)).1 hD, held⟩
      rcases hM i hi with h | ⟨h1, h2, h3⟩
      · exact Or.inl h
      · refine Or.inr ⟨h3, fun j hj => ?_⟩
        rcases h2 j hj with h | h
        · exact Or.inl h
        · exact Or.inr ((page_iff hR h.1).2 h.2.1)

end Go.Proofs.Ytikhipekmlhibae

namespace Go.Proofs.Ytikhipekmlhibae
open Go.RowKit
set_option linter.unusedVariables false

theorem hideT {P : Prop} (h : P) : Hid P := h

/-- The two variables with which the calls begin. -/
theorem start22 (w : World) (a0 a1 x0 x1 : Value) (t1 t2 : TypeId) :
    Box2 ((w.alloc (.cells #[a0, a1] t1)).alloc (.cells #[x0, x1] t2)) w.heap.size a0 a1 ∧ Box2 ((w.alloc (.cells #[a0, a1] t1)).alloc (.cells #[x0, x1] t2)) (w.heap.size + 1) x0 x1 ∧
    Below w.heap.size w ((w.alloc (.cells #[a0, a1] t1)).alloc (.cells #[x0, x1] t2)) ∧ ((w.alloc (.cells #[a0, a1] t1)).alloc (.cells #[x0, x1] t2)).heap.size = w.heap.size + 2 := by
  refine ⟨(Box2.new w a0 a1 t1).below (below_alloc _ _), ?_, below_next (below_alloc _ _) (below_alloc _ _), by simp⟩
  have := Box2.new (w.alloc (.cells #[a0, a1] t1)) x0 x1 t2
  rw [World.size_alloc] at this
  exact this

set_option maxRecDepth 20000 in
set_option maxHeartbeats 1000000 in
theorem l02Node_any (v0 v1 : Value) (lo hi : Nat) (p : PoolD) (xs xb : Int) (w : World) (h1 : PoolAt w lo hi v0 v1 p) :
    Calls Try.prog 96 #[.agg #[v0, v1], .agg #[.int .i64 xs, .int .i64 xb]] w fun e w' => BoolIs (NodeAt p xs xb) e ∧ Below w.heap.size w w' := by
  have Hp := hideT h1
  obtain ⟨a, c, a', c', rfl, rfl⟩ : ∃ a c a' c', v0 = .slice a p.n c ∧ v1 = .slice a' p.hn c' := by
    obtain ⟨⟨_, a, c, h1, _⟩, ⟨_, a', c', h3, _⟩⟩ := h1
    exact ⟨a, c, a', c', h1, h3⟩
  clear h1
  have hst := start22 w (.slice a p.n c) (.slice a' p.hn c') (.int .i64 xs) (.int .i64 xb) 31 32
  go_enter Try.func96, Try.ntmps96
  go_wp2_with fail
  generalize (w.alloc (.cells #[.slice a p.n c, .slice a' p.hn c'] 31)).alloc (.cells #[.int .i64 xs, .int .i64 xb] 32) = W at hst ⊢
  obtain ⟨hB, hX, hba, hz⟩ := hst
  refine (l01Points_any _ _ lo hi p xs xb _ (Hp.out.below hba)).mono ?_
  rintro e w1 ⟨⟨t, rfl, ht⟩, hb1⟩
  have HB1 := hideT (hB.below hb1)
  have HX1 := hideT (hX.below hb1)
  have hB1 := below_next hba hb1
  clear hB hX hba hb1
  by_cases hPt : Points p xs xb
  · obtain rfl : t = true := ht.2 hPt
    have HPt := hideT hPt
    obtain ⟨k, rfl⟩ := Int.eq_ofNat_of_zero_le hPt.2.1
    have hk : k < p.n := by have := hPt.2.2.1; omega
    have hk' : (k : Int) < (p.n : Int) := by omega
    clear ht hPt
    obtain ⟨b, off, ka, kc, rfl, hs⟩ := (Hp.out.1.below hB1).cells hk
    obtain ⟨q0, q1, q2, _⟩ := hs
    obtain ⟨⟨x0, x1⟩, ⟨x2, x3⟩⟩ := HB1.out
    obtain ⟨⟨y0, y1⟩, ⟨y2, y3⟩⟩ := HX1.out
    by_cases hkn : 0 < (p.s k).kn
    · have HK := hideT hkn
      have f1 : (0 : Int) < ((p.s k).kn : Int) := by first | omega | simp [hkn]
      clear hkn
      go_wp2_with fail
      refine (l01Has_any _ p.hn lo hi p.h _ _ (Hp.out.2.below hB1)).mono ?_
      rintro e w2 ⟨⟨t2, rfl, ht2⟩, rfl⟩
      have HT := hideT ht2
      clear ht2 x0 x1 x2 x3 y0 y1 y2 y3 q0 q1 q2
      go_wp2
      go_ret
      refine ⟨?_, hB1⟩
      by_cases hh : Has p.hn p.h (k : Int)
      · obtain rfl : t2 = true := HT.out.2 hh
        exact BoolIs.no fun h => h.2.2 hh
      · obtain rfl : t2 = false := bool_no HT.out hh
        refine BoolIs.yes ⟨HPt.out, ?_, hh⟩
        rw [Int.toNat_natCast]
        exact HK.out
    · have HK := hideT hkn
      have f1 : ¬ (0 : Int) < ((p.s k).kn : Int) := by first | omega | (simp; omega)
      clear hkn
      go_wp2
      go_ret
      refine ⟨BoolIs.no fun h => ?_, hB1⟩
      have := h.2.1
      rw [Int.toNat_natCast] at this
      exact HK.out this
  · obtain rfl : t = false := bool_no ht hPt
    have HPt := hideT hPt
    clear ht hPt
    go_wp2
    go_ret
    exact ⟨BoolIs.no fun h => HPt.out h.1, hB1⟩

set_option maxRecDepth 20000 in
set_option maxHeartbeats 1000000 in
theorem l02Page_any (v0 v1 : Value) (lo hi : Nat) (p : PoolD) (xs xb : Int) (w : World) (h1 : PoolAt w lo hi v0 v1 p) :
    Calls Try.prog 97 #[.agg #[v0, v1], .agg #[.int .i64 xs, .int .i64 xb]] w fun e w' => BoolIs (PageAt p xs xb) e ∧ Below w.heap.size w w' := by
  have Hp := hideT h1
  obtain ⟨a, c, a', c', rfl, rfl⟩ : ∃ a c a' c', v0 = .slice a p.n c ∧ v1 = .slice a' p.hn c' := by
    obtain ⟨⟨_, a, c, h1, _⟩, ⟨_, a', c', h3, _⟩⟩ := h1
    exact ⟨a, c, a', c', h1, h3⟩
  clear h1
  have hst := start22 w (.slice a p.n c) (.slice a' p.hn c') (.int .i64 xs) (.int .i64 xb) 31 32
  go_enter Try.func97, Try.ntmps97
  go_wp2_with fail
  generalize (w.alloc (.cells #[.slice a p.n c, .slice a' p.hn c'] 31)).alloc (.cells #[.int .i64 xs, .int .i64 xb] 32) = W at hst ⊢
  obtain ⟨hB, hX, hba, hz⟩ := hst
  refine (l01Points_any _ _ lo hi p xs xb _ (Hp.out.below hba)).mono ?_
  rintro e w1 ⟨⟨t, rfl, ht⟩, hb1⟩
  have HB1 := hideT (hB.below hb1)
  have HX1 := hideT (hX.below hb1)
  have hB1 := below_next hba hb1
  clear hB hX hba hb1
  by_cases hPt : Points p xs xb
  · obtain rfl : t = true := ht.2 hPt
    have HPt := hideT hPt
    obtain ⟨k, rfl⟩ := Int.eq_ofNat_of_zero_le hPt.2.1
    have hk : k < p.n := by have := hPt.2.2.1; omega
    have hk' : (k : Int) < (p.n : Int) := by omega
    clear ht hPt
    obtain ⟨b, off, ka, kc, rfl, hs⟩ := (Hp.out.1.below hB1).cells hk
    obtain ⟨q0, q1, q2, _⟩ := hs
    obtain ⟨⟨x0, x1⟩, ⟨x2, x3⟩⟩ := HB1.out
    obtain ⟨⟨y0, y1⟩, ⟨y2, y3⟩⟩ := HX1.out
    by_cases hkn : (p.s k).kn = 0
    · have HK := hideT hkn
      have f1 : (((p.s k).kn : Int) == 0) = true := by first | omega | simp [hkn]
      clear hkn
      go_wp2_with fail
      refine (l01Has_any _ p.hn lo hi p.h _ _ (Hp.out.2.below hB1)).mono ?_
      rintro e w2 ⟨⟨t2, rfl, ht2⟩, rfl⟩
      have HT := hideT ht2
      clear ht2 x0 x1 x2 x3 y0 y1 y2 y3 q0 q1 q2
      go_wp2
      go_ret
      refine ⟨?_, hB1⟩
      by_cases hh : Has p.hn p.h (k : Int)
      · obtain rfl : t2 = true := HT.out.2 hh
        exact BoolIs.no fun h => h.2.2 hh
      · obtain rfl : t2 = false := bool_no HT.out hh
        refine BoolIs.yes ⟨HPt.out, ?_, hh⟩
        rw [Int.toNat_natCast]
        exact HK.out
    · have HK := hideT hkn
      have f1 : (((p.s k).kn : Int) == 0) = false := by first | omega | (simp; omega)
      clear hkn
      go_wp2
      go_ret
      refine ⟨BoolIs.no fun h => ?_, hB1⟩
      have := h.2.1
      rw [Int.toNat_natCast] at this
      exact HK.out this
  · obtain rfl : t = false := bool_no ht hPt
    have HPt := hideT hPt
    clear ht hPt
    go_wp2
    go_ret
    exact ⟨BoolIs.no fun h => HPt.out h.1, hB1⟩

end Go.Proofs.Ytikhipekmlhibae

namespace Go.Proofs.Ytikhipekmlhibae
open Go Go.RowKit
set_option linter.unusedVariables false

/-- Slots and births of eight pointers as one array. -/
def mix (f g : Nat → Int) (j : Nat) : Int := if j % 2 = 0 then f (j / 2) else g (j / 2)
theorem mix_at (f g : Nat → Int) (i : Nat) : mix f g (i * 2) = f i ∧ mix f g (i * 2 + 1) = g i := by
  unfold mix
  rw [if_pos (by omega), if_neg (by omega), show i * 2 / 2 = i by omega, show (i * 2 + 1) / 2 = i by omega]
  exact ⟨rfl, rfl⟩
/-- All of them are none. -/
def AllNil (f g : Nat → Int) : Prop := ∀ i, i < 8 → Nil (f i) (g i)
theorem mix_zero (f g : Nat → Int) : eq16 (mix f g) (fun _ => 0) = true ↔ AllNil f g := by
  rw [eq16_iff]
  constructor
  · intro h i hi
    have := h i hi
    rw [(mix_at f g i).1, (mix_at f g i).2] at this
    exact this
  · intro h i hi
    rw [(mix_at f g i).1, (mix_at f g i).2]
    exact h i hi
/-- A node of eight Kids. -/
def slotK (f g : Nat → Int) (b : Int) : SlotD := { birth := b, kn := 8, ks := f, kb := g, data := ⟨#[]⟩ }
open Classical in
/-- What takeNode tells. -/
noncomputable def nodeP (p : PoolD) (f g : Nat → Int) (b : Int) : OutD := if AllNil f g then ⟨p, 0, 0, 0⟩ else takeP p (slotK f g b)

theorem start16 (w : World) (a0 a1 : Value) (cs : Array Value) (t1 t2 t3 : TypeId) :
    Box2 (((w.alloc (.cells #[a0, a1] t1)).alloc (.cells cs t2)).alloc (.cells #[.slice none 0 0, .slice none 0 0, .int .i64 0, .int .i64 0, .int .i64 0] t3)) w.heap.size a0 a1 ∧
    (((w.alloc (.cells #[a0, a1] t1)).alloc (.cells cs t2)).alloc (.cells #[.slice none 0 0, .slice none 0 0, .int .i64 0, .int .i64 0, .int .i64 0] t3)).heap[w.heap.size + 1]? = some (.cells cs t2 (0, 0)) ∧
    Box5 (((w.alloc (.cells #[a0, a1] t1)).alloc (.cells cs t2)).alloc (.cells #[.slice none 0 0, .slice none 0 0, .int .i64 0, .int .i64 0, .int .i64 0] t3)) (w.heap.size + 1 + 1) (.slice none 0 0) (.slice none 0 0) (.int .i64 0) (.int .i64 0) (.int .i64 0) ∧
    Below w.heap.size w (((w.alloc (.cells #[a0, a1] t1)).alloc (.cells cs t2)).alloc (.cells #[.slice none 0 0, .slice none 0 0, .int .i64 0, .int .i64 0, .int .i64 0] t3)) ∧
    (((w.alloc (.cells #[a0, a1] t1)).alloc (.cells cs t2)).alloc (.cells #[.slice none 0 0, .slice none 0 0, .int .i64 0, .int .i64 0, .int .i64 0] t3)).heap.size = w.heap.size + 3 := by
  refine ⟨((Box2.new w a0 a1 t1).below (below_alloc _ _)).below (below_alloc _ _), ?_, ?_, below_next (below_next (below_alloc _ _) (below_alloc _ _)) (below_alloc _ _), by simp⟩
  · exact (three_alloc w (.cells #[a0, a1] t1) (.cells cs t2) _).1
  · have := Box5.new ((w.alloc (.cells #[a0, a1] t1)).alloc (.cells cs t2)) (.slice none 0 0) (.slice none 0 0) (.int .i64 0) (.int .i64 0) (.int .i64 0) t3
    rw [World.size_alloc, World.size_alloc] at this
    exact this

set_option maxRecDepth 20000 in
set_option maxHeartbeats 2000000 in
theorem takeNode_any (v0 v1 : Value) (lo hi : Nat) (p : PoolD) (f g : Nat → Int) (b : Int) (w : World) (h1 : PoolAt w lo hi v0 v1 p) (hn : poolN p + 8 ≤ 1048576) :
    Calls Try.prog 88 #[.agg #[v0, v1], .agg (arr16 (mix f g)), .int .i64 b] w (NewOut (nodeP p f g b) w) := by
  have Hp := hideT h1
  obtain ⟨a, c, a', c', rfl, rfl⟩ := h1.form
  have Hn := hideT hn
  clear h1 hn
  have hst := start16 w (.slice a p.n c) (.slice a' p.hn c') (arr16 (mix f g)) 31 85 81
  have Hi16 : Hid ((Try.prog.info? 85).map (·.size) = some (arr16 (mix f g)).size) := by
    show _ = _
    rw [arr16_size]; exact infoArr
  have heql : ∀ w, (binOp .eql 85 (.agg (arr16 (mix f g))) (.agg #[Value.int .i64 0, Value.int .i64 0, Value.int .i64 0, Value.int .i64 0, Value.int .i64 0, Value.int .i64 0, Value.int .i64 0, Value.int .i64 0, Value.int .i64 0, Value.int .i64 0, Value.int .i64 0, Value.int .i64 0, Value.int .i64 0, Value.int .i64 0, Value.int .i64 0, Value.int .i64 0])).run Try.prog w = .ok (.bool (eq16 (mix f g) (fun _ => 0))) w := fun w => eql_arr (mix f g) (fun _ => 0) w
  go_enter Try.func88, Try.ntmps88
  go_upto_region 1 with fail
  generalize ((w.alloc (.cells #[.slice a p.n c, .slice a' p.hn c'] 31)).alloc (.cells (arr16 (mix f g)) 85)).alloc (.cells #[.slice none 0 0, .slice none 0 0, .int .i64 0, .int .i64 0, .int .i64 0] 81) = W at hst ⊢
  obtain ⟨hB, hA, hR, hba, hz⟩ := hst
  have HA := hideT hA
  have HB := hideT hB
  have HR := hideT hR
  clear hA hR
  obtain ⟨⟨x0, x1⟩, ⟨x2, x3⟩⟩ := HB.out
  by_cases hN : AllNil f g
  · have HN := hideT hN
    have hz' := (mix_zero f g).2 hN
    clear hN
    go_wp2_with (first
      | (refine wpList_load_row rfl 85 (.tmp 4) rfl (w.heap.size + 1) rfl 85 (arr16 (mix f g)) (0, 0) _ HA.out arrU rfl Hi16.out ?_)
      | fail)
    refine (clonePool_any _ _ lo hi p W (Hp.out.below hba) (by have := Hn.out; omega)).mono ?_
    rintro e w1 ⟨s0, s1, rfl, ho1, hb1⟩
    obtain ⟨a1, c1, a2, c2, rfl, rfl⟩ := ho1.form
    have HO1 := hideT ho1
    have HR1 := hideT (HR.out.below hb1)
    have hB1 := below_next hba hb1
    have hz1 := hb1.size
    clear ho1 hb1 hba x0 x1 x2 x3 hB
    obtain ⟨⟨u0, u1⟩, ⟨u2, u3⟩, ⟨u4, u5⟩, ⟨u6, u7⟩, ⟨u8, u9⟩⟩ := HR1.out
    go_wp2
    have HR8 := HR1.out.put (.slice a1 p.n c1) (.slice a2 p.hn c2) (.int .i64 0) (.int .i64 0) (.int .i64 0)
    have hpr := out_ret (R := w.heap.size + 1 + 1) (u2 := .int .i64 0) (u3 := .int .i64 0) (u4 := .int .i64 0) HO1.out (by omega) (by omega) (Nat.le_refl _) hB1
    rw [show nodeP p f g b = ⟨p, 0, 0, 0⟩ from if_pos HN.out]
    exact bodyPost_ret (v := .agg #[.slice a1 p.n c1, .slice a2 p.hn c2, .int .i64 0, .int .i64 0, .int .i64 0]) (by simp [results, Try.results88, go_sem, HR8.1.1, HR8.2.1.1, HR8.2.2.1.1, HR8.2.2.2.1.1, HR8.2.2.2.2.1]) rfl ⟨_, _, rfl, hpr.1, hpr.2⟩
  · have HN := hideT hN
    have hz' : eq16 (mix f g) (fun _ => 0) = false := Bool.eq_false_iff.2 (fun h => hN ((mix_zero f g).1 h))
    clear hN
    have hmk := make_zeros 33 32 (.agg #[.int .i64 0, .int .i64 0]) 2 16 (by kernel_rfl) infoPtr rfl 8 (by omega) (by omega)
    have hmk' : ∀ w, (Instr.makeSlice 33 (.int .i64 8) (.int .i64 8)).run Try.prog w = .ok (.slice (some ⟨w.heap.size, 0, none⟩) 8 8) (w.alloc (.cells (zeros #[.int .i64 0, .int .i64 0] 8) 32)) := hmk
    clear hmk
    have hbn := below_alloc W (.cells (zeros #[.int .i64 0, .int .i64 0] 8) 32)
    have hbm := below_alloc W (.cells (arr16 (mix f g)) 32)
    have Hbm := hideT hbm
    have hA2 : (W.alloc (.cells (zeros #[.int .i64 0, .int .i64 0] 8) 32)).heap[w.heap.size + 1]? = some (.cells (arr16 (mix f g)) 85 (0, 0)) := (hbn.block _ (by omega)).trans HA.out
    have Hrun : Hid (∀ ty, (Builtin.copy_ #[33, 33] ty #[.slice (some ⟨W.heap.size, 0, none⟩) 8 8, .slice (some ⟨w.heap.size + 1, 0, none⟩) 8 8]).run Try.prog (W.alloc (.cells (zeros #[.int .i64 0, .int .i64 0] 8) 32)) = .ok (goInt 8) (W.alloc (.cells (arr16 (mix f g)) 32))) := by
      intro ty
      have hz8 : (zeros #[.int .i64 0, .int .i64 0] 8).size = 16 := by kernel_rfl
      have hr := run_copy_sized (P := Try.prog) (W.alloc (.cells (zeros #[.int .i64 0, .int .i64 0] 8) 32)) 33 33 ty 32 2 W.heap.size 0 8 8 ⟨w.heap.size + 1, 0, none⟩ 8 8 (zeros #[.int .i64 0, .int .i64 0] 8) 32 (arr16 (mix f g)).toList (by kernel_rfl) infoPtrSize (heap_alloc_last _ _) (by simp [arr16]) (fun j v hj => by
          have hj16 : j < 16 := by
            have := (List.getElem?_eq_some_iff.1 hj).1
            simpa [arr16_size] using this
          have e : (arr16 (mix f g)).toList[j]? = some (.int .i64 (mix f g j)) := by rw [Array.getElem?_toList]; exact arr16_at (mix f g) hj16
          rw [e] at hj
          simp only [Option.some.injEq] at hj
          subst hj
          rw [add_lit, Nat.zero_add]
          exact (cell_of_block hA2 (arr16_at (mix f g) hj16)).1) (by rw [hz8]; simp [arr16]) (fun v hv => (Array.all_eq_true_iff_forall_mem.1 (arr16_one _)) v (by simpa using hv))
      have e0 : ((zeros #[.int .i64 0, .int .i64 0] 8).toList.drop 16) = [] := List.drop_eq_nil_of_le (by simp [hz8])
      have e1 : ((zeros #[.int .i64 0, .int .i64 0] 8).toList.take 0 ++ (arr16 (mix f g)).toList ++ (zeros #[.int .i64 0, .int .i64 0] 8).toList.drop (0 + (arr16 (mix f g)).toList.length)).toArray = arr16 (mix f g) := by
        have hl : (arr16 (mix f g)).toList.length = 16 := by simp [arr16]
        rw [hl, Nat.zero_add, e0]
        simp
      rw [e1, World.setRow_alloc_new] at hr
      exact hr
    have Hz := hideT hz
    clear hbm hA2 hbn hz
    have hrn := Hrun.out 3
    obtain ⟨⟨x4, x5⟩, ⟨x6, x7⟩⟩ := HB.out.below Hbm.out
    go_wp2_with (first
      | (refine wpList_load_row rfl 85 (.tmp 4) rfl (w.heap.size + 1) rfl 85 (arr16 (mix f g)) (0, 0) _ HA.out arrU rfl Hi16.out ?_)
      | fail)
    have HS : Hid (SlotAt (W.alloc (.cells (arr16 (mix f g)) 32)) 0 (W.alloc (.cells (arr16 (mix f g)) 32)).heap.size (.int .i64 (slotK f g b).birth) (.slice (some ⟨W.heap.size, 0, none⟩) 8 8) (.string (slotK f g b).data) (slotK f g b)) := by
      refine ⟨rfl, ⟨by show 8 ≤ maxLen; unfold maxLen; omega, _, 8, rfl, Nat.le_refl _, fun _ => ⟨W.heap.size, 0, rfl, Nat.zero_le _, by simp, fun i hi => ?_⟩⟩, rfl, by show 0 ≤ maxLen; omega⟩
      have hi8 : i < 8 := hi
      have hb0 : (W.alloc (.cells (arr16 (mix f g)) 32)).heap[W.heap.size]? = some (.cells (arr16 (mix f g)) 32) := heap_alloc_last _ _
      have g1 := (cell_of_block hb0 (arr16_at (mix f g) (show i * 2 < 16 by omega))).1
      have g2 := (cell_of_block hb0 (arr16_at (mix f g) (show i * 2 + 1 < 16 by omega))).1
      rw [(mix_at f g i).1] at g1
      rw [(mix_at f g i).2] at g2
      rw [Nat.zero_add]
      exact ⟨g1, g2⟩
    refine (implPoolTake_any _ _ _ lo hi 0 _ p (slotK f g b) _ (Hp.out.below (below_next hba Hbm.out)) HS.out (by show poolN p + (8 + 0) ≤ _; exact Hn.out)).mono ?_
    rintro e w3 ⟨s0, s1, rfl, ho3, hb3⟩
    have hb3' := below_next Hbm.out hb3
    have hz := Hz.out
    have HR3 := hideT (HR.out.below hb3')
    have hB3 := below_next hba hb3'
    have hz3 := hb3'.size
    have He : Hid (nodeP p f g b = takeP p (slotK f g b)) := if_neg HN.out
    have Ho3 : Hid (PoolOwn w3 W.heap.size w3.heap.size s0 s1 (takeP p (slotK f g b)).pool) := ho3.wide Hbm.out.size (Nat.le_refl _)
    generalize takeP p (slotK f g b) = o at Ho3 He ⊢
    obtain ⟨a1, c1, a2, c2, rfl, rfl⟩ := Ho3.out.form
    clear ho3 hb3 hb3' x0 x1 x2 x3 x4 x5 x6 x7 hB HS Hrun hrn
    obtain ⟨⟨u0, u1⟩, ⟨u2, u3⟩, ⟨u4, u5⟩, ⟨u6, u7⟩, ⟨u8, u9⟩⟩ := HR3.out
    go_wp2
    have HR8 := HR3.out.put (.slice a1 o.pool.n c1) (.slice a2 o.pool.hn c2) (.int .i64 o.ps) (.int .i64 o.pb) (.int .i64 o.code)
    have hpr := out_ret (R := w.heap.size + 1 + 1) (u2 := .int .i64 o.ps) (u3 := .int .i64 o.pb) (u4 := .int .i64 o.code) Ho3.out (by omega) (by omega) (Nat.le_refl _) hB3
    rw [He.out]
    exact bodyPost_ret (v := .agg #[.slice a1 o.pool.n c1, .slice a2 o.pool.hn c2, .int .i64 o.ps, .int .i64 o.pb, .int .i64 o.code]) (by simp [results, Try.results88, go_sem, HR8.1.1, HR8.2.1.1, HR8.2.2.1.1, HR8.2.2.2.1.1, HR8.2.2.2.2.1]) rfl ⟨_, _, rfl, hpr.1, hpr.2⟩

end Go.Proofs.Ytikhipekmlhibae

namespace Go.Proofs.Ytikhipekmlhibae
open Go.RowKit
set_option linter.unusedVariables false

/-- A slot has a Kid, and all that are not none are so. -/
def StepShape (p : PoolD) (Low : SlotD → Prop) (s : SlotD) : Prop := (∃ i, i < 8 ∧ ¬ Nil (kidS s i) (kidB s i)) ∧ ∀ i, i < 8 → Nil (kidS s i) (kidB s i) ∨ Low (p.s (kidS s i).toNat)

/-- What is known of a call of impl.shapeRight on one level. -/
def ShapeAt (p : PoolD) (L : Int) (Low : SlotD → Prop) : Prop := ∀ (v : Value) (lo hi : Nat) (xs xb : Int) (w : World), SlotsAt w lo hi v p.n p.s → Points p xs xb →
  Calls Try.prog 100 #[v, .agg #[.int .i64 xs, .int .i64 xb], .int .i64 L] w fun e w' => BoolIs (Low (p.s xs.toNat)) e ∧ Below w.heap.size w w'

theorem zero_kids (s : SlotD) : eq16 (kidCell s) (fun _ => 0) = true ↔ ¬ ∃ i, i < 8 ∧ ¬ Nil (kidS s i) (kidB s i) := by
  rw [eq16_iff]
  constructor
  · rintro h ⟨i, hi, hn⟩
    exact hn (h i hi)
  · intro h i hi
    by_cases hn : Nil (kidS s i) (kidB s i)
    · exact hn
    · exact absurd ⟨i, hi, hn⟩ h

set_option maxRecDepth 20000 in
set_option maxHeartbeats 1000000 in
theorem shape2_any (p : PoolD) : ShapeAt p 2 Page := by
  intro v lo hi xs xb w hs hP
  have Hs := hideT hs
  obtain ⟨_, a, c, rfl, _⟩ := id hs
  obtain ⟨k, rfl⟩ := Int.eq_ofNat_of_zero_le hP.2.1
  have hk : k < p.n := by have := hP.2.2.1; omega
  have hk' : (k : Int) < (p.n : Int) := by omega
  have ha := below_alloc w (.cells #[.int .i64 (k : Int), .int .i64 xb] 32)
  obtain ⟨⟨x0, x1⟩, ⟨x2, x3⟩⟩ := Box2.new w (.int .i64 (k : Int)) (.int .i64 xb) 32
  obtain ⟨b, off, ka, kc, rfl, hsc⟩ := (Hs.out.below ha).cells hk
  have HC := hideT hsc
  obtain ⟨q0, q1, q2, _⟩ := hsc
  clear hs hP
  go_enter Try.func100, Try.ntmps100
  go_wp2_with fail
  have ha2 := below_alloc (w.alloc (.cells #[.int .i64 (k : Int), .int .i64 xb] 32)) (.cells #[.int .i64 (p.s k).birth, .slice ka (p.s k).kn kc, .string (p.s k).data] 75)
  refine (isPage_any _ _ _ lo hi (p.s k) _ (HC.out.slot.below ha2)).mono ?_
  rintro e w1 ⟨⟨t, rfl, ht⟩, hb1⟩
  have hB := below_next (below_next ha ha2) hb1
  have HT := hideT ht
  clear ht hb1
  go_wp2
  go_ret
  refine ⟨⟨t, rfl, ?_⟩, hB⟩
  rw [Int.toNat_natCast]
  exact HT.out

set_option maxRecDepth 20000 in
set_option maxHeartbeats 2000000 in
theorem shape_step (p : PoolD) (L : Int) (Low : SlotD → Prop) (hR : Right p) (hL : 0 ≤ L ∧ L < 2) (hlow : ShapeAt p (L + 1) Low) : ShapeAt p L (StepShape p Low) := by
  intro v lo hi xs xb w hs hP
  have Hlow := hideT hlow
  have HR := hideT hR
  have Hs := hideT hs
  have HP := hideT hP
  have Hf := hideT (points_fits hR hP)
  obtain ⟨_, a, c, rfl, _⟩ := id hs
  obtain ⟨k, rfl⟩ := Int.eq_ofNat_of_zero_le hP.2.1
  rw [Int.toNat_natCast] at Hf
  have hk : k < p.n := by have := hP.2.2.1; omega
  have hk' : (k : Int) < (p.n : Int) := by omega
  have hL2 : (L == 2) = false := by simp; omega
  have ha := below_alloc w (.cells #[.int .i64 (k : Int), .int .i64 xb] 32)
  obtain ⟨⟨x0, x1⟩, ⟨x2, x3⟩⟩ := Box2.new w (.int .i64 (k : Int)) (.int .i64 xb) 32
  obtain ⟨b, off, ka, kc, rfl, hsc⟩ := (Hs.out.below ha).cells hk
  have HC := hideT hsc
  obtain ⟨q0, q1, q2, _⟩ := hsc
  clear hs hP hlow hR
  go_enter Try.func100, Try.ntmps100
  go_wp2_with fail
  have ha2 := below_alloc (w.alloc (.cells #[.int .i64 (k : Int), .int .i64 xb] 32)) (.cells #[.int .i64 (p.s k).birth, .slice ka (p.s k).kn kc, .string (p.s k).data] 75)
  refine (kidsOf_any _ _ _ lo hi (p.s k) _ (HC.out.slot.below ha2) (fits_kn Hf.out)).mono ?_
  rintro e w1 ⟨rfl, hb1⟩
  have hB := below_next (below_next ha ha2) hb1
  clear hb1 ha ha2 x0 x1 x2 x3 q0 q1 q2 HC
  have Hi16 : Hid ((Try.prog.info? 85).map (·.size) = some (kidsA (p.s k)).size) := by
    show _ = _
    rw [kidsA, arr16_size]; exact infoArr
  have Hz16 : Hid ((#[Value.int .i64 0, Value.int .i64 0, Value.int .i64 0, Value.int .i64 0, Value.int .i64 0, Value.int .i64 0, Value.int .i64 0, Value.int .i64 0, Value.int .i64 0, Value.int .i64 0, Value.int .i64 0, Value.int .i64 0, Value.int .i64 0, Value.int .i64 0, Value.int .i64 0, Value.int .i64 0] : Array Value) = arr16 (fun _ => 0)) := rfl
  have heql : ∀ w, (binOp .eql 85 (.agg (kidsA (p.s k))) (.agg #[Value.int .i64 0, Value.int .i64 0, Value.int .i64 0, Value.int .i64 0, Value.int .i64 0, Value.int .i64 0, Value.int .i64 0, Value.int .i64 0, Value.int .i64 0, Value.int .i64 0, Value.int .i64 0, Value.int .i64 0, Value.int .i64 0, Value.int .i64 0, Value.int .i64 0, Value.int .i64 0])).run Try.prog w = .ok (.bool (eq16 (kidCell (p.s k)) (fun _ => 0))) w := fun w => eql_arr (kidCell (p.s k)) (fun _ => 0) w
  have hblk : (w1.alloc (.cells (kidsA (p.s k)) 85)).heap[w1.heap.size]? = some (.cells (kidsA (p.s k)) 85 (0, 0)) := heap_alloc_last _ _
  have HK := hideT hblk
  have hB2 := below_next hB (below_alloc w1 (.cells (kidsA (p.s k)) 85))
  clear hblk hB
  by_cases hz : eq16 (kidCell (p.s k)) (fun _ => 0) = true
  · have HZ := hideT ((zero_kids _).1 hz)
    go_wp2_with (first
      | (refine wpList_store_row rfl 85 (.tmp 8) (.tmp 20) rfl w1.heap.size (kidsA (p.s k)) rfl rfl 85 #[Value.int .i64 0, Value.int .i64 0, Value.int .i64 0, Value.int .i64 0, Value.int .i64 0, Value.int .i64 0, Value.int .i64 0, Value.int .i64 0, Value.int .i64 0, Value.int .i64 0, Value.int .i64 0, Value.int .i64 0, Value.int .i64 0, Value.int .i64 0, Value.int .i64 0, Value.int .i64 0] (heap_alloc_last _ _) Hi16.out (by rw [kidsA, arr16_size]; rfl) (arr16_one _) ?_; rw [World.setRow_alloc_new])
      | (refine wpList_load_row rfl 85 (.tmp 8) rfl w1.heap.size rfl 85 (kidsA (p.s k)) (0, 0) _ HK.out arrU rfl Hi16.out ?_))
    go_ret
    exact ⟨BoolIs.no fun h => HZ.out (by rw [Int.toNat_natCast] at h; exact h.1), hB2⟩
  · have HZ : Hid (∃ i, i < 8 ∧ ¬ Nil (kidS (p.s k) i) (kidB (p.s k) i)) := by
      by_cases h : ∃ i, i < 8 ∧ ¬ Nil (kidS (p.s k) i) (kidB (p.s k) i)
      · exact h
      · exact absurd ((zero_kids _).2 h) hz
    have hz' : eq16 (kidCell (p.s k)) (fun _ => 0) = false := by simpa using hz
    clear hz
    go_wp2_with (first
      | (refine wpList_store_row rfl 85 (.tmp 8) (.tmp 20) rfl w1.heap.size (kidsA (p.s k)) rfl rfl 85 #[Value.int .i64 0, Value.int .i64 0, Value.int .i64 0, Value.int .i64 0, Value.int .i64 0, Value.int .i64 0, Value.int .i64 0, Value.int .i64 0, Value.int .i64 0, Value.int .i64 0, Value.int .i64 0, Value.int .i64 0, Value.int .i64 0, Value.int .i64 0, Value.int .i64 0, Value.int .i64 0] (heap_alloc_last _ _) Hi16.out (by rw [kidsA, arr16_size]; rfl) (arr16_one _) ?_; rw [World.setRow_alloc_new])
      | (refine wpList_load_row rfl 85 (.tmp 8) rfl w1.heap.size rfl 85 (kidsA (p.s k)) (0, 0) _ HK.out arrU rfl Hi16.out ?_))
    have hz1 : w1.heap.size < (w1.alloc (.cells (kidsA (p.s k)) 85)).heap.size := by rw [World.size_alloc]; exact Nat.lt_succ_self _
    go_loopw [24] (fun i wr => ∃ j : Nat, j ≤ 8 ∧ i = .int .i64 j ∧ (∀ m, m < j → Nil (kidS (p.s k) m) (kidB (p.s k) m) ∨ Low (p.s (kidS (p.s k) m).toNat)) ∧ wr.heap[w1.heap.size]? = some (.cells (kidsA (p.s k)) 85 (0, 0)) ∧ Below w.heap.size w wr) (fun i _ => 8 - (intOf i).toNat)
    case atStart => exact ⟨0, Nat.zero_le _, rfl, fun m hm => absurd hm (Nat.not_lt_zero _), HK.out, hB2⟩
    case round =>
      obtain ⟨j, hj, rfl, hall, hK, hb⟩ := hrel
      have Hall := hideT hall
      have HKr := hideT hK
      have hszK : w1.heap.size < wr.heap.size := (Array.getElem?_eq_some_iff.1 hK).1
      clear hall hK
      by_cases hlt : j < 8
      · have hlt' : (j : Int) < 8 := by omega
        obtain ⟨y0, y1⟩ := cell_of_block (i := j * 2) HKr.out (arr16_at (kidCell (p.s k)) (by omega))
        obtain ⟨y2, y3⟩ := cell_of_block (i := j * 2 + 1) HKr.out (arr16_at (kidCell (p.s k)) (by omega))
        by_cases hn : Nil (kidS (p.s k) j) (kidB (p.s k) j)
        · have HN := hideT hn
          rw [show kidCell (p.s k) (j * 2) = 0 from hn.1] at y0
          rw [show kidCell (p.s k) (j * 2 + 1) = 0 from hn.2] at y2
          clear hn
          go_wp2
          go_roundw
          case rel => exact ⟨j + 1, by omega, by go_num, relNext (n := 8) hlt Hall.out (Or.inl HN.out), HKr.out, hb⟩
          case measure => simp [intOf]; omega
        · have HN := hideT hn
          have hkp := hideT (kid_points Hf.out hlt hn).1
          have e0 : (kidCell (p.s k) (j * 2) == 0) = false ∨ (kidCell (p.s k) (j * 2) == 0) = true ∧ (kidCell (p.s k) (j * 2 + 1) == 0) = false := by
            by_cases h : kidCell (p.s k) (j * 2) = 0
            · right
              refine ⟨by simp [h], ?_⟩
              have : kidCell (p.s k) (j * 2 + 1) ≠ 0 := fun h' => hn ⟨h, h'⟩
              simp [this]
            · left; simp [h]
          clear hn
          rcases e0 with e0 | ⟨e0, e1⟩
          all_goals
            go_wp2_with fail
            refine (Hlow.out _ lo hi (kidCell (p.s k) (j * 2)) (kidCell (p.s k) (j * 2 + 1)) _ (Hs.out.below hb) hkp.out).mono ?_
            rintro e w2 ⟨⟨t, rfl, ht⟩, hb2⟩
            have HT := hideT ht
            have HK2 := hideT ((hb2.block _ hszK).trans HKr.out)
            have hbn := below_next hb hb2
            clear ht hb2 y0 y1 y2 y3
            cases t
            · go_wp2
              go_ret
              refine ⟨BoolIs.no fun h => ?_, hbn⟩
              rw [Int.toNat_natCast] at h
              rcases h.2 j hlt with h1 | h1
              · exact HN.out h1
              · exact absurd (HT.out.2 h1) (by simp)
            · go_wp2
              go_roundw
              case rel => exact ⟨j + 1, by omega, by go_num, relNext (n := 8) hlt Hall.out (Or.inr (HT.out.1 trivial)), HK2.out, hbn⟩
              case measure => simp [intOf]; omega
      · obtain rfl : j = 8 := by omega
        go_wp2
        go_ret
        exact ⟨BoolIs.yes (by rw [Int.toNat_natCast]; exact ⟨HZ.out, Hall.out⟩), hb⟩

theorem shape1_any (p : PoolD) (hR : Right p) : ShapeAt p 1 (Shape1 p) := shape_step p 1 Page hR (by omega) (shape2_any p)
theorem shape0_any (p : PoolD) (hR : Right p) : ShapeAt p 0 (Shape0 p) := shape_step p 0 (Shape1 p) hR (by omega) (shape1_any p hR)

end Go.Proofs.Ytikhipekmlhibae
