/- What a right world is, as the specification asks and as the program asks, as plain facts; that both are the same (no law is proved here). -/
import Derived.Test.YtjpbmpjddbekgaaGreatG1
import Derived.Test.YtjpbmpjddbekgaaGreatG5
import Derived.Test.YtjpbmpjddbekgaaGreatG2
import Derived.Test.YtjpbmpjddbekgaaGreatG10
import Derived.Test.YtjpbmpjddbekgaaGreatG7
import Derived.Test.YtjpbmpjddbekgaaGreatG3
import Derived.Deep.RegionHeld3
import Derived.BigQuiet
namespace Go.Proofs.YtjpbmpjddbekgaaGreat
open Go.RowKit
set_option linter.unusedVariables false

/-- A set or a snapshot, with what both have. -/
structure MemD where
  prev : Int
  time : Int
  rs : Int
  rb : Int
  dn : Nat
  ds : Nat → Int
  db : Nat → Int

def memS (s : SnapD) : MemD := ⟨s.prev, s.time, s.rs, s.rb, s.dn, s.ds, s.db⟩
def memT (t : Int) (s : SetD) : MemD := ⟨s.prev, t, s.rs, s.rb, s.dn, s.ds, s.db⟩
def memOf (W : WorldD) (i : Nat) : MemD := if i < W.pn then memS (W.snaps i) else memT W.time (W.sets (i - W.pn))
def memN (W : WorldD) : Nat := W.pn + W.sn
theorem memOf_snap {W : WorldD} {i : Nat} (h : i < W.pn) : memOf W i = memS (W.snaps i) := if_pos h
theorem memOf_set (W : WorldD) (i : Nat) : memOf W (W.pn + i) = memT W.time (W.sets i) := by
  unfold memOf
  rw [if_neg (by omega), show W.pn + i - W.pn = i by omega]

def zeroSnap : SnapD := ⟨0, ByteArray.empty, ByteArray.empty, 0, 0, 0, 0, 0, fun _ => 0, fun _ => 0⟩
open Classical in
/-- The snapshot of an id, or nothing. -/
noncomputable def aheadOf (W : WorldD) (x : Int) : SnapD := if h : ∃ k, SnapNo W x k then W.snaps h.choose else zeroSnap
theorem aheadOf_at {W : WorldD} {x : Int} {k : Nat} (h : SnapNo W x k) : aheadOf W x = W.snaps k := by
  unfold aheadOf
  rw [dif_pos ⟨k, h⟩, SnapNo.uniq (Exists.choose_spec (⟨k, h⟩ : ∃ k, SnapNo W x k)) h]
theorem aheadOf_no {W : WorldD} {x : Int} (h : ∀ k, k < W.pn → (W.snaps k).id ≠ x) : aheadOf W x = zeroSnap := by
  unfold aheadOf
  rw [dif_neg]
  rintro ⟨k, hk⟩
  exact h k hk.1 hk.2.1
theorem snapNo_of {W : WorldD} {x : Int} : ∀ {n : Nat}, n ≤ W.pn → (∃ k, k < n ∧ (W.snaps k).id = x) → ∃ k, SnapNo W x k
  | 0, _, ⟨k, hk, _⟩ => absurd hk (Nat.not_lt_zero _)
  | n + 1, hn, ⟨k, hk, e⟩ => by
    by_cases h : ∃ j, j < n ∧ (W.snaps j).id = x
    · exact snapNo_of (by omega) h
    · have : k = n := by
        by_cases h' : k < n
        · exact absurd ⟨k, h', e⟩ h
        · omega
      subst this
      exact ⟨k, by omega, e, fun j hj he => h ⟨j, hj, he⟩⟩

def treeM (W : WorldD) (m : MemD) : List (Int × Int) := treeL W.pool m.rs m.rb
noncomputable def oldM (W : WorldD) (m : MemD) : List (Int × Int) := treeL W.pool (aheadOf W m.prev).rs (aheadOf W m.prev).rb
def lack (l m : List (Int × Int)) : List (Int × Int) := l.filter (fun x => decide (x ∉ m))
def inBoth (l m : List (Int × Int)) : List (Int × Int) := l.filter (fun x => decide (x ∈ m))
def youngF (l : List (Int × Int)) (t : Int) : List (Int × Int) := l.filter (fun x => decide (t < x.2))
noncomputable def ownM (W : WorldD) (m : MemD) : List (Int × Int) := lack (treeM W m) (oldM W m)
noncomputable def youngM (W : WorldD) (m : MemD) : List (Int × Int) := youngF (treeM W m) (aheadOf W m.prev).time
def PSameL (n : Nat) (f g : Nat → Int) (l : List (Int × Int)) : Prop := PSame n f g l.length (fstL l) (sndL l)
def BornL (now old : List (Int × Int)) (t tm : Int) : Prop := ∀ x, x ∈ now → x.2 ≤ tm ∧ (x ∈ old ↔ x.2 ≤ t)

/-- What the specification asks of one. -/
def SpecM (W : WorldD) (m : MemD) : Prop := PSameL m.dn m.ds m.db (lack (oldM W m) (treeM W m)) ∧ BornL (treeM W m) (oldM W m) (aheadOf W m.prev).time m.time
/-- What the program asks of one. -/
def ImplM (W : WorldD) (m : MemD) : Prop := m.rb ≤ m.time ∧ PSameL (youngM W m).length (fstL (youngM W m)) (sndL (youngM W m)) (ownM W m) ∧ PSameL m.dn m.ds m.db (lack (oldM W m) (inBoth (treeM W m) (oldM W m)))

theorem lack_both (l m : List (Int × Int)) : lack m (inBoth l m) = lack m l := by
  unfold lack inBoth
  refine List.filter_congr fun x hx => ?_
  rw [decide_eq_decide]
  simp only [List.mem_filter, decide_eq_true_eq]
  exact ⟨fun h h' => h ⟨h', hx⟩, fun h h' => h h'.1⟩

theorem getD_lt {l : List (Int × Int)} {i : Nat} (h : i < l.length) : l.getD i (0, 0) = l[i] := by
  rw [List.getD_eq_getElem?_getD, List.getElem?_eq_getElem h, Option.getD_some]
theorem pin_list {l : List (Int × Int)} {x y : Int} : PIn l.length (fstL l) (sndL l) x y ↔ (x, y) ∈ l := by
  constructor
  · rintro ⟨j, hj, e1, e2⟩
    unfold fstL at e1
    unfold sndL at e2
    rw [getD_lt hj] at e1 e2
    have : l[j] = (x, y) := Prod.ext e1 e2
    exact this ▸ List.getElem_mem hj
  · intro h
    obtain ⟨j, hj, e⟩ := List.getElem_of_mem h
    exact ⟨j, hj, by unfold fstL; rw [getD_lt hj, e], by unfold sndL; rw [getD_lt hj, e]⟩

/-- What a world has whose names are right and whose trees are there. -/
structure Trees (W : WorldD) : Prop where
  right : Right W.pool
  ids : ∀ k, k < W.pn → (W.snaps k).prev < (W.snaps k).id
  tree : ∀ i, i < memN W → TreeOk W.pool (memOf W i).rs (memOf W i).rb
  time : ∀ i, i < memN W → 0 ≤ (memOf W i).time

theorem tree_mem {p : PoolD} {rs rb : Int} (hR : Right p) (hT : TreeOk p rs rb) {x : Int × Int} (hx : x ∈ treeL p rs rb) : Points p x.1 x.2 ∧ x.2 ≤ rb ∧ ¬ Has p.hn p.h x.1 := by
  rcases (tree_iff hR).2 hT with hz | ⟨hP, _, hA⟩
  · rw [treeL, if_pos hz] at hx; simp at hx
  · have := tree_points hR hP x hx
    exact ⟨this.1, this.2, hA.2 x hx⟩
theorem tree_nodup' {p : PoolD} {rs rb : Int} (hR : Right p) (hT : TreeOk p rs rb) : (treeL p rs rb).Nodup := by
  rcases (tree_iff hR).2 hT with hz | ⟨hP, _, hA⟩
  · rw [treeL, if_pos hz]; exact List.nodup_nil
  · exact hA.1
theorem Trees.old {W : WorldD} (h : Trees W) (x : Int) : TreeOk W.pool (aheadOf W x).rs (aheadOf W x).rb := by
  by_cases hx : ∃ k, SnapNo W x k
  · obtain ⟨k, hk⟩ := hx
    rw [aheadOf_at hk]
    have := h.tree k (by unfold memN; have := hk.1; omega)
    rw [memOf_snap hk.1] at this
    exact this
  · have : aheadOf W x = zeroSnap := by
      unfold aheadOf
      rw [dif_neg hx]
    rw [this]
    exact Or.inl ⟨rfl, rfl⟩

theorem points_ok {p : PoolD} {x y : Int} (hR : Right p) (h : Points p x y) : PtrOk x y := by
  have hf := points_fits hR h
  have h1 := hR.1
  obtain ⟨a, b, c, d⟩ := h
  have := hf.1.2
  exact ⟨b, by omega, a, by omega⟩
theorem ptrsOk_list {p : PoolD} (hR : Right p) {l : List (Int × Int)} (h : ∀ x, x ∈ l → Points p x.1 x.2) (hn : l.Nodup) (hl : l.length ≤ 200) : PtrsOk l.length (fstL l) (sndL l) := by
  have hs := (nodup_iff h).2 hn
  refine ⟨hl, fun i hi => ?_, fun i hi k hk => ?_⟩
  · unfold fstL sndL
    rw [getD_lt hi]
    exact points_ok hR (h _ (List.getElem_mem hi))
  · unfold fstL
    rw [getD_lt hi, getD_lt (show k < l.length by omega)]
    unfold slotsL List.Nodup at hs
    rw [List.pairwise_map] at hs
    exact List.pairwise_iff_getElem.1 hs k i (by omega) hi hk

theorem psame_filter {p : PoolD} (hR : Right p) {T : List (Int × Int)} (hT : ∀ x, x ∈ T → Points p x.1 x.2) (hn : T.Nodup) (hl : T.length ≤ 200) (P Q : Int × Int → Bool) :
    PSameL (T.filter P).length (fstL (T.filter P)) (sndL (T.filter P)) (T.filter Q) ↔ ∀ x, x ∈ T → P x = Q x := by
  constructor
  · rintro ⟨_, _, hlen, hin⟩
    have h1 : ∀ x, x ∈ T → P x = true → Q x = true := fun x hx hp => by
      have hm : x ∈ T.filter P := List.mem_filter.2 ⟨hx, hp⟩
      obtain ⟨j, hj, e⟩ := List.getElem_of_mem hm
      have := hin j hj
      rw [pin_list] at this
      unfold fstL sndL at this
      rw [getD_lt hj, e] at this
      exact (List.mem_filter.1 this).2
    have h2 : (T.filter Q).filter P = T.filter P := by
      rw [List.filter_filter]
      refine List.filter_congr fun x hx => ?_
      cases hp : P x
      · rfl
      · rw [h1 x hx hp]; rfl
    have h3 : ((T.filter Q).filter P).length = (T.filter Q).length := by rw [h2, hlen]
    rw [List.length_filter_eq_length_iff] at h3
    intro x hx
    cases hq : Q x
    · cases hp : P x
      · rfl
      · rw [h1 x hx hp] at hq; exact absurd hq (by simp)
    · exact h3 x (List.mem_filter.2 ⟨hx, hq⟩)
  · intro h
    have e : T.filter P = T.filter Q := List.filter_congr h
    rw [e]
    have hok : PtrsOk (T.filter Q).length (fstL (T.filter Q)) (sndL (T.filter Q)) := ptrsOk_list hR (fun x hx => hT x (List.mem_filter.1 hx).1) (hn.filter _) (Nat.le_trans (List.length_filter_le _ _) hl)
    exact ⟨hok, hok, rfl, fun i hi => ⟨i, hi, rfl, rfl⟩⟩

theorem member_iff {W : WorldD} (h : Trees W) {i : Nat} (hi : i < memN W) : ImplM W (memOf W i) ↔ SpecM W (memOf W i) := by
  generalize hm : memOf W i = m
  have hT := h.tree i hi
  have htm := h.time i hi
  rw [hm] at hT htm
  have hlen : (treeM W m).length ≤ 200 := by have := treeL_len W.pool m.rs m.rb; unfold treeM; omega
  have hpt : ∀ x, x ∈ treeM W m → Points W.pool x.1 x.2 := fun x hx => (tree_mem h.right hT hx).1
  unfold ImplM SpecM
  rw [lack_both]
  have key : PSameL (youngM W m).length (fstL (youngM W m)) (sndL (youngM W m)) (ownM W m) ↔ ∀ x, x ∈ treeM W m → (x ∈ oldM W m ↔ x.2 ≤ (aheadOf W m.prev).time) := by
    unfold youngM ownM youngF lack
    rw [psame_filter h.right hpt (tree_nodup' h.right hT) hlen]
    refine ⟨fun hh x hx => ?_, fun hh x hx => ?_⟩
    · have := hh x hx
      rw [decide_eq_decide] at this
      constructor
      · intro hin
        by_cases hlt : (aheadOf W m.prev).time < x.2
        · exact absurd hin (this.1 hlt)
        · omega
      · intro hle
        by_cases hin : x ∈ oldM W m
        · exact hin
        · have := this.2 hin; omega
    · rw [decide_eq_decide]
      have := hh x hx
      constructor
      · intro hlt hin
        have := this.1 hin
        omega
      · intro hin
        by_cases hle : x.2 ≤ (aheadOf W m.prev).time
        · exact absurd (this.2 hle) hin
        · omega
  rw [key]
  constructor
  · rintro ⟨h1, h2, h3⟩
    exact ⟨h3, fun x hx => ⟨by have := (tree_mem h.right hT hx).2.1; omega, h2 x hx⟩⟩
  · rintro ⟨h1, h2⟩
    refine ⟨?_, fun x hx => (h2 x hx).2, h1⟩
    by_cases hz : Nil m.rs m.rb
    · rw [hz.2]; exact htm
    · have hr : (m.rs, m.rb) ∈ treeM W m := by unfold treeM treeL; rw [if_neg hz]; simp
      exact (h2 _ hr).1

theorem young_own {W : WorldD} {m : MemD} (hS : SpecM W m) : youngM W m = ownM W m := by
  unfold youngM ownM youngF lack
  refine List.filter_congr fun x hx => ?_
  rw [decide_eq_decide]
  have := (hS.2 x hx).2
  constructor
  · intro h1 h2
    have := this.1 h2
    omega
  · intro h1
    by_cases h2 : x.2 ≤ (aheadOf W m.prev).time
    · exact absurd (this.2 h2) h1
    · omega

open Classical in
/-- How many of the first n. -/
noncomputable def cnt (P : Nat → Prop) : Nat → Nat
  | 0 => 0
  | k + 1 => cnt P k + (if P k then 1 else 0)
theorem cnt_congr {P Q : Nat → Prop} : ∀ {n : Nat}, (∀ i, i < n → (P i ↔ Q i)) → cnt P n = cnt Q n
  | 0, _ => rfl
  | n + 1, h => by
    unfold cnt
    rw [cnt_congr (fun i hi => h i (by omega))]
    by_cases hp : P n
    · rw [if_pos hp, if_pos ((h n (by omega)).1 hp)]
    · rw [if_neg hp, if_neg (fun hq => hp ((h n (by omega)).2 hq))]
theorem cnt_le {P Q : Nat → Prop} : ∀ {n : Nat}, (∀ i, i < n → P i → Q i) → cnt P n ≤ cnt Q n
  | 0, _ => Nat.le_refl _
  | n + 1, h => by
    unfold cnt
    have := cnt_le (n := n) (fun i hi => h i (by omega))
    by_cases hp : P n
    · rw [if_pos hp, if_pos (h n (by omega) hp)]; omega
    · rw [if_neg hp]; omega
theorem cnt_eq_iff {P Q : Nat → Prop} : ∀ {n : Nat}, (∀ i, i < n → P i → Q i) → (cnt P n = cnt Q n ↔ ∀ i, i < n → (P i ↔ Q i))
  | 0, _ => ⟨fun _ i hi => absurd hi (Nat.not_lt_zero _), fun _ => rfl⟩
  | n + 1, h => by
    refine ⟨fun e => ?_, fun e => cnt_congr e⟩
    have hle := cnt_le (n := n) (fun i hi => h i (by omega))
    have ih := cnt_eq_iff (n := n) (fun i hi => h i (by omega))
    unfold cnt at e
    have hn : P n ↔ Q n := by
      refine ⟨h n (by omega), fun hq => ?_⟩
      by_cases hp : P n
      · exact hp
      · rw [if_neg hp, if_pos hq] at e; omega
    have e' : cnt P n = cnt Q n := by
      by_cases hp : P n
      · rw [if_pos hp, if_pos (hn.1 hp)] at e; omega
      · rw [if_neg hp, if_neg (fun hq => hp (hn.2 hq))] at e; omega
    intro i hi
    by_cases e2 : i = n
    · subst e2; exact hn
    · exact ih.1 e' i (by omega)
theorem cnt_or {P Q : Nat → Prop} : ∀ {n : Nat}, (∀ i, i < n → P i → ¬ Q i) → cnt (fun i => P i ∨ Q i) n = cnt P n + cnt Q n
  | 0, _ => rfl
  | n + 1, h => by
    unfold cnt
    rw [cnt_or (fun i hi => h i (by omega))]
    by_cases hp : P n
    · rw [if_pos (Or.inl hp), if_pos hp, if_neg (h n (by omega) hp)]; omega
    · by_cases hq : Q n
      · rw [if_pos (Or.inr hq), if_neg hp, if_pos hq]; omega
      · rw [if_neg (fun h => h.elim hp hq), if_neg hp, if_neg hq]; omega
theorem cnt_not (P : Nat → Prop) : ∀ n, cnt P n + cnt (fun i => ¬ P i) n = n
  | 0 => rfl
  | n + 1 => by
    have := cnt_not P n
    unfold cnt
    by_cases hp : P n
    · rw [if_pos hp, if_neg (fun h => h hp)]; omega
    · rw [if_neg hp, if_pos hp]; omega
theorem cnt_none {P : Nat → Prop} : ∀ {n : Nat}, (∀ i, i < n → ¬ P i) → cnt P n = 0
  | 0, _ => rfl
  | n + 1, h => by
    unfold cnt
    rw [cnt_none (fun i hi => h i (by omega)), if_neg (h n (by omega))]
theorem cnt_one : ∀ {n a : Nat}, a < n → cnt (fun i => i = a) n = 1
  | 0, a, h => absurd h (Nat.not_lt_zero _)
  | n + 1, a, h => by
    unfold cnt
    by_cases e : n = a
    · subst e
      rw [if_pos rfl, cnt_none (fun i hi => by omega)]
    · rw [if_neg e, cnt_one (by omega)]
theorem cnt_list {n : Nat} : ∀ {l : List Nat}, l.Nodup → (∀ x, x ∈ l → x < n) → cnt (fun i => i ∈ l) n = l.length
  | [], _, _ => cnt_none (fun i hi => by simp)
  | a :: l, hn, hl => by
    obtain ⟨h1, h2⟩ := List.nodup_cons.1 hn
    have e1 : cnt (fun i => i ∈ a :: l) n = cnt (fun i => i = a ∨ i ∈ l) n := cnt_congr (fun i _ => List.mem_cons)
    have e2 : cnt (fun i => i = a ∨ i ∈ l) n = cnt (fun i => i = a) n + cnt (fun i => i ∈ l) n := cnt_or (fun i _ (e : i = a) hi => h1 (e ▸ hi))
    rw [e1, e2, cnt_one (hl a (by simp)), cnt_list h2 (fun x hx => hl x (by simp [hx])), List.length_cons]
    omega
theorem cnt_room (f : Nat → SlotD) : ∀ n, roomN f n = cnt (fun i => Free (f i)) n
  | 0 => rfl
  | n + 1 => by unfold roomN cnt; rw [cnt_room f n]

theorem cnt_held {p : PoolD} (hR : Right p) : cnt (fun i => Has p.hn p.h i) p.n = p.hn := by
  have h := hR.2.2
  have hl : ∀ x, x ∈ (List.range p.hn).map (fun j => (p.h j).toNat) → x < p.n := by
    intro x hx
    obtain ⟨j, hj, rfl⟩ := List.mem_map.1 hx
    have := h j (List.mem_range.1 hj)
    have h1 := this.1
    have h2 := this.2.1
    omega
  have hn : ((List.range p.hn).map (fun j => (p.h j).toNat)).Nodup := by
    unfold List.Nodup
    rw [List.pairwise_map]
    refine List.Pairwise.imp_of_mem ?_ (List.pairwise_lt_range)
    intro a b ha hb hab e
    have h1 := h a (List.mem_range.1 ha)
    have h2 := h b (List.mem_range.1 hb)
    have := h1.1
    have := h2.1
    exact h2.2.2.2 ⟨a, hab, by omega⟩
  have := cnt_list hn hl
  rw [List.length_map, List.length_range] at this
  refine Eq.trans (cnt_congr (fun i hi => ?_)) this
  constructor
  · rintro ⟨j, hj, e⟩
    exact List.mem_map.2 ⟨j, List.mem_range.2 hj, by rw [e]; simp⟩
  · intro hx
    obtain ⟨j, hj, e⟩ := List.mem_map.1 hx
    have := (h j (List.mem_range.1 hj)).1
    exact ⟨j, List.mem_range.1 hj, by omega⟩

/-- The slots that are neither free nor held. -/
theorem cnt_rest {p : PoolD} (hR : Right p) : cnt (fun i => ¬ Free (p.s i) ∧ ¬ Has p.hn p.h i) p.n + roomN p.s p.n + p.hn = p.n := by
  have h1 := cnt_not (fun i => Free (p.s i) ∨ Has p.hn p.h i) p.n
  have h2 : cnt (fun i => Free (p.s i) ∨ Has p.hn p.h i) p.n = cnt (fun i => Free (p.s i)) p.n + cnt (fun i => Has p.hn p.h i) p.n := cnt_or (fun i hi hf => by
    rintro ⟨j, hj, e⟩
    have := (hR.2.2 j hj).2.2.1
    rw [e] at this
    simp only [Int.toNat_natCast] at this
    exact this hf)
  rw [cnt_held hR, ← cnt_room] at h2
  have h3 : cnt (fun i => ¬ (Free (p.s i) ∨ Has p.hn p.h i)) p.n = cnt (fun i => ¬ Free (p.s i) ∧ ¬ Has p.hn p.h i) p.n := cnt_congr (fun i _ => not_or)
  omega

/-- The slots that are neither free nor held are just those in some tree. -/
def ReachEq (W : WorldD) : Prop := ∀ i, i < W.pool.n → ((∃ m, m < memN W ∧ ∃ b, ((i : Int), b) ∈ treeM W (memOf W m)) ↔ (¬ Free (W.pool.s i) ∧ ¬ Has W.pool.hn W.pool.h i))
def ApartM (W : WorldD) : Prop := ∀ i, i < memN W → ∀ j, j < i → ∀ x, x ∈ ownM W (memOf W i) → ∀ y, y ∈ ownM W (memOf W j) → x.1 ≠ y.1
noncomputable def homesL (W : WorldD) : Nat → List (Int × Int)
  | 0 => []
  | k + 1 => homesL W k ++ youngM W (memOf W k)
def HomesOk (W : WorldD) : Prop := (homesL W (memN W)).Nodup ∧ (homesL W (memN W)).length + roomN W.pool.s W.pool.n + W.pool.hn = W.pool.n

theorem mem_homes {W : WorldD} {x : Int × Int} : ∀ {k : Nat}, x ∈ homesL W k ↔ ∃ i, i < k ∧ x ∈ youngM W (memOf W i)
  | 0 => by simp [homesL]
  | k + 1 => by
    unfold homesL
    rw [List.mem_append, mem_homes]
    constructor
    · rintro (⟨i, hi, h⟩ | h)
      · exact ⟨i, by omega, h⟩
      · exact ⟨k, by omega, h⟩
    · rintro ⟨i, hi, h⟩
      by_cases e : i = k
      · subst e; exact Or.inr h
      · exact Or.inl ⟨i, by omega, h⟩
theorem homes_nodup {W : WorldD} : ∀ {k : Nat}, (∀ i, i < k → (youngM W (memOf W i)).Nodup) → ((homesL W k).Nodup ↔ ∀ i, i < k → ∀ j, j < i → ∀ x, x ∈ youngM W (memOf W i) → x ∉ youngM W (memOf W j))
  | 0, _ => ⟨fun _ i hi => absurd hi (Nat.not_lt_zero _), fun _ => List.nodup_nil⟩
  | k + 1, hy => by
    unfold homesL
    rw [List.nodup_append, homes_nodup (fun i hi => hy i (by omega))]
    constructor
    · rintro ⟨h1, h2, h3⟩ i hi j hj x hx hx'
      by_cases e : i = k
      · subst e
        exact h3 x (mem_homes.2 ⟨j, hj, hx'⟩) x hx rfl
      · exact h1 i (by omega) j hj x hx hx'
    · intro h
      refine ⟨fun i hi => h i (by omega), hy k (by omega), fun x hx y hy' e => ?_⟩
      subst e
      obtain ⟨i, hi, hx⟩ := mem_homes.1 hx
      exact h k (by omega) i hi x hy' hx

/-- What is in some tree has a home. -/
theorem has_home {W : WorldD} (h : Trees W) {x : Int × Int} : ∀ (N : Nat) (k : Nat), k < W.pn → (W.snaps k).id < N → 0 ≤ (W.snaps k).id → (∀ j, j < W.pn → 0 ≤ (W.snaps j).id) → x ∈ treeM W (memOf W k) → ∃ i, i < memN W ∧ x ∈ ownM W (memOf W i)
  | 0, k, hk, h1, h2, _, _ => by omega
  | N + 1, k, hk, h1, h2, h0, hx => by
    by_cases ho : x ∈ oldM W (memOf W k)
    · have hex : ∃ j, SnapNo W (memOf W k).prev j := by
        refine Classical.byContradiction fun hne => ?_
        have : aheadOf W (memOf W k).prev = zeroSnap := by unfold aheadOf; rw [dif_neg hne]
        unfold oldM at ho
        rw [this, treeL, if_pos ⟨rfl, rfl⟩] at ho
        simp at ho
      obtain ⟨j, hj⟩ := hex
      unfold oldM at ho
      rw [aheadOf_at hj] at ho
      have e1 : (memOf W k).prev = (W.snaps k).prev := by rw [memOf_snap hk]; rfl
      have := h.ids k hk
      have := hj.2.1
      exact has_home h N j hj.1 (by omega) (h0 j hj.1) h0 (by rw [memOf_snap hj.1]; exact ho)
    · exact ⟨k, by unfold memN; omega, List.mem_filter.2 ⟨hx, by simpa using ho⟩⟩
theorem home_any {W : WorldD} (h : Trees W) (h0 : ∀ j, j < W.pn → 0 ≤ (W.snaps j).id) {x : Int × Int} {m : Nat} (hm : m < memN W) (hx : x ∈ treeM W (memOf W m)) : ∃ i, i < memN W ∧ x ∈ ownM W (memOf W i) := by
  by_cases ho : x ∈ oldM W (memOf W m)
  · have hex : ∃ j, SnapNo W (memOf W m).prev j := by
      refine Classical.byContradiction fun hne => ?_
      have : aheadOf W (memOf W m).prev = zeroSnap := by unfold aheadOf; rw [dif_neg hne]
      unfold oldM at ho
      rw [this, treeL, if_pos ⟨rfl, rfl⟩] at ho
      simp at ho
    obtain ⟨j, hj⟩ := hex
    unfold oldM at ho
    rw [aheadOf_at hj] at ho
    have := h0 j hj.1
    exact has_home h ((W.snaps j).id.toNat + 1) j hj.1 (by omega) (h0 j hj.1) h0 (by rw [memOf_snap hj.1]; exact ho)
  · exact ⟨m, hm, List.mem_filter.2 ⟨hx, by simpa using ho⟩⟩

theorem homes_iff {W : WorldD} (h : Trees W) (h0 : ∀ j, j < W.pn → 0 ≤ (W.snaps j).id) (hM : ∀ i, i < memN W → SpecM W (memOf W i)) : HomesOk W ↔ ReachEq W ∧ ApartM W := by
  have hy : ∀ i, i < memN W → youngM W (memOf W i) = ownM W (memOf W i) := fun i hi => young_own (hM i hi)
  have hnd : ∀ i, i < memN W → (youngM W (memOf W i)).Nodup := fun i hi => (tree_nodup' h.right (h.tree i hi)).filter _
  have hin : ∀ i, i < memN W → ∀ x, x ∈ ownM W (memOf W i) → x ∈ treeM W (memOf W i) := fun i _ x hx => (List.mem_filter.1 hx).1
  have hpt : ∀ i, i < memN W → ∀ x, x ∈ treeM W (memOf W i) → Points W.pool x.1 x.2 ∧ ¬ Has W.pool.hn W.pool.h x.1 := fun i hi x hx => ⟨(tree_mem h.right (h.tree i hi) hx).1, (tree_mem h.right (h.tree i hi) hx).2.2⟩
  have hone : ∀ x y : Int × Int, Points W.pool x.1 x.2 → Points W.pool y.1 y.2 → x.1 = y.1 → x = y := fun x y hx hy' e => by
    have a1 := hx.2.2.2
    have a2 := hy'.2.2.2
    rw [e] at a1
    exact Prod.ext e (a1.symm.trans a2)
  have hA : (homesL W (memN W)).Nodup ↔ ApartM W := by
    rw [homes_nodup hnd]
    unfold ApartM
    constructor
    · intro hh i hi j hj x hx y hy' e
      have hxy := hone x y (hpt i hi x (hin i hi x hx)).1 (hpt j (by omega) y (hin j (by omega) y hy')).1 e
      subst hxy
      exact hh i hi j hj x (by rw [hy i hi]; exact hx) (by rw [hy j (by omega)]; exact hy')
    · intro hh i hi j hj x hx hx'
      exact hh i hi j hj x (by rw [← hy i hi]; exact hx) x (by rw [← hy j (by omega)]; exact hx') rfl
  have hhome : ∀ x, x ∈ homesL W (memN W) ↔ ∃ m, m < memN W ∧ x ∈ treeM W (memOf W m) := fun x => by
    rw [mem_homes]
    constructor
    · rintro ⟨i, hi, hx⟩
      rw [hy i hi] at hx
      exact ⟨i, hi, hin i hi x hx⟩
    · rintro ⟨m, hm, hx⟩
      obtain ⟨i, hi, hx⟩ := home_any h h0 hm hx
      exact ⟨i, hi, by rw [hy i hi]; exact hx⟩
  unfold HomesOk
  rw [hA]
  constructor
  · rintro ⟨ha, hlen⟩
    refine ⟨?_, ha⟩
    have hnodup := hA.2 ha
    have hpL : ∀ x, x ∈ homesL W (memN W) → Points W.pool x.1 x.2 := fun x hx => by
      obtain ⟨m, hm, hx⟩ := (hhome x).1 hx
      exact (hpt m hm x hx).1
    have hl : ∀ x, x ∈ (homesL W (memN W)).map (fun x => x.1.toNat) → x < W.pool.n := by
      intro x hx
      obtain ⟨y, hy', rfl⟩ := List.mem_map.1 hx
      have := hpL y hy'
      have h1 := this.2.1
      have h2 := this.2.2.1
      omega
    have hnl : ((homesL W (memN W)).map (fun x => x.1.toNat)).Nodup := by
      unfold List.Nodup
      rw [List.pairwise_map]
      refine List.Pairwise.imp_of_mem ?_ hnodup
      intro a b ha' hb' hne e
      have p1 := hpL a ha'
      have p2 := hpL b hb'
      have := p1.2.1
      have := p2.2.1
      exact hne (hone a b p1 p2 (by omega))
    have hc := cnt_list hnl hl
    rw [List.length_map] at hc
    have hr := cnt_rest h.right
    have hmem : ∀ i, i < W.pool.n → (i ∈ (homesL W (memN W)).map (fun x => x.1.toNat) ↔ ∃ m, m < memN W ∧ ∃ b, ((i : Int), b) ∈ treeM W (memOf W m)) := by
      intro i hi
      rw [List.mem_map]
      constructor
      · rintro ⟨x, hx, e⟩
        have := (hpL x hx).2.1
        obtain ⟨m, hm, hx⟩ := (hhome x).1 hx
        exact ⟨m, hm, x.2, by rw [show (i : Int) = x.1 by omega]; exact hx⟩
      · rintro ⟨m, hm, b, hx⟩
        exact ⟨(i, b), (hhome _).2 ⟨m, hm, hx⟩, by simp⟩
    have himp : ∀ i, i < W.pool.n → i ∈ (homesL W (memN W)).map (fun x => x.1.toNat) → ¬ Free (W.pool.s i) ∧ ¬ Has W.pool.hn W.pool.h i := by
      intro i hi hx
      obtain ⟨m, hm, b, hx⟩ := (hmem i hi).1 hx
      have := hpt m hm _ hx
      refine ⟨fun hf => ?_, this.2⟩
      have h1 := this.1.1
      have h2 := this.1.2.2.2
      simp only [Int.toNat_natCast] at h2
      rw [hf.1] at h2
      simp only at h1 h2
      omega
    have := (cnt_eq_iff himp).1 (by rw [hc]; omega)
    intro i hi
    rw [← hmem i hi]
    exact this i hi
  · rintro ⟨hre, ha⟩
    refine ⟨ha, ?_⟩
    have hnodup := hA.2 ha
    have hpL : ∀ x, x ∈ homesL W (memN W) → Points W.pool x.1 x.2 := fun x hx => by
      obtain ⟨m, hm, hx⟩ := (hhome x).1 hx
      exact (hpt m hm x hx).1
    have hl : ∀ x, x ∈ (homesL W (memN W)).map (fun x => x.1.toNat) → x < W.pool.n := by
      intro x hx
      obtain ⟨y, hy', rfl⟩ := List.mem_map.1 hx
      have := hpL y hy'
      have h1 := this.2.1
      have h2 := this.2.2.1
      omega
    have hnl : ((homesL W (memN W)).map (fun x => x.1.toNat)).Nodup := by
      unfold List.Nodup
      rw [List.pairwise_map]
      refine List.Pairwise.imp_of_mem ?_ hnodup
      intro a b ha' hb' hne e
      have p1 := hpL a ha'
      have p2 := hpL b hb'
      have := p1.2.1
      have := p2.2.1
      exact hne (hone a b p1 p2 (by omega))
    have hc := cnt_list hnl hl
    rw [List.length_map] at hc
    have hr := cnt_rest h.right
    have hmem : ∀ i, i < W.pool.n → (i ∈ (homesL W (memN W)).map (fun x => x.1.toNat) ↔ ∃ m, m < memN W ∧ ∃ b, ((i : Int), b) ∈ treeM W (memOf W m)) := by
      intro i hi
      rw [List.mem_map]
      constructor
      · rintro ⟨x, hx, e⟩
        have := (hpL x hx).2.1
        obtain ⟨m, hm, hx⟩ := (hhome x).1 hx
        exact ⟨m, hm, x.2, by rw [show (i : Int) = x.1 by omega]; exact hx⟩
      · rintro ⟨m, hm, b, hx⟩
        exact ⟨(i, b), (hhome _).2 ⟨m, hm, hx⟩, by simp⟩
    have := cnt_congr (P := fun i => i ∈ (homesL W (memN W)).map (fun x => x.1.toNat)) (Q := fun i => ¬ Free (W.pool.s i) ∧ ¬ Has W.pool.hn W.pool.h i) (n := W.pool.n) (fun i hi => (hmem i hi).trans (hre i hi))
    omega

end Go.Proofs.YtjpbmpjddbekgaaGreat

namespace Go.Proofs.YtjpbmpjddbekgaaGreat
open Go.RowKit Go.Maps
set_option linter.unusedVariables false

theorem RowL.atW {w : World} {base : Nat} {v : Value} {l : List (Int × Int)} (h : RowL w base v l) (hm : l.length ≤ 1000) : PtrsAt w 0 w.heap.size v l.length (fstL l) (sndL l) := by
  obtain ⟨b, h1, h2⟩ := h.own (by unfold maxLen; omega)
  exact h1.at (fun h0 => ⟨Nat.zero_le _, (h2 h0).2.2⟩)

/-- All of a tree was born ahead of its own time, and what was born ahead of another time is just what stands in the tree of that time. -/
def BornN (now old : List (Int × Int)) (t tm : Int) (n : Nat) : Prop := ∀ i, i < n → sndL now i ≤ tm ∧ ((fstL now i, sndL now i) ∈ old ↔ sndL now i ≤ t)

theorem bornN_L (now old : List (Int × Int)) (t tm : Int) : BornN now old t tm now.length ↔ BornL now old t tm := by
  constructor
  · intro h x hx
    obtain ⟨j, hj, e⟩ := List.getElem_of_mem hx
    have := h j hj
    unfold fstL sndL at this
    rw [getD_lt hj, e] at this
    exact this
  · intro h i hi
    have := h _ (List.getElem_mem hi)
    unfold fstL sndL
    rw [getD_lt hi]
    exact this

/-- The ids of all snapshots are 1 or more. -/
def IdsPos (W : WorldD) : Prop := ∀ k, k < W.pn → 1 ≤ (W.snaps k).id
def AheadEq (W : WorldD) (x s b t : Int) : Prop := s = (aheadOf W x).rs ∧ b = (aheadOf W x).rb ∧ t = (aheadOf W x).time
theorem ahead_of {W : WorldD} {x s b t : Int} (hp : IdsPos W) (h : AheadIs W x s b t) : AheadEq W x s b t := by
  rcases h with ⟨k, _, hk, h1, h2, h3⟩ | ⟨hn, h1, h2, h3⟩
  · unfold AheadEq
    rw [aheadOf_at hk]
    exact ⟨h1, h2, h3⟩
  · have e : aheadOf W x = zeroSnap := by
      rcases hn with rfl | hn
      · exact aheadOf_no (fun k hk e => by have := hp k hk; omega)
      · exact aheadOf_no hn
    unfold AheadEq
    rw [e]
    exact ⟨h1, h2, h3⟩

set_option maxRecDepth 20000 in
set_option maxHeartbeats 4000000 in
theorem l04BornIn_any (v0 v1 v2 v3 : Value) (lo hi : Nat) (W : WorldD) (x rs rb tm t : Int) (now old : List (Int × Int)) (w : World) (h : WorldAt w lo hi v0 v1 v2 v3 W) (hR : Right W.pool) (hT : TreeOk W.pool rs rb) (hA : TreeOk W.pool (aheadOf W x).rs (aheadOf W x).rb) (hP : IdsPos W) (hnow : now = treeL W.pool rs rb) (hold : old = treeL W.pool (aheadOf W x).rs (aheadOf W x).rb) (ht : t = (aheadOf W x).time) :
    Calls Tryz.prog 115 #[worldV v0 v1 v2 v3 W, .int .i64 x, .agg #[.int .i64 rs, .int .i64 rb], .int .i64 tm] w fun e w' => BoolIs (BornL now old t tm) e ∧ Below w.heap.size w w' := by
  have Hp := hideW h
  have HR := hideW hR
  have HT := hideW hT
  have HA := hideW hA
  have HP := hideW hP
  have Hnow := hideW hnow
  have Hold := hideW hold
  have Htt := hideW ht
  clear h hR hT hA hP hnow hold ht
  have ha := below_alloc w (.cells #[v0, v1, .int .i64 W.time, .int .i64 W.next, v2, v3] 38)
  have hB := Box6.new w v0 v1 (.int .i64 W.time) (.int .i64 W.next) v2 v3 38
  have ha2 := below_alloc (w.alloc (.cells #[v0, v1, .int .i64 W.time, .int .i64 W.next, v2, v3] 38)) (.cells #[.int .i64 rs, .int .i64 rb] 43)
  have hX := Box2.new (w.alloc (.cells #[v0, v1, .int .i64 W.time, .int .i64 W.next, v2, v3] 38)) (.int .i64 rs) (.int .i64 rb) 43
  have hB2 := hB.below ha2
  have hb2 := below_next ha ha2
  have hsz : (w.alloc (.cells #[v0, v1, .int .i64 W.time, .int .i64 W.next, v2, v3] 38)).heap.size = w.heap.size + 1 := World.size_alloc _ _
  rw [hsz] at hX
  clear ha ha2 hB
  go_enter Tryz.func115, Tryz.ntmps115
  go_wp2_with fail
  generalize ((w.alloc (.cells #[v0, v1, .int .i64 W.time, .int .i64 W.next, v2, v3] 38)).alloc (.cells #[.int .i64 rs, .int .i64 rb] 43)) = W0 at hX hB2 hb2 ⊢
  refine (l04Ahead_any v0 v1 v2 _ lo hi W x W0 (Hp.out.below hb2)).mono ?_
  rintro e w1 ⟨s, b, t', rfl, hF, hb1⟩
  have hq := ahead_of HP.out hF
  obtain rfl : t = t' := Htt.out.trans hq.2.2.symm
  have hT2 := hideW (show TreeOk W.pool s b by rw [hq.1, hq.2.1]; exact HA.out)
  have HF := hideW (show old = treeL W.pool s b by rw [Hold.out, hq.1, hq.2.1])
  clear hq Htt Hold HA
  have hX1 := hX.below hb1
  have hB1 := hB2.below hb1
  have hbw := below_next hb2 hb1
  have ha3 := below_alloc w1 (.cells #[.int .i64 s, .int .i64 b] 43)
  have HY3 := hideW (Box2.new w1 (.int .i64 s) (.int .i64 b) 43)
  have HX3 := hideW (hX1.below ha3)
  have HB3 := hideW (hB1.below ha3)
  have hbw3 := below_next hbw ha3
  clear hX hB2 hb2 hb1 hsz hF hX1 hB1 hbw ha3
  obtain ⟨⟨y0, y1⟩, ⟨y2, y3⟩⟩ := HY3.out
  obtain ⟨⟨z0, z1⟩, ⟨z2, z3⟩⟩ := HX3.out
  obtain ⟨⟨x0, x1⟩, ⟨x2, x3⟩, ⟨x4, x5⟩, ⟨x6, x7⟩, ⟨x8, x9⟩, ⟨x10, x11⟩⟩ := HB3.out
  go_wp2_with fail
  generalize w1.alloc (.cells #[.int .i64 s, .int .i64 b] 43) = w3 at *
  refine (l02Ptrs_any v0 v1 lo hi W.pool s b w3 (Hp.out.pool.below hbw3) HR.out hT2.out).mono ?_
  rintro e w4 ⟨vo, rfl, hro, hb4⟩
  have ho := (hro.atW (by have := treeL_len W.pool s b; omega))
  have HX4 := hideW (HX3.out.below hb4)
  have HB4 := hideW (HB3.out.below hb4)
  have hbw4 := below_next hbw3 hb4
  clear hro hb4 HX3 HB3 HY3 hbw3 x0 x1 x2 x3 x4 x5 x6 x7 x8 x9 x10 x11 y0 y1 y2 y3 z0 z1 z2 z3
  obtain ⟨⟨z0, z1⟩, ⟨z2, z3⟩⟩ := HX4.out
  obtain ⟨⟨x0, x1⟩, ⟨x2, x3⟩, ⟨x4, x5⟩, ⟨x6, x7⟩, ⟨x8, x9⟩, ⟨x10, x11⟩⟩ := HB4.out
  go_wp2_with fail
  refine (l02Ptrs_any v0 v1 lo hi W.pool rs rb w4 (Hp.out.pool.below hbw4) HR.out HT.out).mono ?_
  rintro e w5 ⟨vn, rfl, hrn, hb5⟩
  have hn := (hrn.atW (by have := treeL_len W.pool rs rb; omega))
  have ho5 := ho.below hb5
  have hbw5 := below_next hbw4 hb5
  clear hrn hb5 HX4 HB4 hbw4 ho x0 x1 x2 x3 x4 x5 x6 x7 x8 x9 x10 x11 z0 z1 z2 z3
  rw [← Hnow.out] at hn
  rw [← HF.out] at ho5
  clear HF hT2 HT Hnow HR HP
  obtain ⟨mn, an, cn, rfl, mcn, _⟩ := id hn
  have Hn := hideW hn
  have Ho := hideW ho5
  clear hn ho5
  unfold maxLen at mn
  go_wp2
  go_loopw [13] (fun i wr => ∃ k : Nat, k ≤ now.length ∧ i = .int .i64 k ∧ BornN now old t tm k ∧ Below w5.heap.size w5 wr) (fun i _ => now.length - (intOf i).toNat)
  case atStart => exact ⟨0, Nat.zero_le _, rfl, fun j hj => absurd hj (Nat.not_lt_zero _), Below.refl _ _⟩
  case round =>
    obtain ⟨k, hk, rfl, hall, hb⟩ := hrel
    have Hall := hideW hall
    clear hall
    by_cases hlt : k < now.length
    · have hlt' : (k : Int) < (now.length : Int) := by omega
      obtain ⟨b1, off, rfl, q0, q1⟩ := (Hn.out.below hb).cellsD hlt
      by_cases hg : tm < sndL now k
      · have hd : decide (tm < sndL now k) = true := by simp [hg]
        have Hg := hideW hg
        clear hg
        go_wp2
        go_quiet (fail)
        go_wp2
        go_ret
        exact ⟨BoolIs.no fun hA => absurd ((bornN_L _ _ _ _).2 hA k hlt).1 (by have := Hg.out; omega), below_drewN (below_next hbw5 hb) _⟩
      · have hd : decide (tm < sndL now k) = false := by simp; omega
        have Hg := hideW (show sndL now k ≤ tm by omega)
        clear hg
        go_wp2_with fail
        go_region_held3 (fun w' => w'.cell? ⟨b1, off + k * 2, none⟩ = some (.int .i64 (fstL now k)) ∧ w'.cell? ⟨b1, off + k * 2 + 1, none⟩ = some (.int .i64 (sndL now k))) (go_keep)
          (first | (go_at_call 97; refine (l03In_any _ old.length 0 w4.heap.size (fstL old) (sndL old) (fstL now k) (sndL now k) _ ?_).mono ?_; (exact (Ho.out.below hb).below ((Below.refl _ _).drew)); rintro e w6 ⟨⟨t6, rfl, ht6⟩, hb6⟩; have z1 := (hb6.cell (p := ⟨b1, off + k * 2, none⟩) (lt_of_cell q0)).trans q0; have z2 := (hb6.cell (p := ⟨b1, off + k * 2 + 1, none⟩) (lt_of_cell q1)).trans q1))
        have hb7 := below_call hb hb6
        have Hin := hideW (ht6.trans pin_list)
        clear ht6 hb6 z1 z2 q0 q1 hd
        have hiff : (t6 == decide (sndL now k ≤ t)) = true ↔ ((fstL now k, sndL now k) ∈ old ↔ sndL now k ≤ t) := by
          have ho := Hin.out
          cases t6 <;> simp_all
        have Hiff := hideW hiff
        clear hiff
        cases hc : (t6 == decide (sndL now k ≤ t))
        · go_wp2
          go_ret
          exact ⟨BoolIs.no fun hA => absurd (Hiff.out.2 ((bornN_L _ _ _ _).2 hA k hlt).2) (by simp [hc]), below_next hbw5 hb7⟩
        · go_wp2
          go_roundw
          case rel => exact ⟨k + 1, by omega, by go_num, relNext hlt Hall.out ⟨Hg.out, Hiff.out.1 hc⟩, hb7⟩
          case measure => simp [intOf]; omega
    · obtain rfl : k = now.length := by omega
      go_wp2
      go_ret
      exact ⟨BoolIs.yes ((bornN_L _ _ _ _).1 Hall.out), below_next hbw5 hb⟩

end Go.Proofs.YtjpbmpjddbekgaaGreat

namespace Go.Proofs.YtjpbmpjddbekgaaGreat
open Go.RowKit Go.Maps
set_option linter.unusedVariables false

theorem lack_no {l m : List (Int × Int)} {k : Nat} (hk : k < l.length) (h : (fstL l k, sndL l k) ∈ m) : lack (l.take (k + 1)) m = lack (l.take k) m := by
  unfold fstL sndL at h
  rw [getD_lt hk] at h
  unfold lack
  rw [List.take_succ_eq_append_getElem hk, List.filter_append, List.filter_cons]
  simp only [List.filter_nil]
  rw [if_neg (by simp; exact h), List.append_nil]
theorem lack_yes {l m : List (Int × Int)} {k : Nat} (hk : k < l.length) (h : (fstL l k, sndL l k) ∉ m) : lack (l.take (k + 1)) m = lack (l.take k) m ++ [(fstL l k, sndL l k)] := by
  unfold fstL sndL at h ⊢
  rw [getD_lt hk] at h ⊢
  unfold lack
  rw [List.take_succ_eq_append_getElem hk, List.filter_append, List.filter_cons]
  simp only [List.filter_nil]
  rw [if_pos (by simp; exact h)]
theorem lack_len (l m : List (Int × Int)) (k : Nat) : (lack (l.take k) m).length ≤ k := by
  unfold lack
  exact Nat.le_trans (List.length_filter_le _ _) (by rw [List.length_take]; omega)

set_option maxRecDepth 20000 in
set_option maxHeartbeats 4000000 in
theorem l04Dead_any (v0 v1 v2 v3 vd : Value) (lo hi lo2 hi2 dn : Nat) (ds db : Nat → Int) (W : WorldD) (x rs rb : Int) (now old : List (Int × Int)) (w : World) (h : WorldAt w lo hi v0 v1 v2 v3 W) (hD : PtrsAt w lo2 hi2 vd dn ds db) (hR : Right W.pool) (hT : TreeOk W.pool rs rb) (hA : TreeOk W.pool (aheadOf W x).rs (aheadOf W x).rb) (hP : IdsPos W) (hnow : now = treeL W.pool rs rb) (hold : old = treeL W.pool (aheadOf W x).rs (aheadOf W x).rb) :
    Calls Tryz.prog 56 #[worldV v0 v1 v2 v3 W, .int .i64 x, .agg #[.int .i64 rs, .int .i64 rb], vd] w fun e w' => BoolIs (PSameL dn ds db (lack old now)) e ∧ Below w.heap.size w w' := by
  have Hp := hideW h
  have HR := hideW hR
  have HT := hideW hT
  have HA := hideW hA
  have HP := hideW hP
  have Hnow := hideW hnow
  have Hold := hideW hold
  have HD := hideW hD
  clear h hR hT hA hP hnow hold hD
  have ha := below_alloc w (.cells #[v0, v1, .int .i64 W.time, .int .i64 W.next, v2, v3] 38)
  have hB := Box6.new w v0 v1 (.int .i64 W.time) (.int .i64 W.next) v2 v3 38
  have ha2 := below_alloc (w.alloc (.cells #[v0, v1, .int .i64 W.time, .int .i64 W.next, v2, v3] 38)) (.cells #[.int .i64 rs, .int .i64 rb] 43)
  have hX := Box2.new (w.alloc (.cells #[v0, v1, .int .i64 W.time, .int .i64 W.next, v2, v3] 38)) (.int .i64 rs) (.int .i64 rb) 43
  have hB2 := hB.below ha2
  have hb2 := below_next ha ha2
  have hsz : (w.alloc (.cells #[v0, v1, .int .i64 W.time, .int .i64 W.next, v2, v3] 38)).heap.size = w.heap.size + 1 := World.size_alloc _ _
  rw [hsz] at hX
  clear ha ha2 hB
  go_enter Tryz.func56, Tryz.ntmps56
  go_wp2_with fail
  generalize ((w.alloc (.cells #[v0, v1, .int .i64 W.time, .int .i64 W.next, v2, v3] 38)).alloc (.cells #[.int .i64 rs, .int .i64 rb] 43)) = W0 at hX hB2 hb2 ⊢
  refine (l04Ahead_any v0 v1 v2 _ lo hi W x W0 (Hp.out.below hb2)).mono ?_
  rintro e w1 ⟨s, b, t, rfl, hF, hb1⟩
  have hq := ahead_of HP.out hF
  have hT2 := hideW (show TreeOk W.pool s b by rw [hq.1, hq.2.1]; exact HA.out)
  have HF := hideW (show old = treeL W.pool s b by rw [Hold.out, hq.1, hq.2.1])
  clear hq Hold HA
  have hX1 := hX.below hb1
  have hB1 := hB2.below hb1
  have hbw := below_next hb2 hb1
  have ha3 := below_alloc w1 (.cells #[.int .i64 s, .int .i64 b] 43)
  have HY3 := hideW (Box2.new w1 (.int .i64 s) (.int .i64 b) 43)
  have HX3 := hideW (hX1.below ha3)
  have HB3 := hideW (hB1.below ha3)
  have hbw3 := below_next hbw ha3
  clear hX hB2 hb2 hb1 hsz hF hX1 hB1 hbw ha3
  obtain ⟨⟨y0, y1⟩, ⟨y2, y3⟩⟩ := HY3.out
  obtain ⟨⟨z0, z1⟩, ⟨z2, z3⟩⟩ := HX3.out
  obtain ⟨⟨x0, x1⟩, ⟨x2, x3⟩, ⟨x4, x5⟩, ⟨x6, x7⟩, ⟨x8, x9⟩, ⟨x10, x11⟩⟩ := HB3.out
  go_wp2_with fail
  generalize w1.alloc (.cells #[.int .i64 s, .int .i64 b] 43) = w3 at *
  refine (l02Ptrs_any v0 v1 lo hi W.pool s b w3 (Hp.out.pool.below hbw3) HR.out hT2.out).mono ?_
  rintro e w4 ⟨vo, rfl, hro, hb4⟩
  have ho := (hro.atW (by have := treeL_len W.pool s b; omega))
  have HX4 := hideW (HX3.out.below hb4)
  have HB4 := hideW (HB3.out.below hb4)
  have hbw4 := below_next hbw3 hb4
  clear hro hb4 HX3 HB3 HY3 hbw3 x0 x1 x2 x3 x4 x5 x6 x7 x8 x9 x10 x11 y0 y1 y2 y3 z0 z1 z2 z3
  obtain ⟨⟨z0, z1⟩, ⟨z2, z3⟩⟩ := HX4.out
  obtain ⟨⟨x0, x1⟩, ⟨x2, x3⟩, ⟨x4, x5⟩, ⟨x6, x7⟩, ⟨x8, x9⟩, ⟨x10, x11⟩⟩ := HB4.out
  go_wp2_with fail
  refine (l02Ptrs_any v0 v1 lo hi W.pool rs rb w4 (Hp.out.pool.below hbw4) HR.out HT.out).mono ?_
  rintro e w5 ⟨vn, rfl, hrn, hb5⟩
  have hn := (hrn.atW (by have := treeL_len W.pool rs rb; omega))
  have ho5 := ho.below hb5
  have hbw5 := below_next hbw4 hb5
  clear hrn hb5 HX4 HB4 hbw4 ho x0 x1 x2 x3 x4 x5 x6 x7 x8 x9 x10 x11 z0 z1 z2 z3
  have HL := hideW (show now.length ≤ 73 ∧ old.length ≤ 73 by rw [Hnow.out, HF.out]; exact ⟨treeL_len _ _ _, treeL_len _ _ _⟩)
  rw [← Hnow.out] at hn
  rw [← HF.out] at ho5
  clear HF hT2 HT Hnow HR HP
  obtain ⟨mo, ao, co, rfl, mco, _⟩ := id ho5
  have hol : old.length ≤ 73 := HL.out.2
  have Hn := hideW hn
  have Ho := hideW ho5
  have HD5 := hideW (HD.out.below hbw5)
  clear hn ho5 HD
  unfold maxLen at mo
  obtain ⟨i0, hi0, hzz⟩ := Option.map_eq_some_iff.1 infoPtrL
  simp only [Prod.mk.injEq] at hzz
  have HI := hideW (And.intro hi0 hzz)
  clear hi0 hzz
  have HA6 := hideW (below_alloc w5 (.cells #[] 43))
  have HL6 := hideW (show RowL (w5.alloc (.cells #[] 43)) w5.heap.size (.slice (some ⟨w5.heap.size, 0, none⟩) 0 0) [] from World.ownsRow_lit (e := 43) (size := 2) w5 #[] 0 (Nat.le_refl _) (by unfold maxLen; omega) rfl)
  go_wp2
  go_loopw [13, 14] (fun vw i wr => ∃ k : Nat, k ≤ old.length ∧ i = .int .i64 k ∧ RowL wr w5.heap.size vw (lack (old.take k) now) ∧ Below w5.heap.size w5 wr) (fun _ i _ => old.length - (intOf i).toNat)
  case atStart => exact ⟨0, Nat.zero_le _, rfl, by rw [List.take_zero]; exact HL6.out, HA6.out⟩
  case round =>
    obtain ⟨k, hk, rfl, hrow, hb⟩ := hrel
    have Hrow := hideW hrow
    clear hrow HL6 HA6
    by_cases hlt : k < old.length
    · have hlt' : (k : Int) < (old.length : Int) := by omega
      obtain ⟨b1, off, rfl, q0, q1⟩ := (Ho.out.below hb).cellsD hlt
      go_wp2_with fail
      refine (l03In_any _ now.length 0 w5.heap.size (fstL now) (sndL now) (fstL old k) (sndL old k) _ (Hn.out.below hb)).mono ?_
      rintro e w6 ⟨⟨t6, rfl, ht6⟩, hb6⟩
      have z0 := (hb6.cell (p := ⟨b1, off + k * 2, none⟩) (lt_of_cell q0)).trans q0
      have z1 := (hb6.cell (p := ⟨b1, off + k * 2 + 1, none⟩) (lt_of_cell q1)).trans q1
      have hb7 := below_next hb hb6
      have Hrow6 := hideW (Hrow.out.below hb6)
      have Hin := hideW (ht6.trans pin_list)
      clear ht6 hb6 q0 q1 Hrow
      cases t6
      · have hba := below_alloc w6 (.cells #[.int .i64 (fstL old k), .int .i64 (sndL old k)] 43)
        have Hrow7 := hideW (Hrow6.out.below hba)
        have hB3 := below_next hb7 hba
        have hz2 := hb7.size
        have hz3 : (w6.alloc (.cells #[.int .i64 (fstL old k), .int .i64 (sndL old k)] 43)).heap.size = w6.heap.size + 1 := World.size_alloc _ _
        have HN := hideW (World.news_of_block (heap_alloc_last w6 (.cells #[.int .i64 (fstL old k), .int .i64 (sndL old k)] 43)))
        have hlen := lack_len old now k
        clear hba Hrow6
        go_wp2_with (first
          | (at_builtin; refine wpList_append_lies _ rfl _ _ 44 rfl w5.heap.size 43 i0 (.agg #[.int .i64 0, .int .i64 0]) 2 16 (by kernel_rfl) HI.out.1 HI.out.2.1 HI.out.2.2.1 HI.out.2.2.2 rfl (by decide) _ _ _ rfl Hrow7.out ⟨w6.heap.size, 0, none⟩ 1 1 [.int .i64 (fstL old k), .int .i64 (sndL old k)] rfl rfl HN.out (by simp [Value.oneCell']) (by decide) (by unfold maxLen; omega) (by omega) (by omega) _ rfl ?_; intro g' cap' w8 hown8 hgrow8 hat8 hlt8)
          | go_in)
        go_roundw
        case rel => exact ⟨k + 1, by omega, by go_num, by rw [lack_yes hlt (fun h => absurd (Hin.out.2 h) (by simp))]; exact RowL.next hown8, hB3.grown hgrow8 hB3.size (fun q hq => (Hrow7.out.lt hq).1)⟩
        case measure => simp [intOf]; omega
      · have Hm := hideW (Hin.out.1 rfl)
        clear Hin
        go_wp2
        go_roundw
        case rel => exact ⟨k + 1, by omega, by go_num, by rw [lack_no hlt Hm.out]; exact Hrow6.out, hb7⟩
        case measure => simp [intOf]; omega
    · obtain rfl : k = old.length := by omega
      have hw := Hrow.out
      rw [List.take_length] at hw
      have hwl : (lack old now).length ≤ old.length := List.length_filter_le _ _
      have hwr := hw.atW (by omega)
      clear hw Hrow
      go_wp2_with fail
      refine (specPtrsSame_any vd _ dn lo2 hi2 _ 0 wr.heap.size ds db _ _ wr (HD5.out.below hb) hwr).mono ?_
      rintro e w6 ⟨⟨t6, rfl, ht6⟩, hb6⟩
      have HT6 := hideW ht6
      clear ht6
      go_wp2
      go_ret
      exact ⟨⟨t6, rfl, HT6.out⟩, below_next hbw5 (below_next hb hb6)⟩

end Go.Proofs.YtjpbmpjddbekgaaGreat
