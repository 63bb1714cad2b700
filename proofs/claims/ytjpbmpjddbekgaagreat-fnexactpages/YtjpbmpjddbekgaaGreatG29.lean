/- Rows of sets and of snapshots that were copied, the first of which have lists of their own (no law is proved here). -/
import Derived.Test.YtjpbmpjddbekgaaGreatG27
import Derived.Test.YtjpbmpjddbekgaaGreatG1
import Derived.Test.YtjpbmpjddbekgaaGreatG6
import Derived.Test.YtjpbmpjddbekgaaGreatG22
import Derived.Test.YtjpbmpjddbekgaaGreatG26
namespace Go.Proofs.YtjpbmpjddbekgaaGreat
open Go.RowKit
set_option linter.unusedVariables false

/-- The cells of a row. -/
def cellSet (f : Nat → SetD) (cv : Nat → Value) (i r : Nat) : Value :=
  match r with
  | 0 => .string (f i).name
  | 1 => .int .i64 (f i).origin
  | 2 => .int .i64 (f i).prev
  | 3 => .int .i64 (f i).rs
  | 4 => .int .i64 (f i).rb
  | _ => cv i
def clSet (f : Nat → SetD) (cv : Nat → Value) (n : Nat) : List Value := (List.range (n * 6)).map fun j => cellSet f cv (j / 6) (j % 6)
theorem clSet_len (f : Nat → SetD) (cv : Nat → Value) (n : Nat) : (clSet f cv n).length = n * 6 := by simp [clSet]
theorem clSet_at (f : Nat → SetD) (cv : Nat → Value) (n : Nat) {i r : Nat} (hi : i < n) (hr : r < 6) : (clSet f cv n)[i * 6 + r]? = some (cellSet f cv i r) := by
  have h : i * 6 + r < n * 6 := by omega
  have h1 : (i * 6 + r) / 6 = i := by omega
  have h2 : (i * 6 + r) % 6 = r := by omega
  simp [clSet, h, h1, h2]
theorem clSet_one (f : Nat → SetD) (cv : Nat → Value) (n : Nat) (h : ∀ i, i < n → (cv i).oneCell' = true) : ∀ u ∈ clSet f cv n, u.oneCell' = true := by
  intro u hu
  unfold clSet at hu
  obtain ⟨j, hj, rfl⟩ := List.mem_map.1 hu
  have hj' := List.mem_range.1 hj
  have hi : j / 6 < n := by omega
  have hr : j % 6 < 6 := by omega
  generalize j % 6 = r at hr ⊢
  rcases r with _ | _ | _ | _ | _ | _ <;> first | rfl | exact h _ hi
/-- The cells of one of a row but the list of what was dropped, and that. -/
def SetHead (w : World) (b o : Nat) (s : SetD) (vd : Value) : Prop := Cell w b o (.string s.name) ∧ Cell w b (o + 1) (.int .i64 s.origin) ∧ Cell w b (o + 2) (.int .i64 s.prev) ∧ Cell w b (o + 3) (.int .i64 s.rs) ∧ Cell w b (o + 4) (.int .i64 s.rb) ∧ Cell w b (o + 5) vd
theorem SetHead.turned {S : Nat → Prop} {w w' : World} {b o : Nat} {s : SetD} {vd : Value} (h : SetHead w b o s vd) (t : Turned S w w') (hs : ¬ S b) : SetHead w' b o s vd := by
  obtain ⟨h0, h1, h2, h3, h4, h5⟩ := h
  exact ⟨h0.turned t hs, h1.turned t hs, h2.turned t hs, h3.turned t hs, h4.turned t hs, h5.turned t hs⟩
theorem SetHead.below {w w' : World} {b o : Nat} {s : SetD} {vd : Value} (h : SetHead w b o s vd) (t : Below w.heap.size w w') : SetHead w' b o s vd :=
  h.turned (Turned.of_below (S := fun _ => False) t) (fun h => h)
theorem SetHead.set {w : World} {b o : Nat} {s : SetD} {vd : Value} (h : SetHead w b o s vd) (u : Value) : SetHead (w.setCell ⟨b, o + 5, none⟩ u) b o s u := by
  obtain ⟨h0, h1, h2, h3, h4, h5⟩ := h
  exact ⟨h0.other _ (Or.inr (by omega)), h1.other _ (Or.inr (by omega)), h2.other _ (Or.inr (by omega)), h3.other _ (Or.inr (by omega)), h4.other _ (Or.inr (by omega)), h5.set _⟩
theorem SetHead.other {w : World} {b o o' : Nat} {s : SetD} {vd : Value} (h : SetHead w b o s vd) (u : Value) (hne : ∀ r, r < 6 → o' ≠ o + r) : SetHead (w.setCell ⟨b, o', none⟩ u) b o s vd := by
  obtain ⟨h0, h1, h2, h3, h4, h5⟩ := h
  exact ⟨h0.other _ (Or.inr (hne 0 (by omega))), h1.other _ (Or.inr (hne 1 (by omega))), h2.other _ (Or.inr (hne 2 (by omega))), h3.other _ (Or.inr (hne 3 (by omega))), h4.other _ (Or.inr (hne 4 (by omega))), h5.other _ (Or.inr (hne 5 (by omega)))⟩
/-- A row of n that was copied: the first k have lists of their own, the others those of the row that was copied. -/
structure HalfSet (wr : World) (bs L n k : Nat) (f : Nat → SetD) (kb : Nat → Nat) (kv cv : Nat → Value) : Prop where
  heads : ∀ j, j < n → SetHead wr bs (j * 6) (f j) (if j < k then kv j else cv j)
  dead : ∀ j, j < k → PtrsOwn wr (kb j) (kv j) (f j).dn (f j).ds (f j).db
  place : ∀ j, j < k → 0 < (f j).dn → L ≤ kb j ∧ kb j < wr.heap.size
  apart : SetsApart kb k f
  lt : 0 < n → bs < L
theorem HalfSet.below {wr w' : World} {bs L n k : Nat} {f : Nat → SetD} {kb : Nat → Nat} {kv cv : Nat → Value} (h : HalfSet wr bs L n k f kb kv cv) (t : Below wr.heap.size wr w') : HalfSet w' bs L n k f kb kv cv :=
  ⟨fun j hj => (h.heads j hj).below t, fun j hj => (h.dead j hj).below t, fun j hj h0 => by have := h.place j hj h0; have := t.size; omega, h.apart, h.lt⟩
theorem HalfSet.turned {S : Nat → Prop} {wr w' : World} {bs L n k : Nat} {f : Nat → SetD} {kb : Nat → Nat} {kv cv : Nat → Value} (h : HalfSet wr bs L n k f kb kv cv) (t : Turned S wr w') (hs : ∀ q, S q → (0 < n → q ≠ bs) ∧ q < L) (hk : k ≤ n) : HalfSet w' bs L n k f kb kv cv :=
  ⟨fun j hj => (h.heads j hj).turned t (fun e => (hs _ e).1 (by omega) rfl), fun j hj => (h.dead j hj).turned t (fun h0 e => by have := h.place j hj h0; have := (hs _ e).2; omega), fun j hj h0 => by have := h.place j hj h0; have := t.size; omega, h.apart, h.lt⟩
theorem HalfSet.next {wr w1 : World} {bs L n k b : Nat} {f : Nat → SetD} {kb : Nat → Nat} {kv cv : Nat → Value} {v : Value} (h : HalfSet wr bs L n k f kb kv cv) (hk : k < n) (hL : L ≤ wr.heap.size) (t : Below wr.heap.size wr w1)
    (hp : PtrsOwn w1 b v (f k).dn (f k).ds (f k).db) (hb : 0 < (f k).dn → wr.heap.size ≤ b ∧ b < w1.heap.size) :
    HalfSet (w1.setCell ⟨bs, k * 6 + 5, none⟩ v) bs L n (k + 1) f (fun j => if j = k then b else kb j) (fun j => if j = k then v else kv j) cv := by
  have h' := h.below t
  have hlt := h.lt (by omega)
  refine ⟨fun j hj => ?_, fun j hj => ?_, fun j hj h0 => ?_, fun i j hi hj hij h1 h2 => ?_, h.lt⟩
  · have hh := h'.heads j hj
    by_cases e : j = k
    · subst e
      rw [if_pos (by omega), if_pos rfl]
      exact hh.set v
    · rw [if_neg e]
      have es : (if j < k + 1 then kv j else cv j) = if j < k then kv j else cv j := by
        by_cases e2 : j < k
        · rw [if_pos e2, if_pos (by omega)]
        · rw [if_neg e2, if_neg (by omega)]
      rw [es]
      exact hh.other v (fun r hr => by omega)
  · by_cases e : j = k
    · subst e
      simp only [if_true]
      exact hp.turned (Turned.put _ _ _ _) (fun h0 hx => by have := hb h0; omega)
    · simp only [if_neg e]
      exact (h'.dead j (by omega)).turned (Turned.put _ _ _ _) (fun h0 hx => by have := h'.place j (by omega) h0; omega)
  · simp only [World.size_setCell]
    by_cases e : j = k
    · subst e
      rw [if_pos rfl]
      have := hb h0
      omega
    · rw [if_neg e]
      have := h'.place j (by omega) h0
      omega
  · show (if i = k then b else kb i) ≠ (if j = k then b else kb j)
    by_cases e1 : i = k
    · by_cases e2 : j = k
      · omega
      · rw [if_pos e1, if_neg e2]
        subst e1
        have := hb h1
        have := h.place j (by omega) h2
        omega
    · by_cases e2 : j = k
      · rw [if_neg e1, if_pos e2]
        subst e2
        have := hb h2
        have := h.place i (by omega) h1
        omega
      · rw [if_neg e1, if_neg e2]
        exact h.apart i j (by omega) (by omega) hij h1 h2
theorem HalfSet.own {wr : World} {bs L n c : Nat} {f : Nat → SetD} {kb : Nat → Nat} {kv cv : Nat → Value} {a : Option Addr} (h : HalfSet wr bs L n n f kb kv cv) (hm : n ≤ maxLen) (ha : 0 < n → a = some ⟨bs, 0, none⟩) (hc : n ≤ c) (hs : ∀ i, i < n → (f i).name.size ≤ maxLen) : SetsOwn wr bs kb kv (.slice a n c) n f :=
  ⟨hm, a, c, rfl, hc, fun h0 => ⟨0, ha h0, fun i hi => by
    obtain ⟨h0, h1, h2, h3, h4, h5⟩ := h.heads i hi
    rw [if_pos hi] at h5
    rw [Nat.zero_add]
    exact ⟨h0, h1, h2, h3, h4, h5, h.dead i hi, hs i hi, fun hk e => by have := h.place i hi hk; have := h.lt (by omega); omega⟩⟩⟩
theorem HalfSet.turned0 {S : Nat → Prop} {wr w' : World} {bs L n : Nat} {f : Nat → SetD} {kb : Nat → Nat} {kv cv : Nat → Value} (h : HalfSet wr bs L n 0 f kb kv cv) (t : Turned S wr w') (hs : ∀ q, S q → 0 < n → q ≠ bs) : HalfSet w' bs L n 0 f kb kv cv :=
  ⟨fun j hj => (h.heads j hj).turned t (fun e => hs _ e (by omega) rfl), fun j hj => absurd hj (Nat.not_lt_zero _), fun j hj => absurd hj (Nat.not_lt_zero _), h.apart, h.lt⟩
theorem HalfSet.weak {wr : World} {bs L L' n : Nat} {f : Nat → SetD} {kb : Nat → Nat} {kv cv : Nat → Value} (h : HalfSet wr bs L n 0 f kb kv cv) (hL : L ≤ L') : HalfSet wr bs L' n 0 f kb kv cv :=
  ⟨h.heads, h.dead, fun j hj => absurd hj (Nat.not_lt_zero _), h.apart, fun h0 => Nat.lt_of_lt_of_le (h.lt h0) hL⟩
/-- What is read of a row that is to be copied. -/
theorem SetsAt.values {w : World} {lo hi : Nat} {a : Option Addr} {n c : Nat} {f : Nat → SetD} (h : SetsAt w lo hi (.slice a n c) n f) :
    ∃ cv : Nat → Value, (∀ i, i < n → PtrsAt w lo hi (cv i) (f i).dn (f i).ds (f i).db ∧ (f i).name.size ≤ maxLen) ∧
      (0 < n → ∃ b off, a = some ⟨b, off, none⟩ ∧ ∀ j u, (clSet f cv n)[j]? = some u → w.cell? ⟨b, off + j, none⟩ = some u) := by
  obtain ⟨_, a0, c0, h0, _, g⟩ := h
  simp only [Value.slice.injEq, true_and] at h0
  obtain ⟨rfl, rfl⟩ := h0
  by_cases hn : 0 < n
  · obtain ⟨b, off, ha, hb1, hb2, hc⟩ := g hn
    have hex : ∀ i, ∃ x, i < n → SetCells w b (off + i * 6) lo hi x (f i) := fun i => by
      by_cases hi : i < n
      · obtain ⟨vd, hs⟩ := hc i hi
        exact ⟨vd, fun _ => hs⟩
      · exact ⟨.slice none 0 0, fun h => absurd h hi⟩
    obtain ⟨cv, hcv⟩ := Classical.axiomOfChoice hex
    refine ⟨cv, fun i hi => ⟨(hcv i hi).dead, (hcv i hi).small⟩, fun _ => ⟨b, off, ha, fun j u hj => ?_⟩⟩
    have hlt : j < n * 6 := by
      have := (List.getElem?_eq_some_iff.1 hj).1
      rwa [clSet_len] at this
    have hs := hcv (j / 6) (by omega)
    have e := clSet_at f cv n (i := j / 6) (r := j % 6) (by omega) (by omega)
    rw [show j / 6 * 6 + j % 6 = j by omega, hj] at e
    have hr : j % 6 < 6 := by omega
    have ho : off + j = off + j / 6 * 6 + j % 6 := by omega
    rw [ho]
    generalize j % 6 = r at hr e ⊢
    generalize j / 6 = q at hs e ⊢
    rcases r with _ | _ | _ | _ | _ | _ | r
    · cases e; exact hs.c0
    · cases e; exact hs.c1
    · cases e; exact hs.c2
    · cases e; exact hs.c3
    · cases e; exact hs.c4
    · cases e; exact hs.c5
    · omega
  · exact ⟨fun _ => .slice none 0 0, fun i hi => absurd hi (by omega), fun h => absurd h hn⟩
/-- The row as it was copied. -/
theorem halfSet_start {w1 : World} {base n : Nat} {v : Value} {f : Nat → SetD} {cv : Nat → Value} (hown : w1.ownsRow base 53 6 v n (clSet f cv n)) (L : Nat) (hL : w1.heap.size ≤ L) : ∃ bs a c, v = .slice a n c ∧ n ≤ c ∧ (0 < n → a = some ⟨bs, 0, none⟩ ∧ base ≤ bs ∧ bs < w1.heap.size) ∧ HalfSet w1 bs L n 0 f (fun _ => 0) cv cv := by
  obtain ⟨a1, c1, rfl, hnc⟩ := owns_form hown
  by_cases h0 : 0 < n
  · obtain ⟨g, cap, hv, _, hg1, hg2, hcell⟩ := owns_cell hown h0
    simp only [Value.slice.injEq, true_and] at hv
    obtain ⟨rfl, rfl⟩ := hv
    refine ⟨g, _, _, rfl, hnc, fun _ => ⟨rfl, hg1, hg2⟩, fun j hj => ?_, fun j hj => absurd hj (Nat.not_lt_zero _), fun j hj => absurd hj (Nat.not_lt_zero _), fun i j hi => absurd hi (Nat.not_lt_zero _), fun _ => by omega⟩
    rw [if_neg (Nat.not_lt_zero _)]
    exact ⟨hcell _ _ (clSet_at f cv n hj (r := 0) (by omega)), hcell _ _ (clSet_at f cv n hj (r := 1) (by omega)), hcell _ _ (clSet_at f cv n hj (r := 2) (by omega)), hcell _ _ (clSet_at f cv n hj (r := 3) (by omega)), hcell _ _ (clSet_at f cv n hj (r := 4) (by omega)), hcell _ _ (clSet_at f cv n hj (r := 5) (by omega))⟩
  · exact ⟨0, _, _, rfl, hnc, fun h => absurd h h0, fun j hj => absurd hj (by omega), fun j hj => absurd hj (Nat.not_lt_zero _), fun j hj => absurd hj (Nat.not_lt_zero _), fun i j hi => absurd hi (Nat.not_lt_zero _), fun h => absurd h h0⟩

/-- The cells of a row. -/
def cellSnap (f : Nat → SnapD) (cv : Nat → Value) (i r : Nat) : Value :=
  match r with
  | 0 => .int .i64 (f i).id
  | 1 => .string (f i).name
  | 2 => .string (f i).set
  | 3 => .int .i64 (f i).prev
  | 4 => .int .i64 (f i).time
  | 5 => .int .i64 (f i).rs
  | 6 => .int .i64 (f i).rb
  | _ => cv i
def clSnap (f : Nat → SnapD) (cv : Nat → Value) (n : Nat) : List Value := (List.range (n * 8)).map fun j => cellSnap f cv (j / 8) (j % 8)
theorem clSnap_len (f : Nat → SnapD) (cv : Nat → Value) (n : Nat) : (clSnap f cv n).length = n * 8 := by simp [clSnap]
theorem clSnap_at (f : Nat → SnapD) (cv : Nat → Value) (n : Nat) {i r : Nat} (hi : i < n) (hr : r < 8) : (clSnap f cv n)[i * 8 + r]? = some (cellSnap f cv i r) := by
  have h : i * 8 + r < n * 8 := by omega
  have h1 : (i * 8 + r) / 8 = i := by omega
  have h2 : (i * 8 + r) % 8 = r := by omega
  simp [clSnap, h, h1, h2]
theorem clSnap_one (f : Nat → SnapD) (cv : Nat → Value) (n : Nat) (h : ∀ i, i < n → (cv i).oneCell' = true) : ∀ u ∈ clSnap f cv n, u.oneCell' = true := by
  intro u hu
  unfold clSnap at hu
  obtain ⟨j, hj, rfl⟩ := List.mem_map.1 hu
  have hj' := List.mem_range.1 hj
  have hi : j / 8 < n := by omega
  have hr : j % 8 < 8 := by omega
  generalize j % 8 = r at hr ⊢
  rcases r with _ | _ | _ | _ | _ | _ | _ | _ <;> first | rfl | exact h _ hi
/-- The cells of one of a row but the list of what was dropped, and that. -/
def SnapHead (w : World) (b o : Nat) (s : SnapD) (vd : Value) : Prop := Cell w b o (.int .i64 s.id) ∧ Cell w b (o + 1) (.string s.name) ∧ Cell w b (o + 2) (.string s.set) ∧ Cell w b (o + 3) (.int .i64 s.prev) ∧ Cell w b (o + 4) (.int .i64 s.time) ∧ Cell w b (o + 5) (.int .i64 s.rs) ∧ Cell w b (o + 6) (.int .i64 s.rb) ∧ Cell w b (o + 7) vd
theorem SnapHead.turned {S : Nat → Prop} {w w' : World} {b o : Nat} {s : SnapD} {vd : Value} (h : SnapHead w b o s vd) (t : Turned S w w') (hs : ¬ S b) : SnapHead w' b o s vd := by
  obtain ⟨h0, h1, h2, h3, h4, h5, h6, h7⟩ := h
  exact ⟨h0.turned t hs, h1.turned t hs, h2.turned t hs, h3.turned t hs, h4.turned t hs, h5.turned t hs, h6.turned t hs, h7.turned t hs⟩
theorem SnapHead.below {w w' : World} {b o : Nat} {s : SnapD} {vd : Value} (h : SnapHead w b o s vd) (t : Below w.heap.size w w') : SnapHead w' b o s vd :=
  h.turned (Turned.of_below (S := fun _ => False) t) (fun h => h)
theorem SnapHead.set {w : World} {b o : Nat} {s : SnapD} {vd : Value} (h : SnapHead w b o s vd) (u : Value) : SnapHead (w.setCell ⟨b, o + 7, none⟩ u) b o s u := by
  obtain ⟨h0, h1, h2, h3, h4, h5, h6, h7⟩ := h
  exact ⟨h0.other _ (Or.inr (by omega)), h1.other _ (Or.inr (by omega)), h2.other _ (Or.inr (by omega)), h3.other _ (Or.inr (by omega)), h4.other _ (Or.inr (by omega)), h5.other _ (Or.inr (by omega)), h6.other _ (Or.inr (by omega)), h7.set _⟩
theorem SnapHead.other {w : World} {b o o' : Nat} {s : SnapD} {vd : Value} (h : SnapHead w b o s vd) (u : Value) (hne : ∀ r, r < 8 → o' ≠ o + r) : SnapHead (w.setCell ⟨b, o', none⟩ u) b o s vd := by
  obtain ⟨h0, h1, h2, h3, h4, h5, h6, h7⟩ := h
  exact ⟨h0.other _ (Or.inr (hne 0 (by omega))), h1.other _ (Or.inr (hne 1 (by omega))), h2.other _ (Or.inr (hne 2 (by omega))), h3.other _ (Or.inr (hne 3 (by omega))), h4.other _ (Or.inr (hne 4 (by omega))), h5.other _ (Or.inr (hne 5 (by omega))), h6.other _ (Or.inr (hne 6 (by omega))), h7.other _ (Or.inr (hne 7 (by omega)))⟩
/-- A row of n that was copied: the first k have lists of their own, the others those of the row that was copied. -/
structure HalfSnap (wr : World) (bs L n k : Nat) (f : Nat → SnapD) (kb : Nat → Nat) (kv cv : Nat → Value) : Prop where
  heads : ∀ j, j < n → SnapHead wr bs (j * 8) (f j) (if j < k then kv j else cv j)
  dead : ∀ j, j < k → PtrsOwn wr (kb j) (kv j) (f j).dn (f j).ds (f j).db
  place : ∀ j, j < k → 0 < (f j).dn → L ≤ kb j ∧ kb j < wr.heap.size
  apart : SnapsApart kb k f
  lt : 0 < n → bs < L
theorem HalfSnap.below {wr w' : World} {bs L n k : Nat} {f : Nat → SnapD} {kb : Nat → Nat} {kv cv : Nat → Value} (h : HalfSnap wr bs L n k f kb kv cv) (t : Below wr.heap.size wr w') : HalfSnap w' bs L n k f kb kv cv :=
  ⟨fun j hj => (h.heads j hj).below t, fun j hj => (h.dead j hj).below t, fun j hj h0 => by have := h.place j hj h0; have := t.size; omega, h.apart, h.lt⟩
theorem HalfSnap.turned {S : Nat → Prop} {wr w' : World} {bs L n k : Nat} {f : Nat → SnapD} {kb : Nat → Nat} {kv cv : Nat → Value} (h : HalfSnap wr bs L n k f kb kv cv) (t : Turned S wr w') (hs : ∀ q, S q → (0 < n → q ≠ bs) ∧ q < L) (hk : k ≤ n) : HalfSnap w' bs L n k f kb kv cv :=
  ⟨fun j hj => (h.heads j hj).turned t (fun e => (hs _ e).1 (by omega) rfl), fun j hj => (h.dead j hj).turned t (fun h0 e => by have := h.place j hj h0; have := (hs _ e).2; omega), fun j hj h0 => by have := h.place j hj h0; have := t.size; omega, h.apart, h.lt⟩
theorem HalfSnap.next {wr w1 : World} {bs L n k b : Nat} {f : Nat → SnapD} {kb : Nat → Nat} {kv cv : Nat → Value} {v : Value} (h : HalfSnap wr bs L n k f kb kv cv) (hk : k < n) (hL : L ≤ wr.heap.size) (t : Below wr.heap.size wr w1)
    (hp : PtrsOwn w1 b v (f k).dn (f k).ds (f k).db) (hb : 0 < (f k).dn → wr.heap.size ≤ b ∧ b < w1.heap.size) :
    HalfSnap (w1.setCell ⟨bs, k * 8 + 7, none⟩ v) bs L n (k + 1) f (fun j => if j = k then b else kb j) (fun j => if j = k then v else kv j) cv := by
  have h' := h.below t
  have hlt := h.lt (by omega)
  refine ⟨fun j hj => ?_, fun j hj => ?_, fun j hj h0 => ?_, fun i j hi hj hij h1 h2 => ?_, h.lt⟩
  · have hh := h'.heads j hj
    by_cases e : j = k
    · subst e
      rw [if_pos (by omega), if_pos rfl]
      exact hh.set v
    · rw [if_neg e]
      have es : (if j < k + 1 then kv j else cv j) = if j < k then kv j else cv j := by
        by_cases e2 : j < k
        · rw [if_pos e2, if_pos (by omega)]
        · rw [if_neg e2, if_neg (by omega)]
      rw [es]
      exact hh.other v (fun r hr => by omega)
  · by_cases e : j = k
    · subst e
      simp only [if_true]
      exact hp.turned (Turned.put _ _ _ _) (fun h0 hx => by have := hb h0; omega)
    · simp only [if_neg e]
      exact (h'.dead j (by omega)).turned (Turned.put _ _ _ _) (fun h0 hx => by have := h'.place j (by omega) h0; omega)
  · simp only [World.size_setCell]
    by_cases e : j = k
    · subst e
      rw [if_pos rfl]
      have := hb h0
      omega
    · rw [if_neg e]
      have := h'.place j (by omega) h0
      omega
  · show (if i = k then b else kb i) ≠ (if j = k then b else kb j)
    by_cases e1 : i = k
    · by_cases e2 : j = k
      · omega
      · rw [if_pos e1, if_neg e2]
        subst e1
        have := hb h1
        have := h.place j (by omega) h2
        omega
    · by_cases e2 : j = k
      · rw [if_neg e1, if_pos e2]
        subst e2
        have := hb h2
        have := h.place i (by omega) h1
        omega
      · rw [if_neg e1, if_neg e2]
        exact h.apart i j (by omega) (by omega) hij h1 h2
theorem HalfSnap.own {wr : World} {bs L n c : Nat} {f : Nat → SnapD} {kb : Nat → Nat} {kv cv : Nat → Value} {a : Option Addr} (h : HalfSnap wr bs L n n f kb kv cv) (hm : n ≤ maxLen) (ha : 0 < n → a = some ⟨bs, 0, none⟩) (hc : n ≤ c) (hs : ∀ i, i < n → ((f i).name.size ≤ maxLen ∧ (f i).set.size ≤ maxLen)) : SnapsOwn wr bs kb kv (.slice a n c) n f :=
  ⟨hm, a, c, rfl, hc, fun h0 => ⟨0, ha h0, fun i hi => by
    obtain ⟨h0, h1, h2, h3, h4, h5, h6, h7⟩ := h.heads i hi
    rw [if_pos hi] at h7
    rw [Nat.zero_add]
    exact ⟨h0, h1, h2, h3, h4, h5, h6, h7, h.dead i hi, hs i hi, fun hk e => by have := h.place i hi hk; have := h.lt (by omega); omega⟩⟩⟩
theorem HalfSnap.turned0 {S : Nat → Prop} {wr w' : World} {bs L n : Nat} {f : Nat → SnapD} {kb : Nat → Nat} {kv cv : Nat → Value} (h : HalfSnap wr bs L n 0 f kb kv cv) (t : Turned S wr w') (hs : ∀ q, S q → 0 < n → q ≠ bs) : HalfSnap w' bs L n 0 f kb kv cv :=
  ⟨fun j hj => (h.heads j hj).turned t (fun e => hs _ e (by omega) rfl), fun j hj => absurd hj (Nat.not_lt_zero _), fun j hj => absurd hj (Nat.not_lt_zero _), h.apart, h.lt⟩
theorem HalfSnap.weak {wr : World} {bs L L' n : Nat} {f : Nat → SnapD} {kb : Nat → Nat} {kv cv : Nat → Value} (h : HalfSnap wr bs L n 0 f kb kv cv) (hL : L ≤ L') : HalfSnap wr bs L' n 0 f kb kv cv :=
  ⟨h.heads, h.dead, fun j hj => absurd hj (Nat.not_lt_zero _), h.apart, fun h0 => Nat.lt_of_lt_of_le (h.lt h0) hL⟩
/-- What is read of a row that is to be copied. -/
theorem SnapsAt.values {w : World} {lo hi : Nat} {a : Option Addr} {n c : Nat} {f : Nat → SnapD} (h : SnapsAt w lo hi (.slice a n c) n f) :
    ∃ cv : Nat → Value, (∀ i, i < n → PtrsAt w lo hi (cv i) (f i).dn (f i).ds (f i).db ∧ ((f i).name.size ≤ maxLen ∧ (f i).set.size ≤ maxLen)) ∧
      (0 < n → ∃ b off, a = some ⟨b, off, none⟩ ∧ ∀ j u, (clSnap f cv n)[j]? = some u → w.cell? ⟨b, off + j, none⟩ = some u) := by
  obtain ⟨_, a0, c0, h0, _, g⟩ := h
  simp only [Value.slice.injEq, true_and] at h0
  obtain ⟨rfl, rfl⟩ := h0
  by_cases hn : 0 < n
  · obtain ⟨b, off, ha, hb1, hb2, hc⟩ := g hn
    have hex : ∀ i, ∃ x, i < n → SnapCells w b (off + i * 8) lo hi x (f i) := fun i => by
      by_cases hi : i < n
      · obtain ⟨vd, hs⟩ := hc i hi
        exact ⟨vd, fun _ => hs⟩
      · exact ⟨.slice none 0 0, fun h => absurd h hi⟩
    obtain ⟨cv, hcv⟩ := Classical.axiomOfChoice hex
    refine ⟨cv, fun i hi => ⟨(hcv i hi).dead, (hcv i hi).small⟩, fun _ => ⟨b, off, ha, fun j u hj => ?_⟩⟩
    have hlt : j < n * 8 := by
      have := (List.getElem?_eq_some_iff.1 hj).1
      rwa [clSnap_len] at this
    have hs := hcv (j / 8) (by omega)
    have e := clSnap_at f cv n (i := j / 8) (r := j % 8) (by omega) (by omega)
    rw [show j / 8 * 8 + j % 8 = j by omega, hj] at e
    have hr : j % 8 < 8 := by omega
    have ho : off + j = off + j / 8 * 8 + j % 8 := by omega
    rw [ho]
    generalize j % 8 = r at hr e ⊢
    generalize j / 8 = q at hs e ⊢
    rcases r with _ | _ | _ | _ | _ | _ | _ | _ | r
    · cases e; exact hs.c0
    · cases e; exact hs.c1
    · cases e; exact hs.c2
    · cases e; exact hs.c3
    · cases e; exact hs.c4
    · cases e; exact hs.c5
    · cases e; exact hs.c6
    · cases e; exact hs.c7
    · omega
  · exact ⟨fun _ => .slice none 0 0, fun i hi => absurd hi (by omega), fun h => absurd h hn⟩
/-- The row as it was copied. -/
theorem halfSnap_start {w1 : World} {base n : Nat} {v : Value} {f : Nat → SnapD} {cv : Nat → Value} (hown : w1.ownsRow base 46 8 v n (clSnap f cv n)) (L : Nat) (hL : w1.heap.size ≤ L) : ∃ bs a c, v = .slice a n c ∧ n ≤ c ∧ (0 < n → a = some ⟨bs, 0, none⟩ ∧ base ≤ bs ∧ bs < w1.heap.size) ∧ HalfSnap w1 bs L n 0 f (fun _ => 0) cv cv := by
  obtain ⟨a1, c1, rfl, hnc⟩ := owns_form hown
  by_cases h0 : 0 < n
  · obtain ⟨g, cap, hv, _, hg1, hg2, hcell⟩ := owns_cell hown h0
    simp only [Value.slice.injEq, true_and] at hv
    obtain ⟨rfl, rfl⟩ := hv
    refine ⟨g, _, _, rfl, hnc, fun _ => ⟨rfl, hg1, hg2⟩, fun j hj => ?_, fun j hj => absurd hj (Nat.not_lt_zero _), fun j hj => absurd hj (Nat.not_lt_zero _), fun i j hi => absurd hi (Nat.not_lt_zero _), fun _ => by omega⟩
    rw [if_neg (Nat.not_lt_zero _)]
    exact ⟨hcell _ _ (clSnap_at f cv n hj (r := 0) (by omega)), hcell _ _ (clSnap_at f cv n hj (r := 1) (by omega)), hcell _ _ (clSnap_at f cv n hj (r := 2) (by omega)), hcell _ _ (clSnap_at f cv n hj (r := 3) (by omega)), hcell _ _ (clSnap_at f cv n hj (r := 4) (by omega)), hcell _ _ (clSnap_at f cv n hj (r := 5) (by omega)), hcell _ _ (clSnap_at f cv n hj (r := 6) (by omega)), hcell _ _ (clSnap_at f cv n hj (r := 7) (by omega))⟩
  · exact ⟨0, _, _, rfl, hnc, fun h => absurd h h0, fun j hj => absurd hj (by omega), fun j hj => absurd hj (Nat.not_lt_zero _), fun j hj => absurd hj (Nat.not_lt_zero _), fun i j hi => absurd hi (Nat.not_lt_zero _), fun h => absurd h h0⟩

/-- How great the lists of what was dropped are. -/
def DeadsN (W : WorldD) : Prop := (∀ i, i < W.sn → (W.sets i).dn ≤ 1048576) ∧ ∀ i, i < W.pn → (W.snaps i).dn ≤ 1048576

end Go.Proofs.YtjpbmpjddbekgaaGreat

namespace Go.Proofs.YtjpbmpjddbekgaaGreat
open Go.RowKit
set_option linter.unusedVariables false

theorem wpList_append_run {P : Program} {w w1 : World} {ops : Array Oper} {rest : List Oper} {o : Oper} {a : Act} {Q : Exit → Act → World → Prop} (hgd : o.guard = none) (s x : Operand) (t : TypeId)
    (ho : o.op = .call { callee := .builtin .append, args := #[s, x], argTypes := #[t, t] }) (vs vx v' : Value) (hs : a.eval s = vs) (hx : a.eval x = vx) (hrun : (Builtin.append_ #[t, t] o.type #[vs, vx]).run P w = .ok v' w1)
    (h : wpList P ops Q rest (a.put o.dst v') w1) : wpList P ops Q (o :: rest) a w := by
  refine wpList_plain hgd fun K hK => ?_
  unfold Oper.wp
  simp [execOp, ho, resolve, invoke, builtin, hs, hx, hrun, Result.andThen]
  exact hK _ _ h

theorem run_copy_ptrs (w : World) (lo hi : Nat) (a : Option Addr) (n c : Nat) (f g : Nat → Int) (h : PtrsAt w lo hi (.slice a n c) n f g) (hn : n ≤ 1048576) (ty : TypeId) : ∃ a' c' kb w1,
    (Builtin.append_ #[44, 44] ty #[.slice (some ⟨w.heap.size, 0, none⟩) 0 0, .slice a n c]).run Tryz.prog (w.alloc (.cells #[] 43)) = .ok (.slice a' n c') w1 ∧ PtrsOwn w1 kb (.slice a' n c') n f g ∧ (0 < n → w.heap.size ≤ kb ∧ kb < w1.heap.size) ∧ Below w.heap.size w w1 ∧ w.heap.size < w1.heap.size := by
  obtain ⟨m1, a0, c0, hv, mc, g1⟩ := h
  simp only [Value.slice.injEq, true_and] at hv
  obtain ⟨rfl, rfl⟩ := hv
  obtain ⟨i0, hi0, hzz⟩ := Option.map_eq_some_iff.1 infoPtrT
  simp only [Prod.mk.injEq] at hzz
  obtain ⟨hz, hs, hby⟩ := hzz
  have ht : Tryz.prog.underlying 44 = some (.slice 43) := by kernel_rfl
  have hown0 : (w.alloc (.cells #[] 43)).ownsRow w.heap.size 43 2 (.slice (some ⟨w.heap.size, 0, none⟩) 0 0) 0 [] := World.ownsRow_made w #[] 0 (Nat.le_refl _) (Nat.zero_le _) (by simp)
  have hba := below_alloc w (.cells #[] 43)
  by_cases h0 : 0 < n
  · obtain ⟨b, off, rfl, _, _, hc⟩ := g1 h0
    have hadd : ∀ j, (⟨b, off, none⟩ : Addr).add j = ⟨b, off + j, none⟩ := fun j => by unfold Addr.add; split <;> simp_all
    obtain ⟨v', w1, hr, r1, r2, _⟩ := run_append_own (P := Tryz.prog) (w.alloc (.cells #[] 43)) w.heap.size 44 ty 43 i0 (.agg #[.int .i64 0, .int .i64 0]) 2 16 ht hi0 hz hs hby rfl (by decide) _ 0 [] hown0 ⟨b, off, none⟩ n c (kc f g n) (kc_len f g n) (fun j u hj => by
        have := kc_cells hc j u hj
        rw [hadd] at this ⊢
        exact (hba.cell (lt_of_cell this)).trans this) (kc_one f g n) (by unfold maxLen; omega) (by omega) (by simp)
    have hown2 : w1.ownsRow w.heap.size 43 2 v' n (kc f g n) := by simpa using r1
    obtain ⟨kb, hp, hk⟩ := ptrs_of_owns m1 hown2
    obtain ⟨_, a', c', rfl, _⟩ := id hp
    have hb1 : Below w.heap.size w w1 := hba.grown r2 (by simp) (fun q hq => by have := hown0.lt q hq; omega)
    exact ⟨a', c', kb, w1, hr, hp, hk, hb1, by have := hk h0; omega⟩
  · obtain rfl : n = 0 := by omega
    have hr := run_append_zero (P := Tryz.prog) (w := w.alloc (.cells #[] 43)) w.heap.size 44 ty 43 i0 2 c a ht hi0 _ 0 [] hown0
    exact ⟨_, 0, 0, _, hr, ⟨Nat.zero_le _, _, 0, rfl, Nat.le_refl _, fun h => absurd h (Nat.lt_irrefl _)⟩, fun h => absurd h (Nat.lt_irrefl _), hba, by simp⟩

end Go.Proofs.YtjpbmpjddbekgaaGreat

namespace Go.Proofs.YtjpbmpjddbekgaaGreat
open Go.RowKit Go.Maps
set_option linter.unusedVariables false

def zeroSetD : SetD := ⟨⟨#[]⟩, 0, 0, 0, 0, 0, fun _ => 0, fun _ => 0⟩
open Classical in
/-- The set of a name, or none. -/
noncomputable def setAt (W : WorldD) (x : ByteArray) : SetD := if h : ∃ k, SetNo W x k then W.sets h.choose else zeroSetD
theorem setAt_at {W : WorldD} {x : ByteArray} {k : Nat} (h : SetNo W x k) : setAt W x = W.sets k := by
  have hx : ∃ k, SetNo W x k := ⟨k, h⟩
  unfold setAt
  rw [dif_pos hx, hx.choose_spec.uniq h]
theorem setAt_no {W : WorldD} {x : ByteArray} (h : ∀ k, k < W.sn → (W.sets k).name ≠ x) : setAt W x = zeroSetD := by
  unfold setAt
  rw [dif_neg]
  rintro ⟨k, hk⟩
  exact h k hk.1 hk.2.1
theorem setNo_of {W : WorldD} {x : ByteArray} : ∀ {n : Nat}, n ≤ W.sn → (∃ i, i < n ∧ (W.sets i).name = x) → ∃ k, SetNo W x k
  | 0, _, ⟨i, hi, _⟩ => absurd hi (Nat.not_lt_zero _)
  | n + 1, hn, ⟨i, hi, e⟩ => by
    by_cases hx : ∃ j, j < n ∧ (W.sets j).name = x
    · exact setNo_of (by omega) hx
    · have : i = n := by
        by_cases h : i = n
        · exact h
        · exact absurd ⟨i, by omega, e⟩ hx
      subst this
      exact ⟨i, by omega, e, fun j hj e2 => hx ⟨j, hj, e2⟩⟩
/-- No two sets have one name. -/
def NamesDist (W : WorldD) : Prop := ∀ i, i < W.sn → ∀ j, j < i → (W.sets j).name ≠ (W.sets i).name
theorem SpecNames.rise {W : WorldD} (h : SpecNames W) : ∀ i, i < W.sn → ∀ j, j < i → Rises (W.sets j).name (W.sets i).name
  | 0, _, j, hj => absurd hj (Nat.not_lt_zero _)
  | i + 1, hi, j, hj => by
    have h1 : Rises (W.sets i).name (W.sets (i + 1)).name := (h.2.2.2.2.1 (i + 1) hi).2.1 (by omega)
    by_cases e : j = i
    · subst e; exact h1
    · exact bl_trans _ _ _ (SpecNames.rise h i (by omega) j (by omega)) h1
theorem SpecNames.dist {W : WorldD} (h : SpecNames W) : NamesDist W := fun i hi j hj e => by
  have := h.rise i hi j hj
  unfold Rises at this
  rw [e, bl_irrefl] at this
  exact absurd this (by simp)
theorem setN_one (f : Nat → SetD) : ∀ {n i : Nat}, i < n → setN (f i) ≤ setsN f n
  | n + 1, i, h => by
    show setN (f i) ≤ setsN f n + setN (f n)
    by_cases e : i = n
    · subst e; omega
    · have := setN_one f (show i < n by omega); omega
theorem snapN_one (f : Nat → SnapD) : ∀ {n i : Nat}, i < n → snapN (f i) ≤ snapsN f n
  | n + 1, i, h => by
    show snapN (f i) ≤ snapsN f n + snapN (f n)
    by_cases e : i = n
    · subst e; omega
    · have := snapN_one f (show i < n by omega); omega
theorem worldN_deads {W : WorldD} (h : worldN W ≤ 1048576) : DeadsN W := by
  unfold worldN at h
  refine ⟨fun i hi => ?_, fun i hi => ?_⟩
  · have := setN_one W.sets hi; unfold setN at this; omega
  · have := snapN_one W.snaps hi; unfold snapN at this; omega
open Classical in
noncomputable def snapAns (W : WorldD) (x : Int) : SnapD := if SpecW W then aheadOf W x else zeroSnap
open Classical in
noncomputable def setAns (W : WorldD) (x : ByteArray) : SetD := if SpecW W then setAt W x else zeroSetD
theorem snapAns_yes {W : WorldD} {x : Int} (h : SpecW W) : snapAns W x = aheadOf W x := if_pos h
theorem snapAns_no {W : WorldD} {x : Int} (h : ¬ SpecW W) : snapAns W x = zeroSnap := if_neg h
theorem setAns_yes {W : WorldD} {x : ByteArray} (h : SpecW W) : setAns W x = setAt W x := if_pos h
theorem setAns_no {W : WorldD} {x : ByteArray} (h : ¬ SpecW W) : setAns W x = zeroSetD := if_neg h
theorem snapAns_none {W : WorldD} {x : Int} (h : ∀ k, k < W.pn → (W.snaps k).id ≠ x) : snapAns W x = zeroSnap := by
  by_cases hS : SpecW W
  · rw [snapAns_yes hS, aheadOf_no h]
  · exact snapAns_no hS
theorem setAns_none {W : WorldD} {x : ByteArray} (h : ∀ k, k < W.sn → (W.sets k).name ≠ x) : setAns W x = zeroSetD := by
  by_cases hS : SpecW W
  · rw [setAns_yes hS, setAt_no h]
  · exact setAns_no hS
theorem setAns_long {W : WorldD} {x : ByteArray} (h : 8000 < x.size) : setAns W x = zeroSetD := by
  by_cases hS : SpecW W
  · refine setAns_none (fun k hk e => ?_)
    have := (hS.names.2.2.2.2.1 k hk).1.2.1
    rw [e] at this
    omega
  · exact setAns_no hS
theorem aheadOf_dn {W : WorldD} (h : DeadsN W) (x : Int) : (aheadOf W x).dn ≤ 1048576 := by
  by_cases hx : ∃ k, SnapNo W x k
  · obtain ⟨k, hk⟩ := hx
    rw [aheadOf_at hk]; exact h.2 k hk.1
  · have : aheadOf W x = zeroSnap := by unfold aheadOf; rw [dif_neg hx]
    rw [this]; exact Nat.zero_le _
theorem setAt_dn {W : WorldD} (h : DeadsN W) (x : ByteArray) : (setAt W x).dn ≤ 1048576 := by
  by_cases hx : ∃ k, SetNo W x k
  · obtain ⟨k, hk⟩ := hx
    rw [setAt_at hk]; exact h.1 k hk.1
  · have : setAt W x = zeroSetD := by unfold setAt; rw [dif_neg hx]
    rw [this]; exact Nat.zero_le _
/-- The answer is a snapshot, what it dropped in new memory. -/
def NewSnap (s : SnapD) (w : World) (e : Ending) (w' : World) : Prop := ∃ v b, e = .returned (snapV v s) ∧ PtrsOwn w' b v s.dn s.ds s.db ∧ (0 < s.dn → w.heap.size ≤ b ∧ b < w'.heap.size) ∧ Below w.heap.size w w'
def NewSet (s : SetD) (w : World) (e : Ending) (w' : World) : Prop := ∃ v b, e = .returned (setV v s) ∧ PtrsOwn w' b v s.dn s.ds s.db ∧ (0 < s.dn → w.heap.size ≤ b ∧ b < w'.heap.size) ∧ Below w.heap.size w w'
theorem newSnap_zero {w w' : World} (h : Below w.heap.size w w') : NewSnap zeroSnap w (.returned (.agg #[.int .i64 0, .string ⟨#[]⟩, .string ⟨#[]⟩, .int .i64 0, .int .i64 0, .int .i64 0, .int .i64 0, .slice none 0 0])) w' :=
  ⟨.slice none 0 0, 0, rfl, ⟨Nat.zero_le _, none, 0, rfl, Nat.le_refl _, fun h => absurd h (Nat.lt_irrefl _)⟩, fun h => absurd h (Nat.lt_irrefl _), h⟩
theorem newSet_zero {w w' : World} (h : Below w.heap.size w w') : NewSet zeroSetD w (.returned (.agg #[.string ⟨#[]⟩, .int .i64 0, .int .i64 0, .int .i64 0, .int .i64 0, .slice none 0 0])) w' :=
  ⟨.slice none 0 0, 0, rfl, ⟨Nat.zero_le _, none, 0, rfl, Nat.le_refl _, fun h => absurd h (Nat.lt_irrefl _)⟩, fun h => absurd h (Nat.lt_irrefl _), h⟩
/-- What is found at a name. -/
theorem setNames_look {W : WorldD} {w : World} {lo hi : Nat} {vd : Nat → Value} (hD : NamesDist W) (hd : SetDeads w lo hi W.sn W.sets vd) (x : ByteArray) : ∃ a c, (putD (fun i => keyS (W.sets i).name) (fun i => setV (vd i) (W.sets i)) W.sn).atKey (keyS x) (.held (.agg #[.string ⟨#[]⟩, .int .i64 0, .int .i64 0, .int .i64 0, .int .i64 0, .slice none 0 0])) = .held (setV (.slice a (setAt W x).dn c) (setAt W x)) ∧ PtrsAt w lo hi (.slice a (setAt W x).dn c) (setAt W x).dn (setAt W x).ds (setAt W x).db := by
  have hk : KeysOk (fun i => keyS (W.sets i).name) := fun i => keyS_key _
  by_cases hx : ∃ k, SetNo W x k
  · obtain ⟨k, hk'⟩ := hx
    rw [setAt_at hk']
    have hp := hd k hk'.1
    obtain ⟨_, a, c, hv, _⟩ := id hp
    refine ⟨a, c, ?_, by rw [← hv]; exact hp⟩
    have := putD_at hk (fun i => setV (vd i) (W.sets i)) (.held (.agg #[.string ⟨#[]⟩, .int .i64 0, .int .i64 0, .int .i64 0, .int .i64 0, .slice none 0 0])) W.sn k hk'.1 (fun j h1 h2 e => hD j h2 k h1 (keyS_inj e).symm)
    rw [hk'.2.1] at this
    rw [this, hv]
  · have e : setAt W x = zeroSetD := by unfold setAt; rw [dif_neg hx]
    rw [e]
    refine ⟨none, 0, ?_, ⟨Nat.zero_le _, none, 0, rfl, Nat.le_refl _, fun h => absurd h (by simp [zeroSetD])⟩⟩
    refine putD_none hk _ (fun i hi' e2 => ?_) _
    exact hx (setNo_of (Nat.le_refl _) ⟨i, hi', keyS_inj e2⟩)

end Go.Proofs.YtjpbmpjddbekgaaGreat
