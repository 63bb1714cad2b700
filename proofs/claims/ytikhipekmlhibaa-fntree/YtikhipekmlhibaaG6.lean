/- Variables that hold own pools, and what is handed back beside a code: a pool, a pointer and a number in one variable. -/
import Derived.Test.YtikhipekmlhibaaG4
import Derived.Test.YtikhipekmlhibaaG2
import Derived.Laws.CopyOwn
import Derived.Deep.RegionLaw
import Derived.Deep.WholeRow
namespace Go.Proofs.Ytikhipekmlhibaa
open Go.RowKit
set_option linter.unusedVariables false

/-- A variable that holds a pool of its own, in blocks from lo to hi. -/
structure PoolVar (w : World) (b lo hi : Nat) (v0 v1 : Value) (q : PoolD) : Prop where
  box : Box2 w b v0 v1
  own : PoolOwn w lo hi v0 v1 q

theorem PoolVar.below {w w' : World} {b lo hi : Nat} {v0 v1 : Value} {q : PoolD} (h : PoolVar w b lo hi v0 v1 q) (t : Below w.heap.size w w') : PoolVar w' b lo hi v0 v1 q := ⟨h.box.below t, h.own.below t⟩
theorem PoolVar.turned {S : Nat → Prop} {w w' : World} {b lo hi : Nat} {v0 v1 : Value} {q : PoolD} (h : PoolVar w b lo hi v0 v1 q) (t : Turned S w w') (hb : ¬ S b) (hs : ∀ k, S k → k < lo ∨ hi ≤ k) : PoolVar w' b lo hi v0 v1 q := ⟨h.box.turned t hb, h.own.turned t hs⟩

theorem poolVar_new {p : PoolD} {w1 w2 : World} {s0 s1 : Value} {t : TypeId} (ho : PoolOwn w2 w1.heap.size w2.heap.size s0 s1 p) (hb : Below w1.heap.size w1 w2) :
    PoolVar (w2.alloc (.cells #[s0, s1] t)) w2.heap.size w1.heap.size w2.heap.size s0 s1 p ∧ w1.heap.size ≤ w2.heap.size ∧ w2.heap.size < (w2.alloc (.cells #[s0, s1] t)).heap.size ∧ Below w1.heap.size w1 (w2.alloc (.cells #[s0, s1] t)) :=
  ⟨⟨Box2.new _ _ _ _, ho.below (below_alloc _ _)⟩, hb.size, by rw [World.size_alloc]; exact Nat.lt_succ_self _, below_next hb (below_alloc _ _)⟩

theorem slotsN_le {f g : Nat → SlotD} (h : ∀ i, slotN (f i) ≤ slotN (g i)) : ∀ n, slotsN f n ≤ slotsN g n
  | 0 => Nat.le_refl _
  | n + 1 => Nat.add_le_add (slotsN_le h n) (h n)

/-- A variable of five cells. -/
def Box5 (w : World) (b : Nat) (v0 v1 v2 v3 v4 : Value) : Prop := Cell w b 0 v0 ∧ Cell w b 1 v1 ∧ Cell w b 2 v2 ∧ Cell w b 3 v3 ∧ Cell w b 4 v4
theorem Box5.below {w w' : World} {b : Nat} {v0 v1 v2 v3 v4 : Value} (h : Box5 w b v0 v1 v2 v3 v4) (t : Below w.heap.size w w') : Box5 w' b v0 v1 v2 v3 v4 := ⟨h.1.below t, h.2.1.below t, h.2.2.1.below t, h.2.2.2.1.below t, h.2.2.2.2.below t⟩
theorem Box5.turned {S : Nat → Prop} {w w' : World} {b : Nat} {v0 v1 v2 v3 v4 : Value} (h : Box5 w b v0 v1 v2 v3 v4) (t : Turned S w w') (hs : ¬ S b) : Box5 w' b v0 v1 v2 v3 v4 := ⟨h.1.turned t hs, h.2.1.turned t hs, h.2.2.1.turned t hs, h.2.2.2.1.turned t hs, h.2.2.2.2.turned t hs⟩
theorem Box5.new (w : World) (v0 v1 v2 v3 v4 : Value) (t : TypeId) : Box5 (w.alloc (.cells #[v0, v1, v2, v3, v4] t)) w.heap.size v0 v1 v2 v3 v4 := by
  have hb : (w.alloc (.cells #[v0, v1, v2, v3, v4] t)).heap[w.heap.size]? = some (.cells #[v0, v1, v2, v3, v4] t) := heap_alloc_new _ _
  exact ⟨cell_of_block hb rfl, cell_of_block hb rfl, cell_of_block hb rfl, cell_of_block hb rfl, cell_of_block hb rfl⟩
/-- The five cells written. -/
abbrev put5 (w : World) (b : Nat) (u0 u1 u2 u3 u4 : Value) : World := ((((w.setCell ⟨b, 0, none⟩ u0).setCell ⟨b, 1, none⟩ u1).setCell ⟨b, 2, none⟩ u2).setCell ⟨b, 3, none⟩ u3).setCell ⟨b, 4, none⟩ u4
theorem Box5.put {w : World} {b : Nat} {v0 v1 v2 v3 v4 : Value} (h : Box5 w b v0 v1 v2 v3 v4) (u0 u1 u2 u3 u4 : Value) : Box5 (put5 w b u0 u1 u2 u3 u4) b u0 u1 u2 u3 u4 := by
  obtain ⟨h0, h1, h2, h3, h4⟩ := h
  refine ⟨?_, ?_, ?_, ?_, ?_⟩
  · exact ((((h0.set _).other _ (Or.inr (by omega))).other _ (Or.inr (by omega))).other _ (Or.inr (by omega))).other _ (Or.inr (by omega))
  · exact ((((h1.other _ (Or.inr (by omega))).set _).other _ (Or.inr (by omega))).other _ (Or.inr (by omega))).other _ (Or.inr (by omega))
  · exact ((((h2.other _ (Or.inr (by omega))).other _ (Or.inr (by omega))).set _).other _ (Or.inr (by omega))).other _ (Or.inr (by omega))
  · exact ((((h3.other _ (Or.inr (by omega))).other _ (Or.inr (by omega))).other _ (Or.inr (by omega))).set _).other _ (Or.inr (by omega))
  · exact ((((h4.other _ (Or.inr (by omega))).other _ (Or.inr (by omega))).other _ (Or.inr (by omega))).other _ (Or.inr (by omega))).set _
theorem Turned.put5 (w : World) (b : Nat) (u0 u1 u2 u3 u4 : Value) : Turned (fun k => k = b) w (put5 w b u0 u1 u2 u3 u4) :=
  ((((Turned.put w b 0 u0).trans (Turned.put _ b 1 u1)).trans (Turned.put _ b 2 u2)).trans (Turned.put _ b 3 u3)).trans (Turned.put _ b 4 u4)

/-- A pool, a pointer and a code. -/
structure OutD where
  pool : PoolD
  ps : Int
  pb : Int
  code : Int

/-- The answer is a new one that holds what o tells. -/
def NewOut (o : OutD) (w : World) (e : Ending) (w' : World) : Prop := ∃ v0 v1, e = .returned (.agg #[v0, v1, .int .i64 o.ps, .int .i64 o.pb, .int .i64 o.code]) ∧ PoolOwn w' w.heap.size w'.heap.size v0 v1 o.pool ∧ Below w.heap.size w w'

theorem none_own {w : World} {lo hi : Nat} : PoolOwn w lo hi (.slice none 0 0) (.slice none 0 0) (newP 0) :=
  newP_own (g := 0) (Nat.zero_le _) ⟨none, 0, rfl, Nat.le_refl _, fun h => absurd h (Nat.lt_irrefl _)⟩ (fun i h => absurd h (Nat.not_lt_zero _))

/-- A variable that holds one. -/
structure OutVar (w : World) (b lo hi : Nat) (v0 v1 : Value) (o : OutD) : Prop where
  box : Box5 w b v0 v1 (.int .i64 o.ps) (.int .i64 o.pb) (.int .i64 o.code)
  own : PoolOwn w lo hi v0 v1 o.pool
theorem OutVar.below {w w' : World} {b lo hi : Nat} {v0 v1 : Value} {o : OutD} (h : OutVar w b lo hi v0 v1 o) (t : Below w.heap.size w w') : OutVar w' b lo hi v0 v1 o := ⟨h.box.below t, h.own.below t⟩
theorem OutVar.turned {S : Nat → Prop} {w w' : World} {b lo hi : Nat} {v0 v1 : Value} {o : OutD} (h : OutVar w b lo hi v0 v1 o) (t : Turned S w w') (hb : ¬ S b) (hs : ∀ k, S k → k < lo ∨ hi ≤ k) : OutVar w' b lo hi v0 v1 o := ⟨h.box.turned t hb, h.own.turned t hs⟩

end Go.Proofs.Ytikhipekmlhibaa

namespace Go.Proofs.Ytikhipekmlhibaa
open Go.RowKit
set_option linter.unusedVariables false

theorem sc_cells {w : World} {b off n : Nat} {f : Nat → SlotD} {cv : Nat → Value} (h : ∀ i, i < n → w.cell? ⟨b, off + i * 3, none⟩ = some (.int .i64 (f i).birth) ∧ w.cell? ⟨b, off + i * 3 + 1, none⟩ = some (cv i) ∧ w.cell? ⟨b, off + i * 3 + 2, none⟩ = some (.string (f i).data)) :
    ∀ j u, (sc f cv n)[j]? = some u → w.cell? ⟨b, off + j, none⟩ = some u := by
  intro j u hj
  have hlt : j < n * 3 := by
    have := (List.getElem?_eq_some_iff.1 hj).1
    rwa [sc_len] at this
  obtain ⟨c0, c1, c2⟩ := h (j / 3) (by omega)
  have e := sc_at f cv n (j / 3) (j % 3) (by omega) (by omega)
  rw [show j / 3 * 3 + j % 3 = j by omega, hj] at e
  rcases (by omega : j % 3 = 0 ∨ j % 3 = 1 ∨ j % 3 = 2) with hm | hm | hm
  · rw [hm] at e
    simp at e
    subst e
    rw [show off + j = off + j / 3 * 3 by omega]
    exact c0
  · rw [hm] at e
    simp at e
    subst e
    rw [show off + j = off + j / 3 * 3 + 1 by omega]
    exact c1
  · rw [hm] at e
    simp at e
    subst e
    rw [show off + j = off + j / 3 * 3 + 2 by omega]
    exact c2

theorem SlotsAt.values {w : World} {lo hi : Nat} {a : Option Addr} {n c : Nat} {f : Nat → SlotD} (h : SlotsAt w lo hi (.slice a n c) n f) :
    ∃ cv : Nat → Value, (∀ i, i < n → SlotAt w lo hi (.int .i64 (f i).birth) (cv i) (.string (f i).data) (f i)) ∧
      (0 < n → ∃ b off, a = some ⟨b, off, none⟩ ∧ lo ≤ b ∧ b < hi ∧ ∀ j u, (sc f cv n)[j]? = some u → w.cell? ⟨b, off + j, none⟩ = some u) := by
  obtain ⟨_, a0, c0, h0, _, g⟩ := h
  simp only [Value.slice.injEq, true_and] at h0
  obtain ⟨rfl, rfl⟩ := h0
  by_cases hn : 0 < n
  · obtain ⟨b, off, ha, hb1, hb2, hc⟩ := g hn
    have hex : ∀ i, ∃ x, i < n → (w.cell? ⟨b, off + i * 3, none⟩ = some (.int .i64 (f i).birth) ∧ w.cell? ⟨b, off + i * 3 + 1, none⟩ = some x ∧ w.cell? ⟨b, off + i * 3 + 2, none⟩ = some (.string (f i).data)) ∧ SlotAt w lo hi (.int .i64 (f i).birth) x (.string (f i).data) (f i) := fun i => by
      by_cases hi : i < n
      · obtain ⟨v0, v1, v2, q0, q1, q2, hs⟩ := hc i hi
        have hs' := hs
        obtain ⟨rfl, _, rfl, _⟩ := hs'
        exact ⟨v1, fun _ => ⟨⟨q0, q1, q2⟩, hs⟩⟩
      · exact ⟨.slice none 0 0, fun h => absurd h hi⟩
    obtain ⟨cv, hcv⟩ := Classical.axiomOfChoice hex
    exact ⟨cv, fun i hi => (hcv i hi).2, fun _ => ⟨b, off, ha, hb1, hb2, sc_cells fun i hi => (hcv i hi).1⟩⟩
  · exact ⟨fun _ => .slice none 0 0, fun i hi => absurd hi (by omega), fun h => absurd h hn⟩

theorem SlotAt.form {w : World} {lo hi : Nat} {v0 v1 v2 : Value} {s : SlotD} (h : SlotAt w lo hi v0 v1 v2 s) : ∃ ka kc, v1 = .slice ka s.kn kc := by
  obtain ⟨_, ⟨_, ka, kc, h, _⟩, _⟩ := h
  exact ⟨ka, kc, h⟩

/-- A row of n slots that was copied: the first k have Kids of their own, the others those of the row that was copied. -/
structure Half (wr : World) (bs n k : Nat) (f : Nat → SlotD) (kb : Nat → Nat) (kv cv : Nat → Value) : Prop where
  cells : ∀ j, j < n → Cell wr bs (j * 3) (.int .i64 (f j).birth) ∧ Cell wr bs (j * 3 + 1) (if j < k then kv j else cv j) ∧ Cell wr bs (j * 3 + 2) (.string (f j).data)
  kids : ∀ j, j < k → PtrsOwn wr (kb j) (kv j) (f j).kn (f j).ks (f j).kb
  place : ∀ j, j < k → 0 < (f j).kn → bs < kb j ∧ kb j < wr.heap.size
  apart : KidsApart kb k f

theorem Half.below {wr w' : World} {bs n k : Nat} {f : Nat → SlotD} {kb : Nat → Nat} {kv cv : Nat → Value} (h : Half wr bs n k f kb kv cv) (t : Below wr.heap.size wr w') : Half w' bs n k f kb kv cv :=
  ⟨fun j hj => ⟨(h.cells j hj).1.below t, (h.cells j hj).2.1.below t, (h.cells j hj).2.2.below t⟩, fun j hj => (h.kids j hj).below t, fun j hj h0 => by have := h.place j hj h0; have := t.size; omega, h.apart⟩

theorem Half.next {wr w1 : World} {bs n k b : Nat} {f : Nat → SlotD} {kb : Nat → Nat} {kv cv : Nat → Value} {v : Value} (h : Half wr bs n k f kb kv cv) (hk : k < n) (hbs : bs < wr.heap.size) (t : Below wr.heap.size wr w1)
    (hp : PtrsOwn w1 b v (f k).kn (f k).ks (f k).kb) (hb : 0 < (f k).kn → wr.heap.size ≤ b ∧ b < w1.heap.size) :
    Half (((w1.setCell ⟨bs, k * 3, none⟩ (.int .i64 (f k).birth)).setCell ⟨bs, k * 3 + 1, none⟩ v).setCell ⟨bs, k * 3 + 2, none⟩ (.string (f k).data)) bs n (k + 1) f (fun j => if j = k then b else kb j) (fun j => if j = k then v else kv j) cv := by
  have h' := h.below t
  refine ⟨fun j hj => ?_, fun j hj => ?_, fun j hj h0 => ?_, fun i j hi hj hij h1 h2 => ?_⟩
  · obtain ⟨c0, c1, c2⟩ := h'.cells j hj
    by_cases e : j = k
    · subst e
      rw [if_pos (by omega), if_pos rfl]
      exact ⟨((c0.set _).other _ (Or.inr (by omega))).other _ (Or.inr (by omega)), ((c1.other _ (Or.inr (by omega))).set _).other _ (Or.inr (by omega)), ((c2.other _ (Or.inr (by omega))).other _ (Or.inr (by omega))).set _⟩
    · rw [if_neg e]
      have es : (if j < k + 1 then kv j else cv j) = if j < k then kv j else cv j := by
        by_cases e2 : j < k
        · rw [if_pos e2, if_pos (by omega)]
        · rw [if_neg e2, if_neg (by omega)]
      rw [es]
      exact ⟨((c0.other _ (Or.inr (by omega))).other _ (Or.inr (by omega))).other _ (Or.inr (by omega)), ((c1.other _ (Or.inr (by omega))).other _ (Or.inr (by omega))).other _ (Or.inr (by omega)), ((c2.other _ (Or.inr (by omega))).other _ (Or.inr (by omega))).other _ (Or.inr (by omega))⟩
  · by_cases e : j = k
    · subst e
      simp only [if_true]
      refine ((hp.turned (Turned.put _ _ _ _) ?_).turned (Turned.put _ _ _ _) ?_).turned (Turned.put _ _ _ _) ?_
      all_goals exact fun h0 hx => by have := hb h0; omega
    · simp only [if_neg e]
      refine (((h'.kids j (by omega)).turned (Turned.put _ _ _ _) ?_).turned (Turned.put _ _ _ _) ?_).turned (Turned.put _ _ _ _) ?_
      all_goals exact fun h0 hx => by have := h'.place j (by omega) h0; omega
  · simp only [World.size_setCell]
    by_cases e : j = k
    · subst e
      rw [if_pos rfl]
      have := hb h0
      omega
    · rw [if_neg e]
      have := h'.place j (by omega) h0
      omega
  · show (if i = k then b else kb i) ≠ (if j = k then b else kb j)
    by_cases e1 : i = k
    · by_cases e2 : j = k
      · omega
      · rw [if_pos e1, if_neg e2]
        subst e1
        have := hb h1
        have := h.place j (by omega) h2
        omega
    · by_cases e2 : j = k
      · rw [if_neg e1, if_pos e2]
        subst e2
        have := hb h2
        have := h.place i (by omega) h1
        omega
      · rw [if_neg e1, if_neg e2]
        exact h.apart i j (by omega) (by omega) hij h1 h2

theorem Half.own {wr : World} {bs n : Nat} {f : Nat → SlotD} {kb : Nat → Nat} {kv cv : Nat → Value} {a : Option Addr} {c : Nat} (h : Half wr bs n n f kb kv cv) (hm : n ≤ maxLen) (ha : 0 < n → a = some ⟨bs, 0, none⟩) (hc : n ≤ c) (hs : ∀ j, j < n → (f j).data.size ≤ maxLen) : SlotsOwn wr bs kb kv (.slice a n c) n f :=
  ⟨hm, a, c, rfl, hc, fun h0 => ⟨0, ha h0, fun i hi => by
    obtain ⟨c0, c1, c2⟩ := h.cells i hi
    rw [if_pos hi] at c1
    rw [Nat.zero_add]
    exact ⟨c0, c1, c2, h.kids i hi, hs i hi, fun hk e => by have := h.place i hi hk; omega⟩⟩⟩

set_option maxRecDepth 20000 in
set_option maxHeartbeats 1000000 in
theorem cloneSlots_any (v : Value) (n lo hi : Nat) (f : Nat → SlotD) (w : World) (h1 : SlotsAt w lo hi v n f) (hn : n ≤ 1048576) (hk : ∀ j, j < n → (f j).kn ≤ 1048576) :
    Calls Try.prog 57 #[v] w fun e w' => ∃ v' bs kb kv, e = .returned v' ∧ SlotsOwn w' bs kb kv v' n f ∧ KidsApart kb n f ∧ (∀ k, SlotsB bs kb n f k → w.heap.size ≤ k ∧ k < w'.heap.size) ∧ Below w.heap.size w w' := by
  have Hm := hide h1.1
  have q1 := h1
  obtain ⟨_, a, c, rfl, _, _⟩ := h1
  obtain ⟨cv, hcv, hsrc⟩ := q1.values
  have Hcv := hide hcv
  have Hk := hide hk
  have hsrc' : 0 < n → ∃ b off, a = some ⟨b, off, none⟩ ∧ ∀ j u, (sc f cv n)[j]? = some u → w.cell? ⟨b, off + j, none⟩ = some u := fun h0 => by
    obtain ⟨b, off, h2, _, _, h3⟩ := hsrc h0
    exact ⟨b, off, h2, h3⟩
  have hone := sc_one f cv n (fun i hi => by obtain ⟨ka, kc, e⟩ := (hcv i hi).form; rw [e]; rfl)
  clear hcv hk q1 hsrc
  go_enter Try.func57, Try.ntmps57
  go_wp2_with fail
  refine (cloneSlots_row a n c (sc f cv n) w (sc_len _ _ _) hone hn hsrc').mono ?_
  rintro e w1 ⟨v', rfl, hown, hb1, _⟩
  obtain ⟨a1, c1, rfl, hnc⟩ := owns_form hown
  clear hone hsrc'
  have hbs : ∃ bs, (0 < n → a1 = some ⟨bs, 0, none⟩ ∧ w.heap.size ≤ bs ∧ bs < w1.heap.size) ∧ Half w1 bs n 0 f (fun _ => 0) cv cv := by
    by_cases h0 : 0 < n
    · obtain ⟨g, cap, hv, _, hg1, hg2, hcell⟩ := owns_cell hown h0
      simp only [Value.slice.injEq, true_and] at hv
      obtain ⟨rfl, rfl⟩ := hv
      refine ⟨g, fun _ => ⟨rfl, hg1, hg2⟩, fun j hj => ⟨?_, ?_, ?_⟩, fun j hj => absurd hj (Nat.not_lt_zero _), fun j hj => absurd hj (Nat.not_lt_zero _), fun i j hi => absurd hi (Nat.not_lt_zero _)⟩
      · have := hcell (j * 3 + 0) _ (sc_at f cv n j 0 hj (by omega)); simpa using this
      · have := hcell (j * 3 + 1) _ (sc_at f cv n j 1 hj (by omega)); simpa using this
      · have := hcell (j * 3 + 2) _ (sc_at f cv n j 2 hj (by omega)); simpa using this
    · exact ⟨0, fun h => absurd h h0, fun j hj => absurd hj (by omega), fun j hj => absurd hj (Nat.not_lt_zero _), fun j hj => absurd hj (Nat.not_lt_zero _), fun i j hi => absurd hi (Nat.not_lt_zero _)⟩
  obtain ⟨bs, hbs, hhalf⟩ := hbs
  have Hbs := hide hbs
  have Hhalf := hide hhalf
  clear hown hbs hhalf
  go_wp2
  go_loopw [4, 5, 10] (fun _ _ i wr => ∃ (k : Nat) (kb : Nat → Nat) (kv : Nat → Value), k ≤ n ∧ i = .int .i64 k ∧ Half wr bs n k f kb kv cv ∧ Below w.heap.size w wr ∧ w1.heap.size ≤ wr.heap.size) (fun _ _ i _ => n - (intOf i).toNat)
  case atStart => exact ⟨0, _, _, Nat.zero_le _, rfl, Hhalf.out, hb1, Nat.le_refl _⟩
  case round =>
    obtain ⟨k, kb, kv, hk, rfl, hh, hb, hz⟩ := hrel
    have Hh := hide hh
    clear hh
    by_cases hlt : k < n
    · have hlt' : (k : Int) < (n : Int) := by omega
      obtain ⟨rfl, hg1, hg2⟩ := Hbs.out (by omega)
      obtain ⟨ka, kc, hcv⟩ := (Hcv.out k hlt).form
      have Hsl : Hid (SlotAt wr lo hi (.int .i64 (f k).birth) (.slice ka (f k).kn kc) (.string (f k).data) (f k)) := by
        have := (Hcv.out k hlt).below hb
        rw [hcv] at this
        exact this
      obtain ⟨⟨q0, r0⟩, q1, ⟨q2, r2⟩⟩ := Hh.out.cells k hlt
      rw [if_neg (by omega), hcv] at q1
      obtain ⟨q1, r1⟩ := q1
      go_wp2_with fail
      have ha := below_alloc wr (.cells #[.int .i64 (f k).birth, .slice ka (f k).kn kc, .string (f k).data] 29)
      refine (cloneSlot_any _ _ _ lo hi (f k) _ (Hsl.out.below ha) (Hk.out k hlt)).mono ?_
      rintro e w2 ⟨nv, nb, rfl, hp2, hpl2, hb2⟩
      obtain ⟨_, na, nc, rfl, _⟩ := id hp2
      have hbx := below_next ha hb2
      have Hn2 := hide (Hh.out.next hlt (by omega) hbx hp2 (fun h0 => by have := hpl2 h0; rw [World.size_alloc] at this; omega))
      have hbn := below_next hb hbx
      have hzn := hbx.size
      clear q0 q1 q2 r0 r1 r2
      obtain ⟨⟨q0, r0⟩, q1, ⟨q2, r2⟩⟩ := (Hh.out.below hbx).cells k hlt
      rw [if_neg (by omega), hcv] at q1
      obtain ⟨q1, r1⟩ := q1
      clear hp2 hpl2 hb2 ha hbx hcv
      go_wp2
      go_roundw
      case rel => exact ⟨k + 1, _, _, by omega, by go_num, Hn2.out, ((hbn.setCell hg1 _).setCell hg1 _).setCell hg1 _, by simp only [World.size_setCell]; omega⟩
      case measure => simp [intOf]; omega
    · obtain rfl : k = n := by omega
      go_wp2
      go_ret
      refine ⟨_, bs, kb, kv, rfl, Hh.out.own Hm.out (fun h0 => (Hbs.out h0).1) hnc (fun j hj => (Hcv.out j hj).2.2.2), Hh.out.apart, fun j hj => ?_, hb⟩
      rcases hj with ⟨h0, rfl⟩ | ⟨i, hi, h0, rfl⟩
      · have := Hbs.out h0; omega
      · have := Hbs.out (by omega); have := Hh.out.place i hi h0; omega

set_option maxRecDepth 20000 in
set_option maxHeartbeats 1000000 in
theorem clonePool_any (v0 v1 : Value) (lo hi : Nat) (p : PoolD) (w : World) (h1 : PoolAt w lo hi v0 v1 p) (hn : poolN p ≤ 1048576) : Calls Try.prog 59 #[.agg #[v0, v1]] w (NewPool p w) := by
  have Hp := hide h1
  obtain ⟨⟨m1, a, c, rfl, mc, g1⟩, ⟨m2, a', c', rfl, mc', g2⟩⟩ := h1
  have Hm := hide (And.intro m1 m2)
  clear g1 g2 m1 m2
  unfold poolN at hn
  have Hn : Hid (∀ j, j < p.n → (p.s j).kn ≤ 1048576) := fun j hj => by have h2 := slotN_le p.s hj; unfold slotN at h2; omega
  have hn1 : p.n ≤ 1048576 := by omega
  have hn2 : p.hn ≤ 1048576 := by omega
  clear hn
  have ha1 := below_alloc w (.cells #[.slice a p.n c, .slice a' p.hn c'] 26)
  have hba := below_next ha1 (below_alloc _ (.cells #[.slice none 0 0, .slice none 0 0] 26))
  have HB := hide ((Box2.new w (.slice a p.n c) (.slice a' p.hn c') 26).below (below_alloc _ (.cells #[.slice none 0 0, .slice none 0 0] 26)))
  have hr3 := Box2.new (w.alloc (.cells #[.slice a p.n c, .slice a' p.hn c'] 26)) (.slice none 0 0) (.slice none 0 0) 26
  rw [World.size_alloc] at hr3
  have HR := hide hr3
  clear ha1 hr3
  go_enter Try.func59, Try.ntmps59
  go_wp2_with fail
  generalize hW : (w.alloc (.cells #[.slice a p.n c, .slice a' p.hn c'] 26)).alloc (.cells #[.slice none 0 0, .slice none 0 0] 26) = W at HB HR hba ⊢
  have hz : W.heap.size = w.heap.size + 2 := by rw [← hW, World.size_alloc, World.size_alloc]
  clear hW
  obtain ⟨⟨x0, x1⟩, ⟨x2, x3⟩⟩ := HB.out
  obtain ⟨⟨y0, y1⟩, ⟨y2, y3⟩⟩ := HR.out
  go_region_held3 (fun w' => w'.cell? ⟨w.heap.size, 0, none⟩ = some (.slice a p.n c) ∧ w'.cell? ⟨w.heap.size, 1, none⟩ = some (.slice a' p.hn c')) (go_keep)
    (first
      | (go_at_call 57; refine (cloneSlots_any _ p.n lo hi p.s _ ?_ hn1 Hn.out).mono ?_; (exact Hp.out.1.below hba.drew); rintro e w1 ⟨v', bs, kb, kv, rfl, ho, hap, hpl, hb1⟩; obtain ⟨_, sa, sc', rfl, _⟩ := id ho; have hb1' := below_undrew hb1; obtain ⟨⟨z0, z1⟩, ⟨z2, z3⟩⟩ := HB.out.below hb1')
      | (go_at_call 105; refine (cloneInts_row _ _ _ (ic p.h p.hn) _ (ic_len _ _) (ic_one _ _) hn2 ?_).mono ?_; (exact news_at Hp.out.2 rfl (below_next hba hb1')); rintro e w2 ⟨v', rfl, hown, hb2, hz0⟩; obtain ⟨ia, ic', rfl, _⟩ := owns_form hown; have hb2' := below_next hb1' hb2; obtain ⟨⟨z4, z5⟩, ⟨z6, z7⟩⟩ := HB.out.below hb2'; have HR2 := hide (HR.out.below hb2'); obtain ⟨⟨z8, z9⟩, ⟨z10, z11⟩⟩ := HR.out.below hb2'))
  obtain ⟨hb, hint, hipl⟩ := ints_of_owns Hm.out.2 hown hz0
  have hz1 : W.heap.size ≤ w1.heap.size := hb1'.size
  have hz2 : w1.heap.size ≤ w2.heap.size := hb2.size
  have hpl' : ∀ k, SlotsB bs kb p.n p.s k → W.heap.size ≤ k ∧ k < w1.heap.size := hpl
  have Hpo : Hid (PoolOwn w2 (w.heap.size + 2) w2.heap.size (.slice sa p.n sc') (.slice ia p.hn ic') p) := by
    refine ⟨bs, hb, kb, kv, ho.below hb2, hap, hint, fun h0 hx => ?_, fun k hk => ?_⟩
    · have := hpl' _ hx; have := hipl h0; omega
    · rcases hk with hk | ⟨h0, rfl⟩
      · have := hpl' _ hk; omega
      · have := hipl h0; omega
  have hbw := below_next hba hb2'
  clear hint hipl hpl hpl' ho hap hown hb1 hb1' hb2 hb2'
  go_wp2
  have HR6 := HR2.out.put (.slice sa p.n sc') (.slice ia p.hn ic')
  refine bodyPost_ret (v := .agg #[.slice sa p.n sc', .slice ia p.hn ic']) (by simp [results, Try.results59, go_sem, HR6.1.1, HR6.2.1]) rfl ⟨_, _, rfl, ?_, ?_⟩
  · have t := (Turned.put w2 (w.heap.size + 1) 0 (.slice sa p.n sc')).trans (Turned.put _ (w.heap.size + 1) 1 (.slice ia p.hn ic'))
    have hz := t.size
    exact (Hpo.out.turned t (fun k hk => by omega)).wide (by omega) hz
  · exact (hbw.setCell (by show _ ≤ w.heap.size + 1; omega) _).setCell (by show _ ≤ w.heap.size + 1; omega) _

end Go.Proofs.Ytikhipekmlhibaa

namespace Go.Proofs.Ytikhipekmlhibaa
open Go.RowKit
set_option linter.unusedVariables false

theorem run_copy_sized {P : Program} (w : World) (dT sT ty elem : TypeId) (size g o dLen dCap : Nat) (a : Addr) (sLen sCap : Nat) (cur : Array Value) (t : TypeId) (cs : List Value)
    (hu : P.underlying dT = some (.slice elem)) (hs : (P.info? elem).map (·.size) = some size)
    (hg : w.heap[g]? = some (.cells cur t (0, 0))) (hn : cs.length = Nat.min sLen dLen * size)
    (hsrc : ∀ j v, cs[j]? = some v → w.cell? (a.add j) = some v) (hfit : o + cs.length ≤ cur.size) (h1 : ∀ v ∈ cs, v.oneCell' = true) :
    (Builtin.copy_ #[dT, sT] ty #[.slice (some ⟨g, o, none⟩) dLen dCap, .slice (some a) sLen sCap]).run P w =
      .ok (goInt (Nat.min sLen dLen)) (w.setRow g (cur.toList.take o ++ cs ++ cur.toList.drop (o + cs.length)).toArray) := by
  have hl := run_loadCells_list (P := P) w a cs hsrc
  have hst := run_storeCells_at P g o t cs 0 cur w hg (by simpa using hfit) h1
  cases hq : P.info? elem with
  | none => simp [hq] at hs
  | some i =>
    have hi : i.size = size := by simpa [hq] using hs
    have e : Nat.min sLen dLen * i.size = cs.length := by rw [hi, hn]
    simp [Builtin.copy_, run_underlying hu, Builtin.lenOf, Builtin.firstCells, sizeOf, typeInfo, hq, e, hl, hst]

theorem run_copy_zero {P : Program} (w : World) (dT sT ty elem : TypeId) (size : Nat) (d a : Option Addr) (dLen dCap sCap : Nat)
    (hu : P.underlying dT = some (.slice elem)) (hs : (P.info? elem).map (·.size) = some size) :
    (Builtin.copy_ #[dT, sT] ty #[.slice d dLen dCap, .slice a 0 sCap]).run P w = .ok (goInt 0) w := by
  cases hq : P.info? elem with
  | none => simp [hq] at hs
  | some i =>
    cases a with
    | none => cases d <;> simp [Builtin.copy_, run_underlying hu, Builtin.lenOf, Builtin.firstCells, sizeOf, typeInfo, hq, storeCells]
    | some a => cases d <;> simp [Builtin.copy_, run_underlying hu, Builtin.lenOf, Builtin.firstCells, sizeOf, typeInfo, hq, storeCells, loadCells, loadCellsFrom]

/-- The number in the cell j of the array of a slot's Kids. -/
def kidCell (s : SlotD) (j : Nat) : Int := if j / 2 < s.kn then (if j % 2 = 0 then s.ks (j / 2) else s.kb (j / 2)) else 0
/-- An array of sixteen numbers. -/
def arr16 (f : Nat → Int) : Array Value := ((List.range 16).map fun j => Value.int .i64 (f j)).toArray
def kidsA (s : SlotD) : Array Value := arr16 (kidCell s)

theorem arr16_size (f : Nat → Int) : (arr16 f).size = 16 := by simp [arr16]
theorem arr16_at (f : Nat → Int) {j : Nat} (h : j < 16) : (arr16 f)[j]? = some (.int .i64 (f j)) := by simp [arr16, h]
theorem arr16_one (f : Nat → Int) : (arr16 f).all (·.oneCell') = true := by
  unfold arr16
  rw [Array.all_eq_true_iff_forall_mem]
  intro v hv
  simp at hv
  obtain ⟨j, _, rfl⟩ := hv
  rfl
theorem arr16_ext {f g : Nat → Int} (h : ∀ j, j < 16 → f j = g j) : arr16 f = arr16 g := by
  unfold arr16
  congr 1
  apply List.map_congr_left
  intro j hj
  rw [h j (by simpa using hj)]

theorem infoArr : (Try.prog.info? 94).map (·.size) = some 16 := by kernel_rfl
theorem infoPtrSize : (Try.prog.info? 33).map (·.size) = some 2 := by kernel_rfl
theorem arrU : Try.prog.underlying 94 = some (.array 8 33) := by kernel_rfl

theorem three_alloc (w : World) (o1 o2 o3 : Obj) : (((w.alloc o1).alloc o2).alloc o3).heap[w.heap.size + 1]? = some o2 ∧ (((w.alloc o1).alloc o2).alloc o3).heap[w.heap.size + 1 + 1]? = some o3 ∧ w.heap.size + 1 + 1 < (((w.alloc o1).alloc o2).alloc o3).heap.size := by
  refine ⟨?_, ?_, by simp⟩
  · rw [Below.heap_alloc _ _ _ (by simp)]
    have := heap_alloc_last (w.alloc o1) o2
    rw [World.size_alloc] at this
    exact this
  · have := heap_alloc_last ((w.alloc o1).alloc o2) o3
    rw [World.size_alloc, World.size_alloc] at this
    exact this

theorem Turned.setRow (w : World) (g : Nat) (cs : Array Value) : Turned (fun k => k = g) w (w.setRow g cs) :=
  ⟨rfl, rfl, rfl, by simp [World.setRow], fun k _ hs => setRow_other w g k cs hs⟩

/-- 'copy' of a slot's Kids (eight, or none) into an array of eight, as one step of a region that draws. -/
theorem step_copy_kids {ops : Array Oper} {o : Oper} {a : Act} {w : World} {K : Act → World → Prop} {Q : Exit → Act → World → Prop} {E : Prop} (hgd : o.guard = none) (d s : Operand)
    (ho : o.op = .call { callee := .builtin .copy, args := #[d, s], argTypes := #[27, 27] })
    (g : Nat) (ka : Option Addr) (kc : Nat) (sl : SlotD) (hd : a.eval d = .slice (some ⟨g, 0, none⟩) 8 8) (hs : a.eval s = .slice ka sl.kn kc)
    (hg : w.heap[g]? = some (.cells (arr16 fun _ => 0) 94 (0, 0))) (hk : sl.kn = 0 ∨ (sl.kn = 8 ∧ ∃ b off, ka = some ⟨b, off, none⟩ ∧ ∀ i, i < sl.kn → w.cell? ⟨b, off + i * 2, none⟩ = some (.int .i64 (sl.ks i)) ∧ w.cell? ⟨b, off + i * 2 + 1, none⟩ = some (.int .i64 (sl.kb i))))
    (h : ∀ w' v, Hid (w'.heap[g]? = some (.cells (kidsA sl) 94 (0, 0))) → Turned (fun k => k = g) w w' → K (a.put o.dst v) w') :
    if Region.wanted o (yielded ops a.tmps) = true then Oper.wp Try.prog o a w K Q else E := by
  have hw : Region.wanted o (yielded ops a.tmps) = true := by simp [Region.wanted, hgd]
  rw [if_pos hw]
  have hu : Try.prog.underlying 27 = some (.slice 33) := by kernel_rfl
  rcases hk with hk | ⟨hk, b, off, rfl, hc⟩
  · rw [hk] at hs
    have hrun := run_copy_zero (P := Try.prog) w 27 27 o.type 33 2 (some ⟨g, 0, none⟩) ka 8 8 kc hu infoPtrSize
    unfold Oper.wp
    simp [execOp, ho, resolve, invoke, builtin, hd, hs, hrun, Result.andThen]
    refine h _ _ ?_ (Turned.refl _ _)
    show _ = _
    rw [hg]
    have : kidsA sl = arr16 (fun _ => 0) := arr16_ext fun j _ => by unfold kidCell; rw [if_neg (by omega)]
    rw [this]
  · rw [hk] at hs
    have hrun := run_copy_sized (P := Try.prog) w 27 27 o.type 33 2 g 0 8 8 ⟨b, off, none⟩ 8 kc (arr16 fun _ => 0) 94 (kidsA sl).toList hu infoPtrSize hg (by simp [kidsA, arr16]) (fun j v hj => by
        have hj16 : j < 16 := by
          have := (List.getElem?_eq_some_iff.1 hj).1
          simpa [kidsA, arr16_size] using this
        have e : (kidsA sl).toList[j]? = some (.int .i64 (kidCell sl j)) := by rw [Array.getElem?_toList]; exact arr16_at (kidCell sl) hj16
        rw [e] at hj
        simp only [Option.some.injEq] at hj
        subst hj
        have hadd : (⟨b, off, none⟩ : Addr).add j = ⟨b, off + j, none⟩ := by unfold Addr.add; split <;> simp_all
        rw [hadd]
        unfold kidCell
        rw [if_pos (by omega)]
        have hcj := hc (j / 2) (by omega)
        split
        · rw [show off + j = off + j / 2 * 2 by omega]; exact hcj.1
        · rw [show off + j = off + j / 2 * 2 + 1 by omega]; exact hcj.2) (by simp [kidsA, arr16]) (fun v hv => (Array.all_eq_true_iff_forall_mem.1 (arr16_one _)) v (by simpa [kidsA] using hv))
    unfold Oper.wp
    simp [execOp, ho, resolve, invoke, builtin, hd, hs, hrun, Result.andThen]
    refine h _ _ ?_ (Turned.setRow _ _ _)
    show _ = _
    rw [setRow_heap w g _ _ 94 (0, 0) hg]
    have e0 : ((arr16 fun _ => 0).toList.drop 16) = [] := List.drop_eq_nil_of_le (by simp [arr16])
    simp [kidsA, arr16_size, e0]

set_option maxRecDepth 20000 in
set_option maxHeartbeats 400000 in
theorem kidsOf_any (v0 v1 v2 : Value) (lo hi : Nat) (s : SlotD) (w : World) (h1 : SlotAt w lo hi v0 v1 v2 s) (hk : s.kn = 0 ∨ s.kn = 8) :
    Calls Try.prog 106 #[.agg #[v0, v1, v2]] w fun e w' => e = .returned (.agg (kidsA s)) ∧ Below w.heap.size w w' := by
  obtain ⟨rfl, ⟨m1, a, c, rfl, mc, g1⟩, rfl, m2⟩ := h1
  unfold maxLen at m1 m2
  have G1 : Hid (0 < s.kn → ∃ b off, a = some ⟨b, off, none⟩ ∧ lo ≤ b ∧ b < hi ∧ ∀ i, i < s.kn → w.cell? ⟨b, off + i * 2, none⟩ = some (.int .i64 (s.ks i)) ∧ w.cell? ⟨b, off + i * 2 + 1, none⟩ = some (.int .i64 (s.kb i))) := g1
  have Hk : Hid (s.kn = 0 ∨ s.kn = 8) := hk
  clear g1 hk
  go_enter Try.func106, Try.ntmps106
  go_wp2_with fail
  obtain ⟨W, hW⟩ : ∃ W : World, W = ((w.alloc (.cells #[.int .i64 s.birth, .slice a s.kn c, .string s.data] 29)).alloc (.cells #[Value.int .i64 0, Value.int .i64 0, Value.int .i64 0, Value.int .i64 0, Value.int .i64 0, Value.int .i64 0, Value.int .i64 0, Value.int .i64 0, Value.int .i64 0, Value.int .i64 0, Value.int .i64 0, Value.int .i64 0, Value.int .i64 0, Value.int .i64 0, Value.int .i64 0, Value.int .i64 0] 94)).alloc (.cells #[Value.int .i64 0, Value.int .i64 0, Value.int .i64 0, Value.int .i64 0, Value.int .i64 0, Value.int .i64 0, Value.int .i64 0, Value.int .i64 0, Value.int .i64 0, Value.int .i64 0, Value.int .i64 0, Value.int .i64 0, Value.int .i64 0, Value.int .i64 0, Value.int .i64 0, Value.int .i64 0] 94) := ⟨_, rfl⟩
  have z16 : (#[Value.int .i64 0, Value.int .i64 0, Value.int .i64 0, Value.int .i64 0, Value.int .i64 0, Value.int .i64 0, Value.int .i64 0, Value.int .i64 0, Value.int .i64 0, Value.int .i64 0, Value.int .i64 0, Value.int .i64 0, Value.int .i64 0, Value.int .i64 0, Value.int .i64 0, Value.int .i64 0] : Array Value) = arr16 (fun _ => 0) := rfl
  have hb : Below w.heap.size w W := by rw [hW]; exact below_next (below_next (below_alloc _ _) (below_alloc _ _)) (below_alloc _ _)
  have Hx : Hid (Box3 W w.heap.size (.int .i64 s.birth) (.slice a s.kn c) (.string s.data)) := by rw [hW]; exact ((Box3.new w _ _ _ _).below (below_alloc _ _)).below (below_alloc _ _)
  have HRG := three_alloc w (.cells #[.int .i64 s.birth, .slice a s.kn c, .string s.data] 29) (.cells #[Value.int .i64 0, Value.int .i64 0, Value.int .i64 0, Value.int .i64 0, Value.int .i64 0, Value.int .i64 0, Value.int .i64 0, Value.int .i64 0, Value.int .i64 0, Value.int .i64 0, Value.int .i64 0, Value.int .i64 0, Value.int .i64 0, Value.int .i64 0, Value.int .i64 0, Value.int .i64 0] 94) (.cells #[Value.int .i64 0, Value.int .i64 0, Value.int .i64 0, Value.int .i64 0, Value.int .i64 0, Value.int .i64 0, Value.int .i64 0, Value.int .i64 0, Value.int .i64 0, Value.int .i64 0, Value.int .i64 0, Value.int .i64 0, Value.int .i64 0, Value.int .i64 0, Value.int .i64 0, Value.int .i64 0] 94)
  rw [← hW] at HRG
  have HR : Hid (W.heap[w.heap.size + 1]? = some (.cells (arr16 fun _ => 0) 94 (0, 0))) := HRG.1
  have HG : Hid (W.heap[w.heap.size + 1 + 1]? = some (.cells (arr16 fun _ => 0) 94 (0, 0))) := HRG.2.1
  have hsz : w.heap.size + 1 + 1 < W.heap.size := HRG.2.2
  clear HRG
  have HC : Hid (s.kn = 0 ∨ (s.kn = 8 ∧ ∃ b off, a = some ⟨b, off, none⟩ ∧ ∀ i, i < s.kn → W.cell? ⟨b, off + i * 2, none⟩ = some (.int .i64 (s.ks i)) ∧ W.cell? ⟨b, off + i * 2 + 1, none⟩ = some (.int .i64 (s.kb i)))) := by
    rcases Hk.out with h | h
    · exact Or.inl h
    · obtain ⟨b, off, ha, _, _, k1⟩ := G1.out (by omega)
      exact Or.inr ⟨h, b, off, ha, fun i hi => ⟨(hb.cell (lt_of_cell (k1 i hi).1)).trans (k1 i hi).1, (hb.cell (lt_of_cell (k1 i hi).2)).trans (k1 i hi).2⟩⟩
  rw [← hW]
  clear hW z16
  obtain ⟨⟨x0, x1⟩, ⟨x2, x3⟩, ⟨x4, x5⟩⟩ := Hx.out
  go_region_law (refine step_copy_kids rfl (.tmp 4) (.tmp 6) rfl (w.heap.size + 1 + 1) a c s (by simp [Act.eval]) (by simp [Act.eval]) HG.out HC.out ?_; intro w1 cv HG1 ht1)
  have hR1 : w1.heap[w.heap.size + 1]? = some (.cells (arr16 fun _ => 0) 94 (0, 0)) := (ht1.block _ (by show _ < W.heap.size; omega) (by omega)).trans HR.out
  have HR1 : Hid (w1.heap[w.heap.size + 1]? = some (.cells (arr16 fun _ => 0) 94 (0, 0))) := hR1
  have hb1 : Below w.heap.size w w1 := hb.drew.trans (ht1.below (by show _ ≤ W.heap.size; omega) (by intro k hk; omega))
  clear hR1 ht1 x0 x1 x2 x3 x4 x5
  have hi16 : (Try.prog.info? 94).map (·.size) = some (kidsA s).size := by rw [kidsA, arr16_size]; exact infoArr
  have Hi16 : Hid ((Try.prog.info? 94).map (·.size) = some (kidsA s).size) := hi16
  clear hi16
  go_wp2_with (first
    | (refine wpList_load_row rfl 94 (.tmp 3) rfl (w.heap.size + 1 + 1) rfl 94 (kidsA s) (0, 0) _ HG1.out arrU rfl Hi16.out ?_)
    | (refine wpList_store_row rfl 94 (.tmp 2) (.tmp 8) rfl (w.heap.size + 1) (kidsA s) rfl rfl 94 (arr16 fun _ => 0) HR1.out Hi16.out (by rw [kidsA, arr16_size, arr16_size]) (arr16_one _) ?_))
  refine bodyPost_ret (v := .agg (kidsA s)) (results_cell_row (P := Try.prog) (ty := 94) Try.results106 _ _ (w.heap.size + 1) 94 (kidsA s) (0, 0) _ rfl (setRow_heap _ _ _ _ _ _ HR1.out) arrU rfl Hi16.out) rfl ⟨rfl, ?_⟩
  exact below_setRow hb1 (by omega) _

def KidFound (n : Nat) (f : Nat → SlotD) (b ks kb rs rb : Int) : Prop :=
  ∃ ps pb, PtrOf n f ks ps pb ∧ (((PtrEq ks kb 0 0 ∨ b < pb) ∧ rs = 0 ∧ rb = 0) ∨ (¬ (PtrEq ks kb 0 0 ∨ b < pb) ∧ rs = ps ∧ rb = pb))

set_option maxRecDepth 20000 in
set_option maxHeartbeats 400000 in
theorem kidFound_any (v : Value) (n lo hi : Nat) (f : Nat → SlotD) (ks kb b : Int) (w : World) (h1 : SlotsAt w lo hi v n f) :
    Calls Try.prog 112 #[v, .agg #[.int .i64 ks, .int .i64 kb], .int .i64 b] w fun e w' => (∃ rs rb, e = .returned (.agg #[.int .i64 rs, .int .i64 rb]) ∧ KidFound n f b ks kb rs rb) ∧ Below w.heap.size w w' := by
  have Hi : Hid (SlotsAt w lo hi v n f) := h1
  obtain ⟨m1, a, c, rfl, mc, g1⟩ := h1
  clear g1
  have Hbw : Hid (Below w.heap.size w ((w.alloc (.cells #[.int .i64 ks, .int .i64 kb] 33)).alloc (.cells #[.int .i64 0, .int .i64 0] 33))) := below_next (below_alloc _ _) (below_alloc _ _)
  go_enter Try.func112, Try.ntmps112
  go_wp2_with fail
  refine (ptrOf_any _ n lo hi f _ _ (Hi.out.below Hbw.out)).mono ?_
  rintro e w1 ⟨⟨ps, pb, rfl, hp⟩, hb1⟩
  have Hp : Hid (PtrOf n f ks ps pb) := hp
  have HX : Hid (Box2 w1 w.heap.size (.int .i64 ks) (.int .i64 kb)) := ((Box2.new w _ _ _).below (below_alloc _ _)).below hb1
  have HR : Hid (Box2 w1 (w.heap.size + 1) (.int .i64 0) (.int .i64 0)) := by
    have := (Box2.new (w.alloc (.cells #[.int .i64 ks, .int .i64 kb] 33)) (.int .i64 0) (.int .i64 0) 33).below hb1
    rw [World.size_alloc] at this
    exact this
  have hbn := below_next Hbw.out hb1
  have hz : w.heap.size < w1.heap.size := HX.out.1.lt
  have hz1 : w.heap.size + 1 < w1.heap.size := HR.out.1.lt
  clear hp hb1
  obtain ⟨⟨x0, x1⟩, ⟨x2, x3⟩⟩ := HX.out
  obtain ⟨⟨y0, y1⟩, ⟨y2, y3⟩⟩ := HR.out
  have HY := fun u0 u1 => (HR.out.put u0 u1).below (below_alloc _ (.cells #[.int .i64 ps, .int .i64 pb] 33))
  have HYh : Hid (∀ u0 u1, Box2 (((w1.setCell ⟨w.heap.size + 1, 0, none⟩ u0).setCell ⟨w.heap.size + 1, 1, none⟩ u1).alloc (.cells #[.int .i64 ps, .int .i64 pb] 33)) (w.heap.size + 1) u0 u1) := HY
  clear HY
  have HBh : Hid (∀ u0 u1, Below w.heap.size w (((w1.setCell ⟨w.heap.size + 1, 0, none⟩ u0).setCell ⟨w.heap.size + 1, 1, none⟩ u1).alloc (.cells #[.int .i64 ps, .int .i64 pb] 33))) := fun u0 u1 => ((hbn.setCell (by show _ ≤ w.heap.size + 1; omega) _).setCell (by show _ ≤ w.heap.size + 1; omega) _).alloc (by simp; omega) _
  by_cases hnone : PtrEq ks kb 0 0
  · obtain ⟨rfl, rfl⟩ := hnone
    have HK : Hid (KidFound n f b 0 0 0 0) := ⟨ps, pb, Hp.out, Or.inl ⟨Or.inl ⟨rfl, rfl⟩, rfl, rfl⟩⟩
    go_wp2
    have hy := HYh.out (.int .i64 0) (.int .i64 0)
    refine bodyPost_ret (v := .agg #[.int .i64 0, .int .i64 0]) (by simp [results, Try.results112, go_sem, hy.1.1, hy.2.1]) rfl ⟨⟨_, _, rfl, HK.out⟩, HBh.out _ _⟩
  · have HN : Hid (¬ PtrEq ks kb 0 0) := hnone
    have e0 : (ks == 0) = false ∨ (ks == 0) = true ∧ (kb == 0) = false := by
      by_cases h : ks = 0
      · right
        refine ⟨by simp [h], ?_⟩
        have : kb ≠ 0 := fun h' => hnone ⟨h, h'⟩
        simp [this]
      · left; simp [h]
    clear hnone
    by_cases hlt : b < pb
    · have HK : Hid (KidFound n f b ks kb 0 0) := ⟨ps, pb, Hp.out, Or.inl ⟨Or.inr hlt, rfl, rfl⟩⟩
      have hy := HYh.out (.int .i64 0) (.int .i64 0)
      have Hy : Hid (Box2 (((w1.setCell ⟨w.heap.size + 1, 0, none⟩ (.int .i64 0)).setCell ⟨w.heap.size + 1, 1, none⟩ (.int .i64 0)).alloc (.cells #[.int .i64 ps, .int .i64 pb] 33)) (w.heap.size + 1) (.int .i64 0) (.int .i64 0)) := hy
      clear hy
      rcases e0 with e0 | ⟨e0, e1⟩
      all_goals
        go_wp2
        have hy := Hy.out
        refine bodyPost_ret (v := .agg #[.int .i64 0, .int .i64 0]) (by simp [results, Try.results112, go_sem, hy.1.1, hy.2.1]) rfl ⟨⟨_, _, rfl, HK.out⟩, HBh.out _ _⟩
    · have HK : Hid (KidFound n f b ks kb ps pb) := ⟨ps, pb, Hp.out, Or.inr ⟨fun h => by rcases h with h | h; exact HN.out h; exact hlt h, rfl, rfl⟩⟩
      rcases e0 with e0 | ⟨e0, e1⟩
      all_goals
        go_wp2
        have hy := HYh.out (.int .i64 ps) (.int .i64 pb)
        refine bodyPost_ret (v := .agg #[.int .i64 ps, .int .i64 pb]) (by simp [results, Try.results112, go_sem, hy.1.1, hy.2.1]) rfl ⟨⟨_, _, rfl, HK.out⟩, HBh.out _ _⟩

end Go.Proofs.Ytikhipekmlhibaa
