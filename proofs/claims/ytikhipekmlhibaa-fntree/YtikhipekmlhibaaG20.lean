/- What impl.layAnew leaves, step by step (no law is proved here). -/
import Derived.Test.YtikhipekmlhibaaG14
import Derived.Test.YtikhipekmlhibaaG19
namespace Go.Proofs.Ytikhipekmlhibaa
open Go Go.RowKit
set_option linter.unusedVariables false

/-- The Kids on a level, with another pointer in the place of the way. -/
def kidX (p : PoolD) (xs xb : Int) (n L : Nat) (x : Int) (i : Nat) : Int := if i = plc n L then x else kidSF p (metS p xs xb n L) (metB p xs xb n L) i
def kidY (p : PoolD) (xs xb : Int) (n L : Nat) (y : Int) (i : Nat) : Int := if i = plc n L then y else kidBF p (metS p xs xb n L) (metB p xs xb n L) i
/-- What is laid over an answer on a level. -/
noncomputable def nodeL (p : PoolD) (xs xb : Int) (n : Nat) (b : Int) (o : OutD) (L : Nat) : OutD := nodeP o.pool (kidX p xs xb n L o.ps) (kidY p xs xb n L o.pb) b
noncomputable def layS (p : PoolD) (xs xb : Int) (n : Nat) (b : Int) (o : OutD) : Nat → OutD
  | 0 => o
  | k + 1 => nodeL p xs xb n b (layS p xs xb n b o k) (1 - k)

theorem newP_small : poolN (newP 0) = 0 := rfl
theorem take_small (p : PoolD) (s : SlotD) : poolN (takeP p s).pool ≤ poolN p + slotN s := by
  unfold takeP
  split
  · split
    · exact set_small _ _ _
    · show poolN (newP 0) ≤ _; rw [newP_small]; omega
  · show poolN (newP 0) ≤ _; rw [newP_small]; omega
theorem node_small (p : PoolD) (f g : Nat → Int) (b : Int) : poolN (nodeP p f g b).pool ≤ poolN p + 8 := by
  unfold nodeP
  split
  · show poolN p ≤ _; omega
  · exact take_small p (slotK f g b)
theorem lay_small (p : PoolD) (xs xb : Int) (n : Nat) (b : Int) (o : OutD) : ∀ k, poolN (layS p xs xb n b o k).pool ≤ poolN o.pool + 8 * k
  | 0 => Nat.le_refl _
  | k + 1 => by
    have h1 := lay_small p xs xb n b o k
    have h2 := node_small (layS p xs xb n b o k).pool (kidX p xs xb n (1 - k) (layS p xs xb n b o k).ps) (kidY p xs xb n (1 - k) (layS p xs xb n b o k).pb) b
    show poolN (nodeP _ _ _ _).pool ≤ _
    omega

/-- The Kids of a level as they lie in the variable of the way. -/
theorem way_range {p : PoolD} {xs xb : Int} {n M L : Nat} {o : Value} {w : World} {B : Nat} (hL : L < 2) (h : WayAt w B (wayV p xs xb n 2 M o)) : w.rangeAt B (2 + L * 16) (arr16 (kidC p xs xb n L)).toList := fun j v hv => by
  have hj : j < 16 := by
    have := (List.getElem?_eq_some_iff.1 hv).1
    simpa [arr16_size] using this
  have e : (arr16 (kidC p xs xb n L)).toList[j]? = some (.int .i64 (kidC p xs xb n L j)) := by rw [Array.getElem?_toList]; exact arr16_at (kidC p xs xb n L) hj
  rw [e] at hv
  simp only [Option.some.injEq] at hv
  rw [← hv, (h (2 + L * 16 + j) (by omega)).1]
  unfold wayV
  rw [if_neg (by omega), if_pos (by omega), show (2 + L * 16 + j - 2) / 16 = L by omega, show (2 + L * 16 + j - 2) % 16 = j by omega, if_pos (by omega)]
/-- The array with the pointer set. -/
theorem kid_mix (p : PoolD) (xs xb : Int) (n L : Nat) (x y : Int) (hn : n < 64) : arr16 (fun j => if j = plc n L * 2 then x else if j = plc n L * 2 + 1 then y else kidC p xs xb n L j) = arr16 (mix (kidX p xs xb n L x) (kidY p xs xb n L y)) := by
  refine arr16_ext fun j hj => ?_
  unfold mix kidX kidY
  by_cases h1 : j = plc n L * 2
  · rw [if_pos h1, if_pos (by omega), if_pos (by omega)]
  rw [if_neg h1]
  by_cases h2 : j = plc n L * 2 + 1
  · rw [if_pos h2, if_neg (by omega), if_pos (by omega)]
  rw [if_neg h2]
  unfold kidC kidSF kidBF kidS kidB
  by_cases h3 : j % 2 = 0
  · rw [if_pos h3, if_neg (show ¬ j / 2 = plc n L by omega), show j / 2 * 2 = j by omega]
  · rw [if_neg h3, if_neg (show ¬ j / 2 = plc n L by omega), show j / 2 * 2 + 1 = j by omega]

/-- A variable of six cells: what a tree's call hands back. -/
def Box6 (w : World) (b : Nat) (v0 v1 v2 v3 v4 v5 : Value) : Prop := Cell w b 0 v0 ∧ Cell w b 1 v1 ∧ Cell w b 2 v2 ∧ Cell w b 3 v3 ∧ Cell w b 4 v4 ∧ Cell w b 5 v5
theorem Box6.below {w w' : World} {b : Nat} {v0 v1 v2 v3 v4 v5 : Value} (h : Box6 w b v0 v1 v2 v3 v4 v5) (t : Below w.heap.size w w') : Box6 w' b v0 v1 v2 v3 v4 v5 := ⟨h.1.below t, h.2.1.below t, h.2.2.1.below t, h.2.2.2.1.below t, h.2.2.2.2.1.below t, h.2.2.2.2.2.below t⟩
theorem Box6.turned {S : Nat → Prop} {w w' : World} {b : Nat} {v0 v1 v2 v3 v4 v5 : Value} (h : Box6 w b v0 v1 v2 v3 v4 v5) (t : Turned S w w') (hs : ¬ S b) : Box6 w' b v0 v1 v2 v3 v4 v5 := ⟨h.1.turned t hs, h.2.1.turned t hs, h.2.2.1.turned t hs, h.2.2.2.1.turned t hs, h.2.2.2.2.1.turned t hs, h.2.2.2.2.2.turned t hs⟩
theorem Box6.new (w : World) (v0 v1 v2 v3 v4 v5 : Value) (t : TypeId) : Box6 (w.alloc (.cells #[v0, v1, v2, v3, v4, v5] t)) w.heap.size v0 v1 v2 v3 v4 v5 := by
  have hb : (w.alloc (.cells #[v0, v1, v2, v3, v4, v5] t)).heap[w.heap.size]? = some (.cells #[v0, v1, v2, v3, v4, v5] t) := heap_alloc_new _ _
  exact ⟨cell_of_block hb rfl, cell_of_block hb rfl, cell_of_block hb rfl, cell_of_block hb rfl, cell_of_block hb rfl, cell_of_block hb rfl⟩
abbrev put6 (w : World) (b : Nat) (u0 u1 u2 u3 u4 u5 : Value) : World := (((((w.setCell ⟨b, 0, none⟩ u0).setCell ⟨b, 1, none⟩ u1).setCell ⟨b, 2, none⟩ u2).setCell ⟨b, 3, none⟩ u3).setCell ⟨b, 4, none⟩ u4).setCell ⟨b, 5, none⟩ u5
theorem Box6.put {w : World} {b : Nat} {v0 v1 v2 v3 v4 v5 : Value} (h : Box6 w b v0 v1 v2 v3 v4 v5) (u0 u1 u2 u3 u4 u5 : Value) : Box6 (put6 w b u0 u1 u2 u3 u4 u5) b u0 u1 u2 u3 u4 u5 := by
  obtain ⟨h0, h1, h2, h3, h4, h5⟩ := h
  refine ⟨?_, ?_, ?_, ?_, ?_, ?_⟩
  · exact (((((h0.set _).other _ (Or.inr (by omega))).other _ (Or.inr (by omega))).other _ (Or.inr (by omega))).other _ (Or.inr (by omega))).other _ (Or.inr (by omega))
  · exact (((((h1.other _ (Or.inr (by omega))).set _).other _ (Or.inr (by omega))).other _ (Or.inr (by omega))).other _ (Or.inr (by omega))).other _ (Or.inr (by omega))
  · exact (((((h2.other _ (Or.inr (by omega))).other _ (Or.inr (by omega))).set _).other _ (Or.inr (by omega))).other _ (Or.inr (by omega))).other _ (Or.inr (by omega))
  · exact (((((h3.other _ (Or.inr (by omega))).other _ (Or.inr (by omega))).other _ (Or.inr (by omega))).set _).other _ (Or.inr (by omega))).other _ (Or.inr (by omega))
  · exact (((((h4.other _ (Or.inr (by omega))).other _ (Or.inr (by omega))).other _ (Or.inr (by omega))).other _ (Or.inr (by omega))).set _).other _ (Or.inr (by omega))
  · exact (((((h5.other _ (Or.inr (by omega))).other _ (Or.inr (by omega))).other _ (Or.inr (by omega))).other _ (Or.inr (by omega))).other _ (Or.inr (by omega))).set _
theorem Turned.put6 (w : World) (b : Nat) (u0 u1 u2 u3 u4 u5 : Value) : Turned (fun k => k = b) w (put6 w b u0 u1 u2 u3 u4 u5) :=
  (((((Turned.put w b 0 u0).trans (Turned.put _ b 1 u1)).trans (Turned.put _ b 2 u2)).trans (Turned.put _ b 3 u3)).trans (Turned.put _ b 4 u4)).trans (Turned.put _ b 5 u5)

/-- A tree's answer: a pool, a root, what is old, a code. -/
structure TOutD where
  pool : PoolD
  rs : Int
  rb : Int
  old : List (Int × Int)
  code : Int
def treeErr (c : Int) : TOutD := ⟨newP 0, 0, 0, [], c⟩
/-- The answer is a new one that holds what t tells. -/
def NewTree (t : TOutD) (w : World) (e : Ending) (w' : World) : Prop :=
  ∃ v0 v1 vo lo hi, e = .returned (.agg #[v0, v1, .int .i64 t.rs, .int .i64 t.rb, vo, .int .i64 t.code]) ∧ w.heap.size ≤ lo ∧ hi ≤ w'.heap.size ∧ PoolOwn w' lo hi v0 v1 t.pool ∧ RowL w' w.heap.size vo t.old ∧ (∀ k, vo.ownBlock = some k → k < lo ∨ hi ≤ k) ∧ Below w.heap.size w w'
open Classical in
/-- What layAnew tells. -/
noncomputable def layP (p : PoolD) (xs xb : Int) (n : Nat) (b : Int) (o : OutD) : TOutD :=
  if (layS p xs xb n b o 1).code ≠ 0 then treeErr (layS p xs xb n b o 1).code
  else if (layS p xs xb n b o 2).code ≠ 0 then treeErr (layS p xs xb n b o 2).code
  else ⟨(layS p xs xb n b o 2).pool, (layS p xs xb n b o 2).ps, (layS p xs xb n b o 2).pb, oldW p xs xb n 3, 0⟩

theorem lay_err {p : PoolD} {xs xb : Int} {n : Nat} {b : Int} {o : OutD} {k : Nat} (hk : k < 2) (h : ∀ j, j ≤ k → (layS p xs xb n b o j).code = 0) (hc : (layS p xs xb n b o (k + 1)).code ≠ 0) : layP p xs xb n b o = treeErr (layS p xs xb n b o (k + 1)).code := by
  unfold layP
  rcases k with _ | _ | k
  · rw [if_pos hc]
  · rw [if_neg (fun hh => hh (h 1 (by omega))), if_pos hc]
  · omega
theorem lay_done {p : PoolD} {xs xb : Int} {n : Nat} {b : Int} {o : OutD} (h : ∀ j, j ≤ 2 → (layS p xs xb n b o j).code = 0) : layP p xs xb n b o = ⟨(layS p xs xb n b o 2).pool, (layS p xs xb n b o 2).ps, (layS p xs xb n b o 2).pb, oldW p xs xb n 3, 0⟩ := by
  unfold layP
  rw [if_neg (fun hh => hh (h 1 (by omega))), if_neg (fun hh => hh (h 2 (by omega)))]

end Go.Proofs.Ytikhipekmlhibaa

namespace Go.Proofs.Ytikhipekmlhibaa
open Go Go.RowKit
set_option linter.unusedVariables false

/-- A pool and a row of pointers in blocks from lo to hi, apart from each other. -/
def TreeMem (w : World) (lo hi : Nat) (v0 v1 vo : Value) (p : PoolD) (n : Nat) (f g : Nat → Int) : Prop :=
  ∃ pl ph ob, lo ≤ pl ∧ ph ≤ hi ∧ PoolOwn w pl ph v0 v1 p ∧ PtrsOwn w ob vo n f g ∧ (0 < n → lo ≤ ob ∧ ob < hi ∧ (ob < pl ∨ ph ≤ ob))
theorem TreeMem.below {w w' : World} {lo hi : Nat} {v0 v1 vo : Value} {p : PoolD} {n : Nat} {f g : Nat → Int} (h : TreeMem w lo hi v0 v1 vo p n f g) (t : Below w.heap.size w w') : TreeMem w' lo hi v0 v1 vo p n f g := by
  obtain ⟨pl, ph, ob, h1, h2, h3, h4, h5⟩ := h
  exact ⟨pl, ph, ob, h1, h2, h3.below t, h4.below t, h5⟩
theorem TreeMem.turned {S : Nat → Prop} {w w' : World} {lo hi : Nat} {v0 v1 vo : Value} {p : PoolD} {n : Nat} {f g : Nat → Int} (h : TreeMem w lo hi v0 v1 vo p n f g) (t : Turned S w w') (hs : ∀ k, S k → k < lo ∨ hi ≤ k) : TreeMem w' lo hi v0 v1 vo p n f g := by
  obtain ⟨pl, ph, ob, h1, h2, h3, h4, h5⟩ := h
  exact ⟨pl, ph, ob, h1, h2, h3.turned t (fun k hk => by have := hs k hk; omega), h4.turned t (fun h0 hx => by have := h5 h0; have := hs _ hx; omega), h5⟩
theorem TreeMem.pool {w : World} {lo hi : Nat} {v0 v1 vo : Value} {p : PoolD} {n : Nat} {f g : Nat → Int} (h : TreeMem w lo hi v0 v1 vo p n f g) : PoolAt w lo hi v0 v1 p := by
  obtain ⟨pl, ph, ob, h1, h2, h3, h4, h5⟩ := h
  exact (h3.wide h1 h2).at
theorem TreeMem.row {w : World} {lo hi : Nat} {v0 v1 vo : Value} {p : PoolD} {n : Nat} {f g : Nat → Int} (h : TreeMem w lo hi v0 v1 vo p n f g) : PtrsAt w lo hi vo n f g := by
  obtain ⟨pl, ph, ob, h1, h2, h3, h4, h5⟩ := h
  exact h4.at (fun h0 => ⟨(h5 h0).1, (h5 h0).2.1⟩)
theorem TreeMem.form {w : World} {lo hi : Nat} {v0 v1 vo : Value} {p : PoolD} {n : Nat} {f g : Nat → Int} (h : TreeMem w lo hi v0 v1 vo p n f g) : ∃ a c a' c' oa oc, v0 = .slice a p.n c ∧ v1 = .slice a' p.hn c' ∧ vo = .slice oa n oc := by
  obtain ⟨a, c, a', c', h1, h2⟩ := h.pool.form
  obtain ⟨_, oa, oc, h3, _⟩ := h.row
  exact ⟨a, c, a', c', oa, oc, h1, h2, h3⟩
/-- What is new is so. -/
theorem NewTree.mem {t : TOutD} {w w' : World} {e : Ending} (h : NewTree t w e w') (hl : t.old.length ≤ 3) :
    ∃ v0 v1 vo, e = .returned (.agg #[v0, v1, .int .i64 t.rs, .int .i64 t.rb, vo, .int .i64 t.code]) ∧ TreeMem w' w.heap.size w'.heap.size v0 v1 vo t.pool t.old.length (fstL t.old) (sndL t.old) ∧ Below w.heap.size w w' := by
  obtain ⟨v0, v1, vo, lo, hi, he, h1, h2, h3, h4, h5, h6⟩ := h
  obtain ⟨ob, h7, h8⟩ := h4.own (by unfold maxLen; omega)
  exact ⟨v0, v1, vo, he, ⟨lo, hi, ob, h1, h2, h3, h7, fun h0 => ⟨(h8 h0).2.1, (h8 h0).2.2, h5 _ (h8 h0).1⟩⟩, h6⟩

/-- A variable that holds an answer, and what is read through it. -/
structure TreeV (w : World) (b lo hi : Nat) (v0 v1 vo : Value) (o : TOutD) : Prop where
  box : Box6 w b v0 v1 (.int .i64 o.rs) (.int .i64 o.rb) vo (.int .i64 o.code)
  mem : TreeMem w lo hi v0 v1 vo o.pool o.old.length (fstL o.old) (sndL o.old)
theorem TreeV.below {w w' : World} {b lo hi : Nat} {v0 v1 vo : Value} {o : TOutD} (h : TreeV w b lo hi v0 v1 vo o) (t : Below w.heap.size w w') : TreeV w' b lo hi v0 v1 vo o := ⟨h.box.below t, h.mem.below t⟩
theorem TreeV.turned {S : Nat → Prop} {w w' : World} {b lo hi : Nat} {v0 v1 vo : Value} {o : TOutD} (h : TreeV w b lo hi v0 v1 vo o) (t : Turned S w w') (hb : ¬ S b) (hs : ∀ k, S k → k < lo ∨ hi ≤ k) : TreeV w' b lo hi v0 v1 vo o := ⟨h.box.turned t hb, h.mem.turned t hs⟩

/-- A new variable that holds an answer, made since w1. -/
def NewTreeVar (o : TOutD) (w1 : World) (t : Value) (wx : World) : Prop :=
  ∃ L a c a' c' oa oc lo hi, t = .pointer (some ⟨L, 0, none⟩) ∧ TreeV wx L lo hi (.slice a o.pool.n c) (.slice a' o.pool.hn c') (.slice oa o.old.length oc) o ∧ w1.heap.size ≤ lo ∧ hi ≤ wx.heap.size ∧ (L < lo ∨ hi ≤ L) ∧ w1.heap.size ≤ L ∧ L < wx.heap.size ∧ Below w1.heap.size w1 wx
theorem newTree_late {o : TOutD} {w1 w2 : World} {m : Nat} {a a' oa : Option Addr} {c c' oc : Nat} {t : TypeId} (hC : Below w1.heap.size w1 w2) (hm : w1.heap.size ≤ m) (ho : TreeMem w2 m w2.heap.size (.slice a o.pool.n c) (.slice a' o.pool.hn c') (.slice oa o.old.length oc) o.pool o.old.length (fstL o.old) (sndL o.old)) :
    NewTreeVar o w1 (.pointer (some ⟨w2.heap.size, 0, none⟩)) (w2.alloc (.cells #[.slice a o.pool.n c, .slice a' o.pool.hn c', .int .i64 o.rs, .int .i64 o.rb, .slice oa o.old.length oc, .int .i64 o.code] t)) :=
  ⟨_, a, c, a', c', oa, oc, m, w2.heap.size, rfl, ⟨Box6.new _ _ _ _ _ _ _ _, ho.below (below_alloc _ _)⟩, hm, by rw [World.size_alloc]; omega, Or.inr (Nat.le_refl _), hC.size, by rw [World.size_alloc]; omega, below_next hC (below_alloc _ _)⟩
theorem newTree_early {o : TOutD} {w1 w2 : World} {m B : Nat} {a a' oa : Option Addr} {c c' oc : Nat} {o0 o1 o2 o3 o4 o5 : Value} (hC : Below w1.heap.size w1 w2) (hL : Box6 w2 B o0 o1 o2 o3 o4 o5) (hB : w1.heap.size ≤ B) (hm : B < m) (ho : TreeMem w2 m w2.heap.size (.slice a o.pool.n c) (.slice a' o.pool.hn c') (.slice oa o.old.length oc) o.pool o.old.length (fstL o.old) (sndL o.old)) :
    NewTreeVar o w1 (.pointer (some ⟨B, 0, none⟩)) (put6 w2 B (.slice a o.pool.n c) (.slice a' o.pool.hn c') (.int .i64 o.rs) (.int .i64 o.rb) (.slice oa o.old.length oc) (.int .i64 o.code)) := by
  have t := Turned.put6 w2 B (.slice a o.pool.n c) (.slice a' o.pool.hn c') (.int .i64 o.rs) (.int .i64 o.rb) (.slice oa o.old.length oc) (.int .i64 o.code)
  have hBC := hL.1.lt
  have hz := t.size
  exact ⟨_, a, c, a', c', oa, oc, m, w2.heap.size, rfl, ⟨hL.put _ _ _ _ _ _, ho.turned t (fun k hk => by omega)⟩, by omega, hz, Or.inl hm, hB, by omega, ((Turned.of_below (S := fun k => k = B) hC).trans t).below (Nat.le_refl _) (fun k hk => hk ▸ hB)⟩
theorem newTree_late' {o : TOutD} {w1 w2 : World} {m : Nat} {a a' oa : Option Addr} {c c' oc : Nat} {t : TypeId} (hC : Below w1.heap.size w1 w2) (ho : TreeMem w2 m w2.heap.size (.slice a o.pool.n c) (.slice a' o.pool.hn c') (.slice oa o.old.length oc) o.pool o.old.length (fstL o.old) (sndL o.old)) (hm : w1.heap.size ≤ m) (wx : World)
    (he : wx = w2.alloc (.cells #[.slice a o.pool.n c, .slice a' o.pool.hn c', .int .i64 o.rs, .int .i64 o.rb, .slice oa o.old.length oc, .int .i64 o.code] t)) : NewTreeVar o w1 (.pointer (some ⟨w2.heap.size, 0, none⟩)) wx := by
  rw [he]
  exact newTree_late hC hm ho
theorem newTree_early' {o : TOutD} {w1 w2 : World} {m B : Nat} {a a' oa : Option Addr} {c c' oc : Nat} {o0 o1 o2 o3 o4 o5 : Value} (hC : Below w1.heap.size w1 w2) (hL : Box6 w2 B o0 o1 o2 o3 o4 o5) (ho : TreeMem w2 m w2.heap.size (.slice a o.pool.n c) (.slice a' o.pool.hn c') (.slice oa o.old.length oc) o.pool o.old.length (fstL o.old) (sndL o.old)) (hB : w1.heap.size ≤ B) (hm : B < m) (wx : World)
    (he : wx = put6 w2 B (.slice a o.pool.n c) (.slice a' o.pool.hn c') (.int .i64 o.rs) (.int .i64 o.rb) (.slice oa o.old.length oc) (.int .i64 o.code)) : NewTreeVar o w1 (.pointer (some ⟨B, 0, none⟩)) wx := by
  rw [he]
  exact newTree_early hC hL hB hm ho

end Go.Proofs.Ytikhipekmlhibaa
