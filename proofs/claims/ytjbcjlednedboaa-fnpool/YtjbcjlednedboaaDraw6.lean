/- What the draws' l01Some leaves: a new slot, at most nine Kids, at most 17 bytes. -/
import Derived.Test.YtjbcjlednedboaaDraw5
import Derived.Test.YtjbcjlednedboaaCopy
import Derived.Deep.RegionWith
namespace Go.Proofs.Ytjbcjlednedboaa
open Go.RowKit
set_option linter.unusedVariables false

/-- Cells that hold numbers. -/
def Nums (xs : List Value) : Prop := ∀ u ∈ xs, ∃ i : Int, u = .int .i64 i

theorem Nums.set {xs : List Value} (h : Nums xs) (j : Nat) (i : Int) : Nums (xs.set j (.int .i64 i)) := fun u hu => by
  rcases List.mem_or_eq_of_mem_set hu with h1 | h1
  · exact h u h1
  · exact ⟨i, h1⟩
theorem Nums.append {xs ys : List Value} (h : Nums xs) (h' : Nums ys) : Nums (xs ++ ys) := fun u hu => by
  rcases List.mem_append.1 hu with h1 | h1
  · exact h u h1
  · exact h' u h1
theorem Nums.zeros (n : Nat) : Nums (zeros #[.int .i64 0, .int .i64 0] n).toList := fun u hu => by
  unfold Go.Proofs.Ytjbcjlednedboaa.zeros madeCells at hu
  simp only [Array.toList_map, List.mem_map] at hu
  obtain ⟨j, _, rfl⟩ := hu
  refine ⟨0, ?_⟩
  rcases Nat.mod_two_eq_zero_or_one j with h | h <;> simp [h]

theorem nums_ptrs {w : World} {base e n : Nat} {v : Value} {xs : List Value} (hm : n ≤ maxLen) (h : w.ownsRow base e 2 v n xs) (hx : Nums xs) : ∃ kb f g, PtrsOwn w kb v n f g ∧ (0 < n → base ≤ kb ∧ kb < w.heap.size) := by
  by_cases h0 : 0 < n
  · obtain ⟨gb, cap, rfl, hcp, hb, hlt, hcell⟩ := owns_cell h h0
    have hl := h.1
    refine ⟨gb, fun i => intOf (xs.getD (i * 2) undef), fun i => intOf (xs.getD (i * 2 + 1) undef), ⟨hm, _, cap, rfl, hcp, fun _ => ⟨0, rfl, fun i hi => ?_⟩⟩, fun _ => ⟨hb, hlt⟩⟩
    have get : ∀ j, j < xs.length → Cell w gb j (.int .i64 (intOf (xs.getD j undef))) := fun j hj => by
      have e : xs[j]? = some (xs[j]) := List.getElem?_eq_getElem hj
      obtain ⟨z, hz⟩ := hx (xs[j]) (List.getElem_mem hj)
      have e2 : xs.getD j undef = .int .i64 z := by rw [List.getD_eq_getElem?_getD, e, Option.getD_some, hz]
      rw [e2]
      exact hcell j _ (by rw [e, hz]; rfl)
    have g1 := get (i * 2) (by omega)
    have g2 := get (i * 2 + 1) (by omega)
    rw [Nat.zero_add]
    exact ⟨g1, g2⟩
  · obtain ⟨a, cap, rfl, hcp⟩ := owns_form h
    exact ⟨0, fun _ => 0, fun _ => 0, ⟨hm, a, cap, rfl, hcp, fun h => absurd h h0⟩, fun h => absurd h h0⟩

/-- A slot's variable whose Kids are a row of their own. -/
structure SomeV (w : World) (X : Nat) (b : Int) (n : Nat) (v : Value) (d : ByteArray) (xs : List Value) : Prop where
  box : Box3 w X (.int .i64 b) v (.string d)
  row : w.ownsRow (X + 1) 33 2 v n xs
  nums : Nums xs

theorem grown_of_turn1 {w w1 : World} {B : Nat} (h : Turned (fun k => k = B) w w1) : w.grownBy w1 (some B) := ⟨h.os, h.tape, h.output, h.size, fun k hk hs => h.block k hk (fun e => hs (by rw [e]))⟩

theorem row_turned {w w1 : World} {B base e size n : Nat} {v : Value} {xs : List Value} (h : w.ownsRow base e size v n xs) (t : Turned (fun k => k = B) w w1) (hB : B < base) : w1.ownsRow base e size v n xs :=
  h.kept (grown_of_turn1 t) (Or.inr fun e => by have := h.lt B e; omega)

theorem SomeV.turned {w w1 : World} {X B n : Nat} {b : Int} {v : Value} {d : ByteArray} {xs : List Value} (h : SomeV w X b n v d xs) (t : Turned (fun k => k = B) w w1) (hB : B < X) : SomeV w1 X b n v d xs :=
  ⟨h.box.turned t (by omega), row_turned h.row t (by omega), h.nums⟩
theorem SomeV.below {w w1 : World} {X n : Nat} {b : Int} {v : Value} {d : ByteArray} {xs : List Value} (h : SomeV w X b n v d xs) (t : Below w.heap.size w w1) : SomeV w1 X b n v d xs :=
  ⟨h.box.below t, h.row.kept (grown_of_below t none) (by cases hv : v.ownBlock <;> simp), h.nums⟩

/-- What stands while l01Some goes on: the result's variable, the slot's, the source. -/
structure SomeI (w wx : World) (B X : Nat) : Prop where
  src : Src wx B
  turn : Turned (fun k => k = B) w wx
  res : Box3 wx (w.heap.size + 1) (.int .i64 0) (.slice none 0 0) (.string ⟨#[]⟩)
  place : B < w.heap.size ∧ w.heap.size + 2 ≤ X ∧ X < wx.heap.size

theorem SomeI.next {w wx wy : World} {B X : Nat} (h : SomeI w wx B X) (hs : Src wy B) (t : Turned (fun k => k = B) wx wy) : SomeI w wy B X :=
  ⟨hs, h.turn.trans t, h.res.turned t (by have := h.place; omega), h.place.1, h.place.2.1, Nat.lt_of_lt_of_le h.place.2.2 t.size⟩
/-- A block behind the variables is turned, or memory is made. -/
theorem SomeI.late {w wx wy : World} {B X C : Nat} (h : SomeI w wx B X) (t : Turned (fun k => k = C) wx wy) (hC : w.heap.size + 2 ≤ C) : SomeI w wy B X :=
  ⟨h.src.turned t (fun k hk => by have := h.place; omega), only_src h.turn t (by omega), h.res.turned t (by omega), h.place.1, h.place.2.1, Nat.lt_of_lt_of_le h.place.2.2 t.size⟩
theorem SomeI.below {w wx wy : World} {B X : Nat} (h : SomeI w wx B X) (t : Below wx.heap.size wx wy) : SomeI w wy B X :=
  ⟨h.src.below t, h.turn.trans (Turned.of_below t), h.res.below t, h.place.1, h.place.2.1, Nat.lt_of_lt_of_le h.place.2.2 t.size⟩

/-- The answer is a new slot. -/
def NewSome (B : Nat) (w : World) (e : Ending) (w' : World) : Prop :=
  ∃ (s : SlotD) (kv : Value) (kb : Nat), e = .returned (.agg #[.int .i64 s.birth, kv, .string s.data]) ∧ PtrsOwn w' kb kv s.kn s.ks s.kb ∧ (0 < s.kn → w.heap.size ≤ kb ∧ kb < w'.heap.size) ∧ s.kn ≤ 9 ∧ s.data.size ≤ 17 ∧ Src w' B ∧ Turned (fun k => k = B) w w'

theorem put3_turned (w : World) (X : Nat) (u0 u1 u2 : Value) : Turned (fun k => k = X) w (((w.setCell ⟨X, 0, none⟩ u0).setCell ⟨X, 1, none⟩ u1).setCell ⟨X, 2, none⟩ u2) :=
  ((Turned.put w X 0 u0).trans (Turned.put _ X 1 u1)).trans (Turned.put _ X 2 u2)

theorem some_end {w wx : World} {B X n : Nat} {b : Int} {v : Value} {d : ByteArray} {xs : List Value} (hI : SomeI w wx B X) (hS : SomeV wx X b n v d xs) (hn : n ≤ 9) (hd : d.size ≤ 17) :
    NewSome B w (.returned (.agg #[.int .i64 b, v, .string d])) (((wx.setCell ⟨w.heap.size + 1, 0, none⟩ (.int .i64 b)).setCell ⟨w.heap.size + 1, 1, none⟩ v).setCell ⟨w.heap.size + 1, 2, none⟩ (.string d)) := by
  have t := put3_turned wx (w.heap.size + 1) (.int .i64 b) v (.string d)
  have hp := hI.place
  obtain ⟨kb, f, g, h1, h2⟩ := nums_ptrs (by unfold maxLen; omega) (row_turned hS.row t (by omega)) hS.nums
  exact ⟨⟨b, n, f, g, d⟩, v, kb, rfl, h1, fun h0 => by have := h2 h0; exact ⟨by omega, this.2⟩, hn, hd, hI.src.turned t (fun k hk => by omega), only_src hI.turn t (by omega)⟩

/-- The slot's variable is written whole. -/
theorem SomeV.put {w : World} {X n m : Nat} {b c : Int} {v u : Value} {d e : ByteArray} {xs ys : List Value} (h : SomeV w X b n v d xs) (hr : w.ownsRow (X + 1) 33 2 u m ys) (hy : Nums ys) :
    SomeV (((w.setCell ⟨X, 0, none⟩ (.int .i64 c)).setCell ⟨X, 1, none⟩ u).setCell ⟨X, 2, none⟩ (.string e)) X c m u e ys :=
  ⟨h.box.put _ _ _, row_turned hr (put3_turned w X (.int .i64 c) u (.string e)) (by omega), hy⟩
theorem SomeV.putBirth {w : World} {X n : Nat} {b : Int} {v : Value} {d : ByteArray} {xs : List Value} (h : SomeV w X b n v d xs) (c : Int) : SomeV (w.setCell ⟨X, 0, none⟩ (.int .i64 c)) X c n v d xs :=
  ⟨⟨h.box.1.set _, h.box.2.1.other _ (Or.inr (by omega)), h.box.2.2.other _ (Or.inr (by omega))⟩, row_turned h.row (Turned.put _ _ _ _) (by omega), h.nums⟩
theorem SomeV.putData {w : World} {X n : Nat} {b : Int} {v : Value} {d : ByteArray} {xs : List Value} (h : SomeV w X b n v d xs) (e : ByteArray) : SomeV (w.setCell ⟨X, 2, none⟩ (.string e)) X b n v e xs :=
  ⟨⟨h.box.1.other _ (Or.inr (by omega)), h.box.2.1.other _ (Or.inr (by omega)), h.box.2.2.set _⟩, row_turned h.row (Turned.put _ _ _ _) (by omega), h.nums⟩
theorem SomeV.putKids {w : World} {X m : Nat} {b : Int} {v u : Value} {d : ByteArray} {ys : List Value} (h : Box3 w X (.int .i64 b) v (.string d)) (hr : w.ownsRow (X + 1) 33 2 u m ys) (hy : Nums ys) : SomeV (w.setCell ⟨X, 1, none⟩ u) X b m u d ys :=
  ⟨⟨h.1.other _ (Or.inr (by omega)), h.2.1.set _, h.2.2.other _ (Or.inr (by omega))⟩, row_turned hr (Turned.put _ _ _ _) (by omega), hy⟩

theorem some_new1 {w w3 w4 : World} {B X n : Nat} {b : Int} {v : Value} {d : ByteArray} {xs : List Value} (c : Int) (hI : SomeI w w3 B X) (hS : SomeV w3 X b n v d xs) (hs : Src w4 B) (t : Turned (fun k => k = B) w3 w4) :
    SomeI w ((((w4.alloc (.cells (zeros #[.int .i64 0, .int .i64 0] 8) 33)).setCell ⟨X, 0, none⟩ (.int .i64 c)).setCell ⟨X, 1, none⟩ (.slice (some ⟨w4.heap.size, 0, none⟩) 8 8)).setCell ⟨X, 2, none⟩ (.string ⟨#[]⟩)) B X ∧
    SomeV ((((w4.alloc (.cells (zeros #[.int .i64 0, .int .i64 0] 8) 33)).setCell ⟨X, 0, none⟩ (.int .i64 c)).setCell ⟨X, 1, none⟩ (.slice (some ⟨w4.heap.size, 0, none⟩) 8 8)).setCell ⟨X, 2, none⟩ (.string ⟨#[]⟩)) X c 8 (.slice (some ⟨w4.heap.size, 0, none⟩) 8 8) ⟨#[]⟩ (zeros #[.int .i64 0, .int .i64 0] 8).toList := by
  have hp := hI.place
  have hz := t.size
  refine ⟨((hI.next hs t).below (below_alloc _ _)).late (put3_turned _ _ _ _ _) hp.2.1, ((hS.turned t (by omega)).below (below_alloc _ _)).put ?_ (Nums.zeros 8)⟩
  exact World.ownsRow_lit w4 (zeros #[.int .i64 0, .int .i64 0] 8) 8 (by omega) (by unfold maxLen; omega) (by simp [zeros, madeCells])

theorem some_new2 {w w3 w4 : World} {B X n : Nat} {b : Int} {v : Value} {d : ByteArray} {xs : List Value} (c : Int) (hI : SomeI w w3 B X) (hS : SomeV w3 X b n v d xs) (hs : Src w4 B) (t : Turned (fun k => k = B) (w3.alloc (.cells (zeros #[.int .i64 0, .int .i64 0] 8) 33)) w4) :
    SomeI w (((w4.setCell ⟨X, 0, none⟩ (.int .i64 c)).setCell ⟨X, 1, none⟩ (.slice (some ⟨w3.heap.size, 0, none⟩) 8 8)).setCell ⟨X, 2, none⟩ (.string ⟨#[]⟩)) B X ∧
    SomeV (((w4.setCell ⟨X, 0, none⟩ (.int .i64 c)).setCell ⟨X, 1, none⟩ (.slice (some ⟨w3.heap.size, 0, none⟩) 8 8)).setCell ⟨X, 2, none⟩ (.string ⟨#[]⟩)) X c 8 (.slice (some ⟨w3.heap.size, 0, none⟩) 8 8) ⟨#[]⟩ (zeros #[.int .i64 0, .int .i64 0] 8).toList := by
  have hp := hI.place
  refine ⟨((hI.below (below_alloc _ _)).next hs t).late (put3_turned _ _ _ _ _) hp.2.1, ((hS.below (below_alloc _ _)).turned t (by omega)).put ?_ (Nums.zeros 8)⟩
  exact row_turned (World.ownsRow_lit w3 (zeros #[.int .i64 0, .int .i64 0] 8) 8 (by omega) (by unfold maxLen; omega) (by simp [zeros, madeCells])) t (by omega)

theorem turned_undrew {S : Nat → Prop} {w w1 : World} (h : Turned S w.drew w1) : Turned S w w1 := ⟨h.os, h.tape, h.output, h.size, h.block⟩

/-- A Kid is written. -/
theorem SomeV.kid {w : World} {X n g cg : Nat} {b : Int} {d : ByteArray} {xs : List Value} (h : SomeV w X b n (.slice (some ⟨g, 0, none⟩) n cg) d xs) (j j' : Nat) (i c : Int) :
    SomeV ((w.setCell ⟨g, j, none⟩ (.int .i64 i)).setCell ⟨g, j', none⟩ (.int .i64 c)) X b n (.slice (some ⟨g, 0, none⟩) n cg) d ((xs.set j (.int .i64 i)).set j' (.int .i64 c)) := by
  have hg := h.row.lt g rfl
  exact ⟨(h.box.other _ (by omega)).other _ (by omega), ((h.row.stored j _).1.stored j' _).1, (h.nums.set _ _).set _ _⟩
theorem SomeV.cell {w : World} {X n g cg : Nat} {b : Int} {d : ByteArray} {xs : List Value} (h : SomeV w X b n (.slice (some ⟨g, 0, none⟩) n cg) d xs) {j : Nat} (hj : j < n * 2) : ∃ z : Int, w.cell? ⟨g, j, none⟩ = some (.int .i64 z) ∧ w.frozen? ⟨g, j, none⟩ = false := by
  have hl := h.row.1
  have e := h.row.cellAt j hj
  rw [List.getElem?_eq_getElem (by omega)] at e
  obtain ⟨z, hz⟩ := h.nums _ (List.getElem_mem (by omega : j < xs.length))
  rw [hz] at e
  exact ⟨z, e, h.row.frozenAt j⟩

end Go.Proofs.Ytjbcjlednedboaa
