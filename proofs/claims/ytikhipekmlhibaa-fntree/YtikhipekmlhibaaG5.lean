/- What the draws' l01Some leaves: a new slot, at most nine Kids, at most 17 bytes. -/
import Derived.Test.YtikhipekmlhibaaG2
import Derived.Test.YtikhipekmlhibaaG4
import Derived.Deep.RegionWith
import Derived.Test.YtikhipekmlhibaaG1
import Derived.Deep.RegionHeld3
import Derived.Deep.QuietTactic
import Derived.BigQuiet
namespace Go.Proofs.Ytikhipekmlhibaa
open Go.RowKit
set_option linter.unusedVariables false

/-- Cells that hold numbers. -/
def Nums (xs : List Value) : Prop := ∀ u ∈ xs, ∃ i : Int, u = .int .i64 i

theorem Nums.set {xs : List Value} (h : Nums xs) (j : Nat) (i : Int) : Nums (xs.set j (.int .i64 i)) := fun u hu => by
  rcases List.mem_or_eq_of_mem_set hu with h1 | h1
  · exact h u h1
  · exact ⟨i, h1⟩
theorem Nums.append {xs ys : List Value} (h : Nums xs) (h' : Nums ys) : Nums (xs ++ ys) := fun u hu => by
  rcases List.mem_append.1 hu with h1 | h1
  · exact h u h1
  · exact h' u h1
theorem Nums.zeros (n : Nat) : Nums (zeros #[.int .i64 0, .int .i64 0] n).toList := fun u hu => by
  unfold Go.Proofs.Ytikhipekmlhibaa.zeros madeCells at hu
  simp only [Array.toList_map, List.mem_map] at hu
  obtain ⟨j, _, rfl⟩ := hu
  refine ⟨0, ?_⟩
  rcases Nat.mod_two_eq_zero_or_one j with h | h <;> simp [h]

theorem nums_ptrs {w : World} {base e n : Nat} {v : Value} {xs : List Value} (hm : n ≤ maxLen) (h : w.ownsRow base e 2 v n xs) (hx : Nums xs) : ∃ kb f g, PtrsOwn w kb v n f g ∧ (0 < n → base ≤ kb ∧ kb < w.heap.size) := by
  by_cases h0 : 0 < n
  · obtain ⟨gb, cap, rfl, hcp, hb, hlt, hcell⟩ := owns_cell h h0
    have hl := h.1
    refine ⟨gb, fun i => intOf (xs.getD (i * 2) undef), fun i => intOf (xs.getD (i * 2 + 1) undef), ⟨hm, _, cap, rfl, hcp, fun _ => ⟨0, rfl, fun i hi => ?_⟩⟩, fun _ => ⟨hb, hlt⟩⟩
    have get : ∀ j, j < xs.length → Cell w gb j (.int .i64 (intOf (xs.getD j undef))) := fun j hj => by
      have e : xs[j]? = some (xs[j]) := List.getElem?_eq_getElem hj
      obtain ⟨z, hz⟩ := hx (xs[j]) (List.getElem_mem hj)
      have e2 : xs.getD j undef = .int .i64 z := by rw [List.getD_eq_getElem?_getD, e, Option.getD_some, hz]
      rw [e2]
      exact hcell j _ (by rw [e, hz]; rfl)
    have g1 := get (i * 2) (by omega)
    have g2 := get (i * 2 + 1) (by omega)
    rw [Nat.zero_add]
    exact ⟨g1, g2⟩
  · obtain ⟨a, cap, rfl, hcp⟩ := owns_form h
    exact ⟨0, fun _ => 0, fun _ => 0, ⟨hm, a, cap, rfl, hcp, fun h => absurd h h0⟩, fun h => absurd h h0⟩

/-- A slot's variable whose Kids are a row of their own. -/
structure SomeV (w : World) (X : Nat) (b : Int) (n : Nat) (v : Value) (d : ByteArray) (xs : List Value) : Prop where
  box : Box3 w X (.int .i64 b) v (.string d)
  row : w.ownsRow (X + 1) 33 2 v n xs
  nums : Nums xs

theorem grown_of_turn1 {w w1 : World} {B : Nat} (h : Turned (fun k => k = B) w w1) : w.grownBy w1 (some B) := ⟨h.os, h.tape, h.output, h.size, fun k hk hs => h.block k hk (fun e => hs (by rw [e]))⟩

theorem row_turned {w w1 : World} {B base e size n : Nat} {v : Value} {xs : List Value} (h : w.ownsRow base e size v n xs) (t : Turned (fun k => k = B) w w1) (hB : B < base) : w1.ownsRow base e size v n xs :=
  h.kept (grown_of_turn1 t) (Or.inr fun e => by have := h.lt B e; omega)

theorem SomeV.turned {w w1 : World} {X B n : Nat} {b : Int} {v : Value} {d : ByteArray} {xs : List Value} (h : SomeV w X b n v d xs) (t : Turned (fun k => k = B) w w1) (hB : B < X) : SomeV w1 X b n v d xs :=
  ⟨h.box.turned t (by omega), row_turned h.row t (by omega), h.nums⟩
theorem SomeV.below {w w1 : World} {X n : Nat} {b : Int} {v : Value} {d : ByteArray} {xs : List Value} (h : SomeV w X b n v d xs) (t : Below w.heap.size w w1) : SomeV w1 X b n v d xs :=
  ⟨h.box.below t, h.row.kept (grown_of_below t none) (by cases hv : v.ownBlock <;> simp), h.nums⟩

/-- What stands while l01Some goes on: the result's variable, the slot's, the source. -/
structure SomeI (w wx : World) (B X : Nat) : Prop where
  src : Src wx B
  turn : Turned (fun k => k = B) w wx
  res : Box3 wx (w.heap.size + 1) (.int .i64 0) (.slice none 0 0) (.string ⟨#[]⟩)
  place : B < w.heap.size ∧ w.heap.size + 2 ≤ X ∧ X < wx.heap.size

theorem SomeI.next {w wx wy : World} {B X : Nat} (h : SomeI w wx B X) (hs : Src wy B) (t : Turned (fun k => k = B) wx wy) : SomeI w wy B X :=
  ⟨hs, h.turn.trans t, h.res.turned t (by have := h.place; omega), h.place.1, h.place.2.1, Nat.lt_of_lt_of_le h.place.2.2 t.size⟩
/-- A block behind the variables is turned, or memory is made. -/
theorem SomeI.late {w wx wy : World} {B X C : Nat} (h : SomeI w wx B X) (t : Turned (fun k => k = C) wx wy) (hC : w.heap.size + 2 ≤ C) : SomeI w wy B X :=
  ⟨h.src.turned t (fun k hk => by have := h.place; omega), only_src h.turn t (by omega), h.res.turned t (by omega), h.place.1, h.place.2.1, Nat.lt_of_lt_of_le h.place.2.2 t.size⟩
theorem SomeI.below {w wx wy : World} {B X : Nat} (h : SomeI w wx B X) (t : Below wx.heap.size wx wy) : SomeI w wy B X :=
  ⟨h.src.below t, h.turn.trans (Turned.of_below t), h.res.below t, h.place.1, h.place.2.1, Nat.lt_of_lt_of_le h.place.2.2 t.size⟩

/-- The answer is a new slot. -/
def NewSome (B : Nat) (w : World) (e : Ending) (w' : World) : Prop :=
  ∃ (s : SlotD) (kv : Value) (kb : Nat), e = .returned (.agg #[.int .i64 s.birth, kv, .string s.data]) ∧ PtrsOwn w' kb kv s.kn s.ks s.kb ∧ (0 < s.kn → w.heap.size ≤ kb ∧ kb < w'.heap.size) ∧ s.kn ≤ 9 ∧ s.data.size ≤ 17 ∧ Src w' B ∧ Turned (fun k => k = B) w w'

theorem put3_turned (w : World) (X : Nat) (u0 u1 u2 : Value) : Turned (fun k => k = X) w (((w.setCell ⟨X, 0, none⟩ u0).setCell ⟨X, 1, none⟩ u1).setCell ⟨X, 2, none⟩ u2) :=
  ((Turned.put w X 0 u0).trans (Turned.put _ X 1 u1)).trans (Turned.put _ X 2 u2)

theorem some_end {w wx : World} {B X n : Nat} {b : Int} {v : Value} {d : ByteArray} {xs : List Value} (hI : SomeI w wx B X) (hS : SomeV wx X b n v d xs) (hn : n ≤ 9) (hd : d.size ≤ 17) :
    NewSome B w (.returned (.agg #[.int .i64 b, v, .string d])) (((wx.setCell ⟨w.heap.size + 1, 0, none⟩ (.int .i64 b)).setCell ⟨w.heap.size + 1, 1, none⟩ v).setCell ⟨w.heap.size + 1, 2, none⟩ (.string d)) := by
  have t := put3_turned wx (w.heap.size + 1) (.int .i64 b) v (.string d)
  have hp := hI.place
  obtain ⟨kb, f, g, h1, h2⟩ := nums_ptrs (by unfold maxLen; omega) (row_turned hS.row t (by omega)) hS.nums
  exact ⟨⟨b, n, f, g, d⟩, v, kb, rfl, h1, fun h0 => by have := h2 h0; exact ⟨by omega, this.2⟩, hn, hd, hI.src.turned t (fun k hk => by omega), only_src hI.turn t (by omega)⟩

/-- The slot's variable is written whole. -/
theorem SomeV.put {w : World} {X n m : Nat} {b c : Int} {v u : Value} {d e : ByteArray} {xs ys : List Value} (h : SomeV w X b n v d xs) (hr : w.ownsRow (X + 1) 33 2 u m ys) (hy : Nums ys) :
    SomeV (((w.setCell ⟨X, 0, none⟩ (.int .i64 c)).setCell ⟨X, 1, none⟩ u).setCell ⟨X, 2, none⟩ (.string e)) X c m u e ys :=
  ⟨h.box.put _ _ _, row_turned hr (put3_turned w X (.int .i64 c) u (.string e)) (by omega), hy⟩
theorem SomeV.putBirth {w : World} {X n : Nat} {b : Int} {v : Value} {d : ByteArray} {xs : List Value} (h : SomeV w X b n v d xs) (c : Int) : SomeV (w.setCell ⟨X, 0, none⟩ (.int .i64 c)) X c n v d xs :=
  ⟨⟨h.box.1.set _, h.box.2.1.other _ (Or.inr (by omega)), h.box.2.2.other _ (Or.inr (by omega))⟩, row_turned h.row (Turned.put _ _ _ _) (by omega), h.nums⟩
theorem SomeV.putData {w : World} {X n : Nat} {b : Int} {v : Value} {d : ByteArray} {xs : List Value} (h : SomeV w X b n v d xs) (e : ByteArray) : SomeV (w.setCell ⟨X, 2, none⟩ (.string e)) X b n v e xs :=
  ⟨⟨h.box.1.other _ (Or.inr (by omega)), h.box.2.1.other _ (Or.inr (by omega)), h.box.2.2.set _⟩, row_turned h.row (Turned.put _ _ _ _) (by omega), h.nums⟩
theorem SomeV.putKids {w : World} {X m : Nat} {b : Int} {v u : Value} {d : ByteArray} {ys : List Value} (h : Box3 w X (.int .i64 b) v (.string d)) (hr : w.ownsRow (X + 1) 33 2 u m ys) (hy : Nums ys) : SomeV (w.setCell ⟨X, 1, none⟩ u) X b m u d ys :=
  ⟨⟨h.1.other _ (Or.inr (by omega)), h.2.1.set _, h.2.2.other _ (Or.inr (by omega))⟩, row_turned hr (Turned.put _ _ _ _) (by omega), hy⟩

theorem some_new1 {w w3 w4 : World} {B X n : Nat} {b : Int} {v : Value} {d : ByteArray} {xs : List Value} (c : Int) (hI : SomeI w w3 B X) (hS : SomeV w3 X b n v d xs) (hs : Src w4 B) (t : Turned (fun k => k = B) w3 w4) :
    SomeI w ((((w4.alloc (.cells (zeros #[.int .i64 0, .int .i64 0] 8) 33)).setCell ⟨X, 0, none⟩ (.int .i64 c)).setCell ⟨X, 1, none⟩ (.slice (some ⟨w4.heap.size, 0, none⟩) 8 8)).setCell ⟨X, 2, none⟩ (.string ⟨#[]⟩)) B X ∧
    SomeV ((((w4.alloc (.cells (zeros #[.int .i64 0, .int .i64 0] 8) 33)).setCell ⟨X, 0, none⟩ (.int .i64 c)).setCell ⟨X, 1, none⟩ (.slice (some ⟨w4.heap.size, 0, none⟩) 8 8)).setCell ⟨X, 2, none⟩ (.string ⟨#[]⟩)) X c 8 (.slice (some ⟨w4.heap.size, 0, none⟩) 8 8) ⟨#[]⟩ (zeros #[.int .i64 0, .int .i64 0] 8).toList := by
  have hp := hI.place
  have hz := t.size
  refine ⟨((hI.next hs t).below (below_alloc _ _)).late (put3_turned _ _ _ _ _) hp.2.1, ((hS.turned t (by omega)).below (below_alloc _ _)).put ?_ (Nums.zeros 8)⟩
  exact World.ownsRow_lit w4 (zeros #[.int .i64 0, .int .i64 0] 8) 8 (by omega) (by unfold maxLen; omega) (by simp [zeros, madeCells])

theorem some_new2 {w w3 w4 : World} {B X n : Nat} {b : Int} {v : Value} {d : ByteArray} {xs : List Value} (c : Int) (hI : SomeI w w3 B X) (hS : SomeV w3 X b n v d xs) (hs : Src w4 B) (t : Turned (fun k => k = B) (w3.alloc (.cells (zeros #[.int .i64 0, .int .i64 0] 8) 33)) w4) :
    SomeI w (((w4.setCell ⟨X, 0, none⟩ (.int .i64 c)).setCell ⟨X, 1, none⟩ (.slice (some ⟨w3.heap.size, 0, none⟩) 8 8)).setCell ⟨X, 2, none⟩ (.string ⟨#[]⟩)) B X ∧
    SomeV (((w4.setCell ⟨X, 0, none⟩ (.int .i64 c)).setCell ⟨X, 1, none⟩ (.slice (some ⟨w3.heap.size, 0, none⟩) 8 8)).setCell ⟨X, 2, none⟩ (.string ⟨#[]⟩)) X c 8 (.slice (some ⟨w3.heap.size, 0, none⟩) 8 8) ⟨#[]⟩ (zeros #[.int .i64 0, .int .i64 0] 8).toList := by
  have hp := hI.place
  refine ⟨((hI.below (below_alloc _ _)).next hs t).late (put3_turned _ _ _ _ _) hp.2.1, ((hS.below (below_alloc _ _)).turned t (by omega)).put ?_ (Nums.zeros 8)⟩
  exact row_turned (World.ownsRow_lit w3 (zeros #[.int .i64 0, .int .i64 0] 8) 8 (by omega) (by unfold maxLen; omega) (by simp [zeros, madeCells])) t (by omega)

theorem turned_undrew {S : Nat → Prop} {w w1 : World} (h : Turned S w.drew w1) : Turned S w w1 := ⟨h.os, h.tape, h.output, h.size, h.block⟩

/-- A Kid is written. -/
theorem SomeV.kid {w : World} {X n g cg : Nat} {b : Int} {d : ByteArray} {xs : List Value} (h : SomeV w X b n (.slice (some ⟨g, 0, none⟩) n cg) d xs) (j j' : Nat) (i c : Int) :
    SomeV ((w.setCell ⟨g, j, none⟩ (.int .i64 i)).setCell ⟨g, j', none⟩ (.int .i64 c)) X b n (.slice (some ⟨g, 0, none⟩) n cg) d ((xs.set j (.int .i64 i)).set j' (.int .i64 c)) := by
  have hg := h.row.lt g rfl
  exact ⟨(h.box.other _ (by omega)).other _ (by omega), ((h.row.stored j _).1.stored j' _).1, (h.nums.set _ _).set _ _⟩
theorem SomeV.cell {w : World} {X n g cg : Nat} {b : Int} {d : ByteArray} {xs : List Value} (h : SomeV w X b n (.slice (some ⟨g, 0, none⟩) n cg) d xs) {j : Nat} (hj : j < n * 2) : ∃ z : Int, w.cell? ⟨g, j, none⟩ = some (.int .i64 z) ∧ w.frozen? ⟨g, j, none⟩ = false := by
  have hl := h.row.1
  have e := h.row.cellAt j hj
  rw [List.getElem?_eq_getElem (by omega)] at e
  obtain ⟨z, hz⟩ := h.nums _ (List.getElem_mem (by omega : j < xs.length))
  rw [hz] at e
  exact ⟨z, e, h.row.frozenAt j⟩

end Go.Proofs.Ytikhipekmlhibaa

namespace Go.Proofs.Ytikhipekmlhibaa
open Go.RowKit
set_option linter.unusedVariables false

set_option maxRecDepth 20000 in
set_option maxHeartbeats 4000000 in
theorem some_any (B lo hi : Nat) (v0 v1 : Value) (p : PoolD) (w : World) (h : Src w B) (hp : PoolAt w lo hi v0 v1 p) (hlo : B < lo) (hhi : hi ≤ w.heap.size) (hn : p.n ≤ 1000000) :
    Calls Try.prog 41 #[.pointer (some ⟨B, 0, none⟩), .agg #[v0, v1]] w (NewSome B w) := by
  have Hp := hide hp
  have hB := h.lt
  obtain ⟨a, c, a', c', rfl, rfl⟩ := hp.form
  have ha1 := below_alloc w (.cells #[.slice a p.n c, .slice a' p.hn c'] 26)
  have ha := below_next ha1 (below_alloc _ (.cells #[.int .i64 0, .slice none 0 0, .string ⟨#[]⟩] 29))
  have HB := hide ((Box2.new w (.slice a p.n c) (.slice a' p.hn c') 26).below (below_alloc _ (.cells #[.int .i64 0, .slice none 0 0, .string ⟨#[]⟩] 29)))
  have hr := Box3.new (w.alloc (.cells #[.slice a p.n c, .slice a' p.hn c'] 26)) (.int .i64 0) (.slice none 0 0) (.string ⟨#[]⟩) 29
  rw [World.size_alloc] at hr
  have HR := hide hr
  clear ha1 hr hp
  go_enter Try.func41, Try.ntmps41
  go_wp2_with fail
  refine (n_any B 9 _ (h.below ha) (by omega)).mono ?_
  rintro e w1 ⟨⟨r1, rfl, h10, h11⟩, hs1, ht1⟩
  have HB1 := hide (HB.out.turned ht1 (by omega))
  have HR1 := hide (HR.out.turned ht1 (by omega))
  have Hs1 := hide hs1
  have Ht1 := hide ((Turned.of_below (S := fun k => k = B) ha).trans ht1)
  have hz1 : w.heap.size + 2 ≤ w1.heap.size := by have := ht1.size; rw [World.size_alloc, World.size_alloc] at this; omega
  clear hs1 ht1 HB HR h ha
  go_wp2_with fail
  refine (data_any B _ Hs1.out).mono ?_
  rintro e w2 ⟨⟨d, rfl, hd⟩, hs2, ht2⟩
  have HB2 := hide (HB1.out.turned ht2 (by omega))
  have HI2 : Hid (Src w2 B ∧ Turned (fun k => k = B) w w2 ∧ Box3 w2 (w.heap.size + 1) (.int .i64 0) (.slice none 0 0) (.string ⟨#[]⟩)) := ⟨hs2, Ht1.out.trans ht2, HR1.out.turned ht2 (by omega)⟩
  have hz2 : w.heap.size + 2 ≤ w2.heap.size := by have := ht2.size; omega
  clear hs2 ht2 HB1 HR1 Hs1 Ht1 hz1
  go_wp2_with fail
  have hbx := below_alloc w2 (.cells #[.int .i64 (1 + r1), .slice none 0 0, .string d] 29)
  have HX : Hid (SomeV (w2.alloc (.cells #[.int .i64 (1 + r1), .slice none 0 0, .string d] 29)) w2.heap.size (1 + r1) 0 (.slice none 0 0) d []) := ⟨Box3.new _ _ _ _ _, World.ownsRow_nil _ _ _ _, fun u hu => by simp at hu⟩
  have HIx : Hid (SomeI w (w2.alloc (.cells #[.int .i64 (1 + r1), .slice none 0 0, .string d] 29)) B w2.heap.size) := ⟨HI2.out.1.below hbx, HI2.out.2.1.trans (Turned.of_below hbx), HI2.out.2.2.below hbx, hB, hz2, by rw [World.size_alloc]; omega⟩
  have HBx := hide (HB2.out.below hbx)
  generalize w2.alloc (.cells #[.int .i64 (1 + r1), .slice none 0 0, .string d] 29) = wx at HX HIx HBx ⊢
  generalize w2.heap.size = X at hz2 HX HIx ⊢
  clear HB2 HI2 hbx
  refine (one_any B 3 _ HIx.out.src (by omega)).mono ?_
  rintro e w3 ⟨⟨t3, rfl⟩, hs3, ht3⟩
  have HX3 := hide (HX.out.turned ht3 (by omega))
  have HI3 := hide (HIx.out.next hs3 ht3)
  have HB3 := hide (HBx.out.turned ht3 (by omega))
  clear hs3 ht3 HX HIx HBx
  go_upto_if 16 with fail
  go_cut [5] (fun v wc => v = .pointer (some ⟨X, 0, none⟩) ∧ SomeI w wc B X ∧ ∃ b n v d xs, SomeV wc X b n v d xs ∧ n ≤ 8 ∧ d.size ≤ 16)
  case first =>
    cases t3
    · go_wp2
      go_meet
      case rel => exact ⟨rfl, HI3.out, _, _, _, _, _, HX3.out, by omega, by omega⟩
    · go_upto_region 3 with fail
      have hmk := make_zeros 27 33 (.agg #[.int .i64 0, .int .i64 0]) 2 16 (by kernel_rfl) infoPtr rfl 8 (by omega) (by omega)
      have hmk' : ∀ w, (Instr.makeSlice 27 (.int .i64 8) (.int .i64 8)).run Try.prog w = .ok (.slice (some ⟨w.heap.size, 0, none⟩) 8 8) (w.alloc (.cells (zeros #[.int .i64 0, .int .i64 0] 8) 33)) := hmk
      clear hmk
      go_cut [5] (fun v wc => v = .pointer (some ⟨X, 0, none⟩) ∧ SomeI w wc B X ∧ Box2 wc w.heap.size (.slice a p.n c) (.slice a' p.hn c') ∧ ∃ b g c xs, SomeV wc X b 8 (.slice (some ⟨g, 0, none⟩) 8 c) ⟨#[]⟩ xs)
      case first =>
        obtain ⟨⟨x0, x1⟩, ⟨x2, x3⟩, ⟨x4, x5⟩⟩ := HX3.out.box
        (go_region_with (first
              | (go_at_call 66; refine (n_any B 9 _ ?_ (by omega)).mono ?_; (first | exact HI3.out.src.below (Below.refl _ _).drew | exact HI3.out.src.below (below_undrew (below_alloc _ _)) | exact (HI3.out.src.below (below_alloc _ _)).below (Below.refl _ _).drew | exact HI3.out.src.below (below_alloc _ _)); rintro e w4 ⟨⟨r4, rfl, h40, h41⟩, hs4, ht4⟩; have hT4 : Turned (fun k => k = B) w3 w4 := (by first | exact turned_undrew ht4 | exact (Turned.of_below (below_alloc _ _)).trans ht4 | exact (Turned.of_below (below_alloc w3 _)).trans (turned_undrew ht4)); have hX4 := HX3.out.turned hT4 (by omega); have z0 := hX4.box.1.1; have z1 := hX4.box.1.2; have z2 := hX4.box.2.1.1; have z3 := hX4.box.2.1.2; have z4 := hX4.box.2.2.1; have z5 := hX4.box.2.2.2; have hY4 := hX4.below (below_alloc w4 (.cells (zeros #[.int .i64 0, .int .i64 0] 8) 33)); have k0 := hY4.box.1.1; have k1 := hY4.box.1.2; have k2 := hY4.box.2.1.1; have k3 := hY4.box.2.1.2; have k4 := hY4.box.2.2.1; have k5 := hY4.box.2.2.2)))
        all_goals
          go_wp2_with fail
          go_meet
        all_goals
          first
            | exact ⟨rfl, (some_new1 _ HI3.out HX3.out hs4 hT4).1, ((HB3.out.turned hT4 (by omega)).below (below_alloc _ _)).turned (put3_turned _ _ _ _ _) (by omega), _, _, _, _, (some_new1 _ HI3.out HX3.out hs4 hT4).2⟩
            | exact ⟨rfl, (some_new2 _ HI3.out HX3.out hs4 (by first | exact ht4 | exact turned_undrew ht4)).1, (HB3.out.turned hT4 (by omega)).turned (put3_turned _ _ _ _ _) (by omega), _, _, _, _, (some_new2 _ HI3.out HX3.out hs4 (by first | exact ht4 | exact turned_undrew ht4)).2⟩
      case rest =>
        obtain ⟨rfl, hI, hB2, b, g, cg, xs, hS⟩ := hcut
        have HI4 := hide hI
        have HB4 := hide hB2
        have HS4 := hide hS
        clear hI hB2 hS HI3 HB3 HX3 hmk'
        go_wp2_with fail
        refine (n_any B 4 _ HI4.out.src (by omega)).mono ?_
        rintro e w5 ⟨⟨r5, rfl, h50, h51⟩, hs5, ht5⟩
        obtain ⟨k5, rfl⟩ := Int.eq_ofNat_of_zero_le h50
        have HI5 := hide (HI4.out.next hs5 ht5)
        have HB5 := hide (HB4.out.turned ht5 (by omega))
        have HS5 := hide (HS4.out.turned ht5 (by omega))
        clear hs5 ht5 HI4 HB4 HS4 h50
        go_wp2
        go_loopw [6] (fun i wr => ∃ (k : Nat) (xs : List Value), k ≤ 4 ∧ i = .int .i64 k ∧ SomeI w wr B X ∧ Box2 wr w.heap.size (.slice a p.n c) (.slice a' p.hn c') ∧ SomeV wr X b 8 (.slice (some ⟨g, 0, none⟩) 8 cg) ⟨#[]⟩ xs) (fun i _ => (intOf i).toNat)
        case atStart => exact ⟨k5, xs, by omega, rfl, HI5.out, HB5.out, HS5.out⟩
        case round =>
          obtain ⟨k, ys, hk, rfl, hI, hB2, hS⟩ := hrel
          have HI6 := hide hI
          have HB6 := hide hB2
          have HS6 := hide hS
          clear hI hB2 hS HI5 HB5 HS5
          obtain ⟨⟨x0, x1⟩, ⟨x2, x3⟩⟩ := HB6.out
          by_cases hk0 : 0 < k
          · have hk0' : (0 : Int) < (k : Int) := by omega
            by_cases hp0 : 0 < p.n
            · have hp0' : (0 : Int) < (p.n : Int) := by omega
              go_wp2_with fail
              refine (n_any B p.n _ HI6.out.src (by omega)).mono ?_
              rintro e w7 ⟨⟨r7, rfl, h70, h71⟩, hs7, ht7⟩
              obtain ⟨i7, rfl⟩ := Int.eq_ofNat_of_zero_le h70
              have hi7 : i7 < p.n := by omega
              have hi7' : (i7 : Int) < (p.n : Int) := by omega
              have HI7 := hide (HI6.out.next hs7 ht7)
              have HB7 := hide (HB6.out.turned ht7 (by omega))
              have HS7 := hide (HS6.out.turned ht7 (by omega))
              clear hs7 ht7 HI6 HB6 HS6 h70 h71 x0 x1 x2 x3
              have hpw := Hp.out.turned HI7.out.turn hhi (fun k hk => by omega)
              obtain ⟨⟨x0, x1⟩, ⟨x2, x3⟩⟩ := HB7.out
              obtain ⟨bb, off, ka, kc, rfl, hs⟩ := hpw.1.cells hi7
              obtain ⟨q0, q1, q2, _⟩ := hs
              clear hpw
              obtain ⟨⟨y0, y1⟩, ⟨y2, y3⟩, ⟨y4, y5⟩⟩ := HS7.out.box
              go_upto_region 9 with fail
              go_cut [56] (fun v wc => (∃ t : Bool, v = .bool t) ∧ SomeI w wc B X ∧ Box2 wc w.heap.size (.slice (some ⟨bb, off, none⟩) p.n c) (.slice a' p.hn c') ∧ SomeV wc X b 8 (.slice (some ⟨g, 0, none⟩) 8 cg) ⟨#[]⟩ ys)
              case first =>
                by_cases hb0 : 0 < (p.s i7).birth
                · by_cases hbb : (p.s i7).birth ≤ b
                  · go_wp2
                    go_meet
                    case rel => exact ⟨⟨_, rfl⟩, HI7.out, HB7.out, HS7.out⟩
                  · go_wp2_with fail
                    refine (one_any B 10 _ HI7.out.src (by omega)).mono ?_
                    rintro e w8 ⟨⟨t8, rfl⟩, hs8, ht8⟩
                    have HI8 := hide (HI7.out.next hs8 ht8)
                    have HB8 := hide (HB7.out.turned ht8 (by omega))
                    have HS8 := hide (HS7.out.turned ht8 (by omega))
                    clear hs8 ht8
                    go_wp2
                    go_meet
                    case rel => exact ⟨⟨_, rfl⟩, HI8.out, HB8.out, HS8.out⟩
                · go_wp2
                  go_meet
                  case rel => exact ⟨⟨_, rfl⟩, HI7.out, HB7.out, HS7.out⟩
              case rest =>
                obtain ⟨⟨t9, rfl⟩, hI, hB2, hS⟩ := hcut
                have HI9 := hide hI
                have HB9 := hide hB2
                have HS9 := hide hS
                obtain ⟨wn, rfl⟩ : ∃ x, x = wc := ⟨_, rfl⟩
                clear hI hB2 hS HI7 HB7 HS7 x0 x1 x2 x3 y0 y1 y2 y3 y4 y5 q0 q1 q2
                cases t9
                · go_wp2
                  go_roundw
                  case rel => exact ⟨k - 1, ys, by omega, congrArg (Value.int .i64) (by omega), HI9.out, HB9.out, HS9.out⟩
                  case measure => simp [intOf]; omega
                · obtain ⟨⟨y0, y1⟩, ⟨y2, y3⟩, ⟨y4, y5⟩⟩ := HS9.out.box
                  have hgX := HS9.out.row.lt g rfl
                  go_wp2_with fail
                  (go_region_with (first
                    | (go_at_call 66; refine (n_any B 8 _ ?_ (by omega)).mono ?_; (first | exact HI9.out.src | exact HI9.out.src.below (Below.refl _ _).drew); rintro e w10 ⟨⟨r10, rfl, h100, h101⟩, hs10, ht10⟩; obtain ⟨j10, rfl⟩ := Int.eq_ofNat_of_zero_le h100; have hj10 : j10 < 8 := (by omega); have hj10' : (j10 : Int) < 8 := (by omega); have hT10 : Turned (fun k => k = B) wn w10 := (by first | exact turned_undrew ht10 | exact ht10); have hS10 := HS9.out.turned hT10 (by omega); have z0 := hS10.box.2.1.1; have z1 := hS10.box.2.1.2; obtain ⟨c0, k0, k1⟩ := hS10.cell (j := j10 * 2) (by omega); obtain ⟨c1, k2, k3⟩ := hS10.cell (j := j10 * 2 + 1) (by omega))))
                  all_goals
                    go_wp2
                    go_roundw
                    case rel => exact ⟨k - 1, _, by omega, congrArg (Value.int .i64) (by omega), ((HI9.out.next hs10 hT10).late (Turned.put _ g _ _) (by have := HI9.out.place; omega)).late (Turned.put _ g _ _) (by have := HI9.out.place; omega), ((HB9.out.turned hT10 (by omega)).other _ (by have := HI9.out.place; omega)).other _ (by have := HI9.out.place; omega), hS10.kid _ _ _ _⟩
                    case measure => simp [intOf]; omega
            · have hp0' : ¬ (0 : Int) < (p.n : Int) := by omega
              go_wp2
              go_meet
              case rel => exact ⟨rfl, HI6.out, _, _, _, _, _, HS6.out, by omega, (show (0 : Nat) ≤ 16 from by omega)⟩
          · have hk0' : ¬ (0 : Int) < (k : Int) := by omega
            go_wp2
            go_meet
            case rel => exact ⟨rfl, HI6.out, _, _, _, _, _, HS6.out, by omega, (show (0 : Nat) ≤ 16 from by omega)⟩
  case rest =>
    obtain ⟨rfl, hI, b, n, v, d', xs, hS, hn8, hd16⟩ := hcut
    obtain ⟨ka, kc, rfl, hkc⟩ := owns_form hS.row
    have HI4 := hide hI
    have HS4 := hide hS
    clear hI hS HI3 HB3 HX3
    go_wp2_with fail
    refine (one_any B 20 _ HI4.out.src (by omega)).mono ?_
    rintro e w5 ⟨⟨t5, rfl⟩, hs5, ht5⟩
    have HI5 := hide (HI4.out.next hs5 ht5)
    have HS5 := hide (HS4.out.turned ht5 (by omega))
    clear hs5 ht5 HI4 HS4
    cases t5
    ·
      obtain ⟨⟨x0, x1⟩, ⟨x2, x3⟩, ⟨x4, x5⟩⟩ := HS5.out.box
      obtain ⟨⟨y0, y1⟩, ⟨y2, y3⟩, ⟨y4, y5⟩⟩ := HI5.out.res
      go_wp2
      have HR9 := HI5.out.res.put (.int .i64 b) (.slice ka n kc) (.string (d'))
      exact bodyPost_ret (v := .agg #[.int .i64 b, .slice ka n kc, .string (d')]) (by simp [results, Try.results41, go_sem, HR9.1.1, HR9.2.1.1, HR9.2.2.1]) rfl (some_end HI5.out HS5.out (by omega) (by omega))
    · go_wp2_with fail
      refine (n_any B 5 _ HI5.out.src (by omega)).mono ?_
      rintro e w6 ⟨⟨r6, rfl, h60, h61⟩, hs6, ht6⟩
      have HI6 := hide (HI5.out.next hs6 ht6)
      have HS6 := hide (HS5.out.turned ht6 (by omega))
      clear hs6 ht6 HI5 HS5
      obtain ⟨⟨x0, x1⟩, ⟨x2, x3⟩, ⟨x4, x5⟩⟩ := HS6.out.box
      obtain ⟨⟨y0, y1⟩, ⟨y2, y3⟩, ⟨y4, y5⟩⟩ := HI6.out.res
      by_cases e0 : r6 = 0
      · subst e0
        have HI7 := hide (HI6.out.late (put3_turned _ X (.int .i64 0) (.slice none 0 0) (.string ⟨#[]⟩)) hz2)
        have HS7 := hide (HS6.out.put (c := 0) (e := ⟨#[]⟩) (World.ownsRow_nil _ _ _ _) (fun u hu => by simp at hu))
        go_wp2
        have HR9 := HI7.out.res.put (.int .i64 (0)) (.slice none 0 0) (.string (⟨#[]⟩))
        exact bodyPost_ret (v := .agg #[.int .i64 (0), .slice none 0 0, .string (⟨#[]⟩)]) (by simp [results, Try.results41, go_sem, HR9.1.1, HR9.2.1.1, HR9.2.2.1]) rfl (some_end HI7.out HS7.out (by omega) (Nat.zero_le _))
      have f0 : (r6 == 0) = false := by simp [e0]
      by_cases e1 : r6 = 1
      · subst e1
        clear x0 x1 x2 x3 x4 x5 y0 y1 y2 y3 y4 y5
        go_wp2_with fail
        refine (edge_any B _ HI6.out.src).mono ?_
        rintro e w7 ⟨⟨r7, rfl⟩, hs7, ht7⟩
        have HI7 := hide (HI6.out.next hs7 ht7)
        have HS7 := hide (HS6.out.turned ht7 (by omega))
        clear hs7 ht7 HI6 HS6
        go_wp2_with fail
        have ha := below_alloc w7 (.cells #[.int .i64 0, .int .i64 1000000, .int .i64 1000001, .int .i64 r7] 2)
        refine (n_any B 4 _ (HI7.out.src.below ha) (by omega)).mono ?_
        rintro e w8 ⟨⟨r8, rfl, h80, h81⟩, hs8, ht8⟩
        obtain ⟨j8, rfl⟩ := Int.eq_ofNat_of_zero_le h80
        have hj8 : j8 < 4 := by omega
        have hj8' : (j8 : Int) < 4 := by omega
        obtain ⟨y, hy⟩ : ∃ y : Int, (#[.int .i64 0, .int .i64 1000000, .int .i64 1000001, .int .i64 r7] : Array Value)[j8]? = some (.int .i64 y) := by
          rcases j8 with _ | _ | _ | _ | j8
          all_goals first | exact ⟨_, rfl⟩ | omega
        have hB7 : B < w7.heap.size := HI7.out.src.lt
        have hc : w8.cell? ⟨w7.heap.size, j8, none⟩ = some (.int .i64 y) := ((cell_of_block (i := j8) (heap_alloc_new w7 (.cells #[.int .i64 0, .int .i64 1000000, .int .i64 1000001, .int .i64 r7] 2)) hy).turned ht8 (by omega)).1
        have HI8 := hide ((HI7.out.below ha).next hs8 ht8)
        have HS8 := hide ((HS7.out.below ha).turned ht8 (by omega))
        clear hs8 ht8 ha hy h81 HI7 HS7
        obtain ⟨⟨x0, x1⟩, ⟨x2, x3⟩, ⟨x4, x5⟩⟩ := HS8.out.box
        obtain ⟨⟨y0, y1⟩, ⟨y2, y3⟩, ⟨y4, y5⟩⟩ := HI8.out.res
        have HI9 := hide (HI8.out.late (Turned.put _ X 0 (.int .i64 y)) hz2)
        have HS9 := hide (HS8.out.putBirth y)
        go_wp2
        have HR9 := HI9.out.res.put (.int .i64 (y)) (.slice ka n kc) (.string (d'))
        exact bodyPost_ret (v := .agg #[.int .i64 (y), .slice ka n kc, .string (d')]) (by simp [results, Try.results41, go_sem, HR9.1.1, HR9.2.1.1, HR9.2.2.1]) rfl (some_end HI9.out HS9.out (by omega) (by omega))
      have f1 : (r6 == 1) = false := by simp [e1]
      by_cases e2 : r6 = 2
      · subst e2
        go_wp2
        refine bodyPost_ret (v := .agg #[.int .i64 b, .slice ka n kc, .string _]) ?_ rfl (some_end (HI6.out.late (Turned.put _ X 2 _) hz2) (HS6.out.putData _) (by omega) ?_)
        · have HR9 := fun u => (HI6.out.late (Turned.put _ X 2 (.string u)) hz2).res.put (.int .i64 b) (.slice ka n kc) (.string u)
          simp [results, Try.results41, go_sem, (HR9 _).1.1, (HR9 _).2.1.1, (HR9 _).2.2.1]
        · rw [ByteArray.size_append]
          show _ + 1 ≤ 17
          omega
      have f2 : (r6 == 2) = false := by simp [e2]
      by_cases e3 : r6 = 3
      · subst e3
        obtain ⟨i1, hi1, hzz1⟩ := Option.map_eq_some_iff.1 infoPtr
        simp only [Prod.mk.injEq] at hzz1
        have HI1 := hide (And.intro hi1 hzz1)
        clear hi1 hzz1
        have hal := below_alloc w6 (.cells #[.int .i64 0, .int .i64 0] 33)
        have HrowA := hide (HS6.out.below hal).row
        go_wp2_with (first
          | (at_builtin; refine wpList_append_own _ rfl _ _ 27 rfl (X + 1) 33 i1 (.agg #[.int .i64 0, .int .i64 0]) 2 16 (by kernel_rfl) HI1.out.1 HI1.out.2.1 HI1.out.2.2.1 HI1.out.2.2.2 rfl (by decide) (.slice ka n kc) n xs rfl ?c0 ⟨w6.heap.size, 0, none⟩ 1 1 [.int .i64 0, .int .i64 0] rfl rfl ?c1 ?c2 ?c3 ?c4 ?c5 ?_))
        case c0 => exact HrowA.out
        case c1 =>
          intro j u hj
          match j, hj with
          | 0, hj => simp at hj; subst hj; simp [Addr.add]
          | 1, hj => simp at hj; subst hj; simp [Addr.add]
          | (j + 2), hj => simp at hj
        case c2 => intro u hu; simp at hu; subst hu; rfl
        case c3 => unfold maxLen; omega
        case c4 => omega
        case c5 => have := HI6.out.place; simp; omega
        intro v7 w7 hown7 hgrow7 _
        obtain ⟨k7, c7, rfl, _⟩ := owns_form hown7
        have t7 := turned_of_grown hgrow7
        have hne7 : ∀ q, q ≤ X → ¬ (Value.slice ka n kc).ownBlock = some q := fun q hq e => by have := HrowA.out.lt q e; omega
        have hb7 := (HS6.out.below hal).box.turned t7 (hne7 X (Nat.le_refl _))
        have hi7 : SomeI w w7 B X := by
          have hp := HI6.out.place
          have ha := HI6.out.below hal
          refine ⟨ha.src.turned t7 (fun k hk => by have := HrowA.out.lt k hk; omega), ?_, ha.res.turned t7 (hne7 _ (by omega)), hp.1, hp.2.1, Nat.lt_of_lt_of_le ha.place.2.2 t7.size⟩
          refine ⟨t7.os.trans ha.turn.os, t7.tape.trans ha.turn.tape, t7.output.trans ha.turn.output, Nat.le_trans ha.turn.size t7.size, fun k hk hk2 => ?_⟩
          exact (t7.block k (Nat.lt_of_lt_of_le hk ha.turn.size) (hne7 k (by omega))).trans (ha.turn.block k hk hk2)
        have HB7 := hide hb7
        have HI7 := hide hi7
        have HN7 : Hid (Nums (xs ++ [.int .i64 0, .int .i64 0])) := HS6.out.nums.append (fun u hu => by simp at hu; exact ⟨0, hu⟩)
        have HR7 := hide hown7
        clear hown7 hgrow7 t7 hne7 hb7 hi7 x0 x1 x2 x3 x4 x5 y0 y1 y2 y3 y4 y5
        have HI9 := hide (HI7.out.late (Turned.put _ X 1 (.slice k7 (n + 1) c7)) hz2)
        have HS9 := hide (SomeV.putKids HB7.out HR7.out HN7.out)
        obtain ⟨⟨x0, x1⟩, ⟨x2, x3⟩, ⟨x4, x5⟩⟩ := HB7.out
        obtain ⟨⟨y0, y1⟩, ⟨y2, y3⟩, ⟨y4, y5⟩⟩ := HI7.out.res
        go_wp2
        have HR9 := HI9.out.res.put (.int .i64 (b)) (.slice k7 (n + 1) c7) (.string (d'))
        exact bodyPost_ret (v := .agg #[.int .i64 (b), .slice k7 (n + 1) c7, .string (d')]) (by simp [results, Try.results41, go_sem, HR9.1.1, HR9.2.1.1, HR9.2.2.1]) rfl (some_end HI9.out HS9.out (by omega) (by omega))
      have f3 : (r6 == 3) = false := by simp [e3]
      clear x0 x1 x2 x3 x4 x5 y0 y1 y2 y3 y4 y5
      go_wp2_with fail
      refine (edge_any B _ HI6.out.src).mono ?_
      rintro e w7 ⟨⟨r7, rfl⟩, hs7, ht7⟩
      have HI7 := hide (HI6.out.next hs7 ht7)
      have HS7 := hide (HS6.out.turned ht7 (by omega))
      clear hs7 ht7 HI6 HS6
      have ha := below_alloc w7 (.cells #[.int .i64 1, .int .i64 1, .int .i64 r7, .int .i64 2] 33)
      have HI8 := hide (HI7.out.below ha)
      have HS8 := hide (HS7.out.below ha)
      have HS9 := hide (SomeV.putKids HS8.out.box (World.ownsRow_lit (e := 33) (size := 2) (base := X + 1) w7 #[.int .i64 1, .int .i64 1, .int .i64 r7, .int .i64 2] 2 (by have := HI7.out.place; omega) (by unfold maxLen; omega) rfl) (fun u hu => by simp at hu; rcases hu with rfl | rfl | rfl <;> exact ⟨_, rfl⟩))
      have HI9 := hide (HI8.out.late (Turned.put _ X 1 (.slice (some ⟨w7.heap.size, 0, none⟩) 2 2)) hz2)
      obtain ⟨⟨x0, x1⟩, ⟨x2, x3⟩, ⟨x4, x5⟩⟩ := HS8.out.box
      obtain ⟨⟨y0, y1⟩, ⟨y2, y3⟩, ⟨y4, y5⟩⟩ := HI8.out.res
      ·
        go_wp2
        have HR9 := HI9.out.res.put (.int .i64 (b)) (.slice (some ⟨w7.heap.size, 0, none⟩) 2 2) (.string (d'))
        exact bodyPost_ret (v := .agg #[.int .i64 (b), .slice (some ⟨w7.heap.size, 0, none⟩) 2 2, .string (d')]) (by simp [results, Try.results41, go_sem, HR9.1.1, HR9.2.1.1, HR9.2.2.1]) rfl (some_end HI9.out HS9.out (by omega) (by omega))

end Go.Proofs.Ytikhipekmlhibaa

namespace Go.Proofs.Ytikhipekmlhibaa
open Go.RowKit
set_option linter.unusedVariables false

/-- How many slots PoolNew makes. -/
def many (x : Int) : Nat := if 0 ≤ x ∧ x ≤ 200 then x.toNat else 0

theorem infoSlot : (Try.prog.info? 29).map (fun i => (i.zero, i.size, i.bytes)) = some (some (.agg #[.int .i64 0, .slice none 0 0, .string ⟨#[]⟩]), 3, 48) := by kernel_rfl

theorem zero_own {w w' : World} {lo hi : Nat} : PoolOwn w' lo hi (.slice none 0 0) (.slice none 0 0) (newP 0) :=
  newP_own (g := 0) (Nat.zero_le _) ⟨none, 0, rfl, Nat.le_refl _, fun h => absurd h (Nat.lt_irrefl _)⟩ (fun i h => absurd h (Nat.not_lt_zero _))

/-- The cells of k free slots. -/
def zl : Nat → List Value
  | 0 => []
  | k + 1 => zl k ++ [.int .i64 0, .slice none 0 0, .string ⟨#[]⟩]

theorem zl_len (k : Nat) : (zl k).length = k * 3 := by
  induction k with
  | zero => rfl
  | succ k ih => simp [zl, ih]; omega

theorem zl_at (k i r : Nat) (hi : i < k) (hr : r < 3) : (zl k)[i * 3 + r]? = [Value.int .i64 0, .slice none 0 0, .string ⟨#[]⟩][r]? := by
  induction k with
  | zero => omega
  | succ k ih =>
    unfold zl
    by_cases e : i < k
    · rw [List.getElem?_append_left (by rw [zl_len]; omega)]; exact ih e
    · obtain rfl : i = k := by omega
      rw [List.getElem?_append_right (by rw [zl_len]; omega), zl_len]
      congr 1; omega

theorem two_alloc (w : World) (o1 o2 : Obj) : ((w.alloc o1).alloc o2).heap[w.heap.size]? = some o1 ∧ ((w.alloc o1).alloc o2).heap[w.heap.size + 1]? = some o2 ∧ w.heap.size + 2 ≤ ((w.alloc o1).alloc o2).heap.size := by
  refine ⟨?_, ?_, by simp⟩
  · show ((w.heap.push o1).push o2)[w.heap.size]? = _
    simp only [Array.getElem?_push, Array.size_push]
    rw [if_neg (by omega), if_pos trivial]
  · show ((w.heap.push o1).push o2)[w.heap.size + 1]? = _
    simp only [Array.getElem?_push, Array.size_push]
    rw [if_pos trivial]

theorem rows_own {w wr w' : World} {n : Nat} {v : Value} (hn : n ≤ 200) (hown : wr.ownsRow (w.heap.size + 2) 29 3 v n (zl n)) (hc : ∀ b o u, w.heap.size + 2 ≤ b → Cell wr b o u → Cell w' b o u) (hs : wr.heap.size ≤ w'.heap.size) :
    PoolOwn w' w.heap.size w'.heap.size v (.slice none 0 0) (newP n) := by
  have hm : n ≤ maxLen := by unfold maxLen; omega
  by_cases h0 : 0 < n
  · obtain ⟨g, cap, rfl, hcp, hg, hlt, hcell⟩ := owns_cell hown h0
    refine newP_own (g := g) hm ⟨_, cap, rfl, hcp, fun _ => ⟨rfl, by omega, by omega⟩⟩ (fun i hi => ?_)
    have cell : ∀ r u, r < 3 → [Value.int .i64 0, .slice none 0 0, .string ⟨#[]⟩][r]? = some u → Cell w' g (0 + i * 3 + r) u := fun r u hr hu => by
      rw [Nat.zero_add]
      exact hc g _ u hg (hcell _ u (by rw [zl_at n i r hi hr]; exact hu))
    exact ⟨cell 0 _ (by omega) rfl, cell 1 _ (by omega) rfl, cell 2 _ (by omega) rfl⟩
  · obtain ⟨a, cap, rfl, hcp⟩ := owns_form hown
    exact newP_own (g := 0) hm ⟨a, cap, rfl, hcp, fun h => absurd h h0⟩ (fun i hi => absurd hi (by omega))

set_option maxRecDepth 20000 in
set_option maxHeartbeats 400000 in
theorem specPoolNew_any (x : Int) (w : World) : Calls Try.prog 96 #[.int .i64 x] w (NewPool (newP (many x)) w) := by
  by_cases h1 : x < 0 ∨ 200 < x
  · have hm : Hid (many x = 0) := if_neg (by omega)
    go_enter Try.func96, Try.ntmps96
    go_wp2
    refine wp_loop_rounds 1 ?_
    rw [rounds_succ]
    rcases h1 with h1 | h1
    · have h2 : ¬ 0 < x := by omega
      go_wp2
      refine bodyPost_ret (v := .agg #[.slice none 0 0, .slice none 0 0]) (by simp [results, Try.results96, go_sem]) rfl ?_
      rw [hm.out]
      exact ⟨_, _, rfl, zero_own (w := w), ((Below.refl _ _).alloc (Nat.le_refl _) _).alloc (by simp) _⟩
    · have h2 : 0 < x := by omega
      have h3 : ¬ x ≤ 200 := by omega
      go_wp2
      refine bodyPost_ret (v := .agg #[.slice none 0 0, .slice none 0 0]) (by simp [results, Try.results96, go_sem]) rfl ?_
      rw [hm.out]
      exact ⟨_, _, rfl, zero_own (w := w), ((Below.refl _ _).alloc (Nat.le_refl _) _).alloc (by simp) _⟩
  · obtain ⟨n, rfl⟩ := Int.eq_ofNat_of_zero_le (by omega : 0 ≤ x)
    have hn : (n : Int) ≤ 200 := by omega
    have hm : Hid (many (n : Int) = n) := (if_pos ⟨by omega, by omega⟩).trans (by simp)
    clear h1
    obtain ⟨i0, hi, hzz⟩ := Option.map_eq_some_iff.1 infoSlot
    simp only [Prod.mk.injEq] at hzz
    obtain ⟨hz, hs, hby⟩ := hzz
    have HI : Hid (Try.prog.info? 29 = some i0 ∧ i0.zero = some (.agg #[.int .i64 0, .slice none 0 0, .string ⟨#[]⟩]) ∧ i0.size = 3 ∧ i0.bytes = 48) := ⟨hi, hz, hs, hby⟩
    clear hi hz hs hby
    go_enter Try.func96, Try.ntmps96
    go_wp2
    go_loopw [4] (fun i wr => ∃ (k : Nat) (v : Value), k ≤ n ∧ i = .int .i64 k ∧ wr.heap[w.heap.size]? = some (.cells #[.slice none 0 0, .slice none 0 0] 26) ∧ wr.heap[w.heap.size + 1]? = some (.cells #[v, .slice none 0 0] 26) ∧
        wr.ownsRow (w.heap.size + 2) 29 3 v k (zl k) ∧ Below w.heap.size w wr ∧ w.heap.size + 2 ≤ wr.heap.size) (fun i _ => n - (intOf i).toNat)
    case atStart =>
      obtain ⟨t1, t2, t3⟩ := two_alloc w (.cells #[.slice none 0 0, .slice none 0 0] 26) (.cells #[.slice none 0 0, .slice none 0 0] 26)
      exact ⟨0, .slice none 0 0, Nat.zero_le _, rfl, t1, t2, World.ownsRow_nil _ _ _ _, ((Below.refl _ _).alloc (Nat.le_refl _) _).alloc (by simp) _, t3⟩
    case round =>
      obtain ⟨k, v, hk, rfl, hb0, hb1, hown, hb, hsz⟩ := hrel
      obtain ⟨a, cap, rfl, _⟩ := owns_form hown
      obtain ⟨hc0, hf0⟩ := cell_of_block (i := 0) (v := .slice a k cap) hb1 rfl
      obtain ⟨hc1, hf1⟩ := cell_of_block (i := 1) (v := .slice none 0 0) hb1 rfl
      obtain ⟨hc2, hf2⟩ := cell_of_block (i := 0) (v := .slice none 0 0) hb0 rfl
      obtain ⟨hc3, hf3⟩ := cell_of_block (i := 1) (v := .slice none 0 0) hb0 rfl
      have Hb : Hid (wr.heap[w.heap.size]? = some (.cells #[.slice none 0 0, .slice none 0 0] 26) ∧ wr.heap[w.heap.size + 1]? = some (.cells #[.slice a k cap, .slice none 0 0] 26)) := ⟨hb0, hb1⟩
      clear hb0 hb1
      by_cases hlt : k < n
      · have hlt' : (k : Int) < (n : Int) := by omega
        obtain ⟨hi, hz, hs, hby⟩ := HI.out
        have hu := Try.underlying23
        go_wp2_with (first
          | (at_builtin; refine wpList_append_own _ rfl _ _ 23 rfl (w.heap.size + 2) 29 i0 (.agg #[.int .i64 0, .slice none 0 0, .string ⟨#[]⟩]) 3 48 hu hi hz hs hby rfl (by decide) _ _ _ rfl (hown.alloc _) ⟨wr.heap.size, 0, none⟩ 1 1 [.int .i64 0, .slice none 0 0, .string ⟨#[]⟩] rfl rfl ?c1 ?c2 ?c3 ?c4 ?c5 ?_))
        case c1 =>
          intro j u hj
          match j, hj with
          | 0, hj => simp at hj; subst hj; simp [Addr.add]
          | 1, hj => simp at hj; subst hj; simp [Addr.add]
          | 2, hj => simp at hj; subst hj; simp [Addr.add]
        case c2 =>
          intro u hu
          simp at hu
          rcases hu with rfl | rfl | rfl <;> rfl
        case c3 => unfold maxLen; omega
        case c4 => omega
        case c5 => simp; omega
        intro v' w1 hown' hgrow hnil
        obtain ⟨a', cap', rfl, _⟩ := owns_form hown'
        have hbl : w1.heap[w.heap.size + 1]? = some (.cells #[.slice a k cap, .slice none 0 0] 26) := by
          rw [grown_block hgrow (hown.alloc _) (by omega) (by simp; omega), Below.heap_alloc _ _ _ (by omega)]; exact Hb.out.2
        have hbl0 : w1.heap[w.heap.size]? = some (.cells #[.slice none 0 0, .slice none 0 0] 26) := by
          rw [grown_block hgrow (hown.alloc _) (by omega) (by simp; omega), Below.heap_alloc _ _ _ (by omega)]; exact Hb.out.1
        obtain ⟨hd0, hg0⟩ := cell_of_block (i := 0) (v := .slice a k cap) hbl rfl
        have Hbl : Hid (w1.heap[w.heap.size]? = some (.cells #[.slice none 0 0, .slice none 0 0] 26) ∧ w1.heap[w.heap.size + 1]? = some (.cells #[.slice a k cap, .slice none 0 0] 26)) := ⟨hbl0, hbl⟩
        have hbn : Below w.heap.size w w1 := (hb.alloc hb.size _).grown hgrow (by simp; omega) (fun q hq => by have := (hown.alloc (.cells #[.int .i64 0, .slice none 0 0, .string ⟨#[]⟩] 29)).lt q hq; omega)
        have hs1 : w.heap.size + 2 ≤ w1.heap.size := by have := hgrow.size; simp at this; omega
        clear hbl hbl0 hc0 hf0 hc1 hf1 hc2 hf2 hc3 hf3 hnil
        go_wp2
        go_roundw
        case rel =>
          refine ⟨k + 1, .slice a' (k + 1) cap', by omega, by go_num, ?_, ?_, ownsRow_setCell_below hown' (by show w.heap.size + 1 < w.heap.size + 2; omega) _, hbn.setCell (by show w.heap.size ≤ w.heap.size + 1; omega) _, by simp; omega⟩
          · rw [Below.heap_setCell _ _ _ _ (by show w.heap.size ≠ w.heap.size + 1; omega)]; exact Hbl.out.1
          · exact heap_setCell_at _ Hbl.out.2
        case measure => simp [intOf]; omega
      · obtain rfl : k = n := by omega
        go_wp2
        refine bodyPost_ret (v := .agg #[.slice a k cap, .slice none 0 0]) ?_ rfl ?_
        · have z0 : ((wr.setCell ⟨w.heap.size, 0, none⟩ (.slice a k cap)).setCell ⟨w.heap.size, 1, none⟩ (.slice none 0 0)).cell? ⟨w.heap.size, 0, none⟩ = some (.slice a k cap) := (((show Cell wr w.heap.size 0 _ from ⟨hc2, hf2⟩).set (.slice a k cap)).other (b' := w.heap.size) (o' := 1) (.slice none 0 0) (Or.inr (by omega))).1
          have z1 : ((wr.setCell ⟨w.heap.size, 0, none⟩ (.slice a k cap)).setCell ⟨w.heap.size, 1, none⟩ (.slice none 0 0)).cell? ⟨w.heap.size, 1, none⟩ = some (.slice none 0 0) := (((show Cell wr w.heap.size 1 _ from ⟨hc3, hf3⟩).other (b' := w.heap.size) (o' := 0) (.slice a k cap) (Or.inr (by omega))).set (.slice none 0 0)).1
          simp [results, Try.results96, go_sem, z0, z1]
        rw [hm.out]
        refine ⟨_, _, rfl, rows_own (by omega) hown (fun b o u hb' hu => (hu.other _ (Or.inl (by omega))).other _ (Or.inl (by omega))) (by simp), (hb.setCell (Nat.le_refl _) _).setCell (Nat.le_refl _) _⟩

end Go.Proofs.Ytikhipekmlhibaa
