/- What a pool that comes in is in memory: out of the reading of its arguments, the plain facts on cells. -/
import Derived.Test.YtikhipekmlhibaeRows
import Derived.Test.YtikhipekmlhibaeG1
import Derived.ProofKit
import Derived.Deep.Slices
import Derived.Deep.SlicePairs
import Derived.Deep.Strs
import Derived.Deep.MidRow
import Derived.Lib.SmallJoins
namespace Go.Proofs.Ytikhipekmlhibae
open Go.RowKit Go.Deep Go.Joins
open Go.ChangeShapes Go.WideShapes Go.ChangeAt
set_option linter.unusedVariables false
set_option maxRecDepth 20000

section
variable {H : Type} {enc : TypeId × Value → H} {W : World} {spare : Nat → Bool} {held : Bool}

theorem addr_of_cell {w : World} {a : Addr} {v : Value} (h : w.cell? a = some v) : ∃ b off, a = ⟨b, off, none⟩ := by
  obtain ⟨b, off, spot⟩ := a
  have hs : spot = none := by simpa using World.cell?_spot h
  subst hs
  exact ⟨b, off, rfl⟩

theorem slice_val {v : Value} {a : Option Addr} {n c : Nat} (h : [v] = [Value.slice a n c]) : v = .slice a n c := by simpa using h

theorem open_ints_at {fuel : Nat} {v : Value} {x : DataW H × List MemPlace} (h : DataW.trod enc Try.prog W 0 spare held fuel 23 [v] = some x) : ∃ n f, IntsAt W 0 W.heap.size v n f := by
  rcases open_slice1 (t := 23) (e := 2) (by kernel_rfl) (by kernel_rfl) h with ⟨hv, _⟩ | ⟨a, len, cap, m, n, V, D, Pl, hv, _, hl, hm, hmm, _, hx⟩
  · exact ⟨0, fun _ => 0, Nat.zero_le _, none, 0, slice_val hv, Nat.le_refl _, fun h => absurd h (Nat.lt_irrefl _)⟩
  · have hlm : len ≤ m := by rw [hmm]; split <;> omega
    have hV : ∀ i, i < len → ∃ z : Int, V i = .int .i64 z := fun i hi => by
      obtain ⟨_, ht⟩ := hx i (by omega)
      obtain ⟨z, hz, _⟩ := DataW.trod_int (show Try.prog.underlying 2 = some (.int .i64) by kernel_rfl) ht
      exact ⟨z, by simpa using hz⟩
    refine ⟨len, fun i => intOf (V i), by unfold maxLen at *; omega, some a, cap, slice_val hv, hl, fun h0 => ?_⟩
    have hc0 := (hx 0 (by omega)).1
    rw [show a.add 0 = a by simp [Addr.add]] at hc0
    obtain ⟨b, off, rfl⟩ := addr_of_cell hc0
    refine ⟨b, off, rfl, Nat.zero_le _, lt_of_cell hc0, fun i hi => ?_⟩
    have hc := (hx i (by omega)).1
    rw [Addr.add_mid] at hc
    obtain ⟨z, hz⟩ := hV i hi
    show _ = some (Value.int .i64 (intOf (V i)))
    rw [hc, hz]
    rfl

/-- A field of a struct that is read, by its place. -/
theorem field_of {t T o c i : Nat} {fuel : Nat} {cs : List Value} {x : DataW H × List MemPlace} (hs : Try.prog.underlying t = some (.struct (Try.prog.fieldsOf t))) (hf : ((Try.prog.fieldsOf t)[i]?).map (fun f => (f.type, f.offset)) = some (T, o))
    (hc : Try.prog.cellsOf T = c) (h : DataW.trod enc Try.prog W 0 spare held fuel t cs = some x) : ∃ n y, DataW.trod enc Try.prog W 0 spare held n T ((cs.drop o).take c) = some y := by
  obtain ⟨f, hf1, hf2⟩ := Option.map_eq_some_iff.1 hf
  simp only [Prod.mk.injEq] at hf2
  obtain ⟨rfl, rfl⟩ := hf2
  obtain ⟨xs, n, _, _, _, hxl, hfs⟩ := DataW.trod_struct hs h
  have hi : i < (Try.prog.fieldsOf t).size := (Array.getElem?_eq_some_iff.1 hf1).1
  have := hfs i f hf1
  rw [hc, List.getElem?_eq_getElem (by omega)] at this
  exact ⟨n, _, this⟩

theorem open_ptr_cells {fuel : Nat} {c0 c1 : Value} {x : DataW H × List MemPlace} (h : DataW.trod enc Try.prog W 0 spare held fuel 27 [c0, c1] = some x) : ∃ y z : Int, c0 = .int .i64 y ∧ c1 = .int .i64 z := by
  obtain ⟨n0, y0, h0⟩ := field_of (t := 27) (T := 2) (o := 0) (c := 1) (i := 0) (by kernel_rfl) (by kernel_rfl) (by kernel_rfl) h
  obtain ⟨n1, y1, h1⟩ := field_of (t := 27) (T := 2) (o := 1) (c := 1) (i := 1) (by kernel_rfl) (by kernel_rfl) (by kernel_rfl) h
  obtain ⟨y, hy, _⟩ := DataW.trod_int (show Try.prog.underlying 2 = some (.int .i64) by kernel_rfl) h0
  obtain ⟨z, hz, _⟩ := DataW.trod_int (show Try.prog.underlying 2 = some (.int .i64) by kernel_rfl) h1
  exact ⟨y, z, by simpa using hy, by simpa using hz⟩

theorem open_ptr {r : Reach} {b0 : Nat} {v : Value} {d : DataW H} {ps : List MemPlace} (hv : Value.okWide Try.prog W r b0 27 v) (h : DataW.Trod enc Try.prog W 0 spare held 27 v d ps) :
    ∃ x y : Int, v = .agg #[.int .i64 x, .int .i64 y] := by
  have hs : Try.prog.underlying 27 = some (.struct (Try.prog.fieldsOf 27)) := by kernel_rfl
  obtain ⟨cs, rfl, hsz⟩ := okWide_struct hs hv
  obtain ⟨c0, c1, rfl⟩ := array2 (hsz.trans (by kernel_rfl))
  obtain ⟨fuel, hf⟩ := h
  have hf' : DataW.trod enc Try.prog W 0 spare held fuel 27 [c0, c1] = some (d, ps) := by simpa [Value.cells] using hf
  obtain ⟨x, y, rfl, rfl⟩ := open_ptr_cells hf'
  exact ⟨x, y, rfl⟩

theorem open_ptrs_at {fuel : Nat} {v : Value} {x : DataW H × List MemPlace} (h : DataW.trod enc Try.prog W 0 spare held fuel 50 [v] = some x) : ∃ n f g, PtrsAt W 0 W.heap.size v n f g := by
  rcases open_slice (t := 50) (e := 27) (by kernel_rfl) h with ⟨hv, _⟩ | ⟨a, len, cap, m, n, D, Pl, hv, _, hl, hm, hmm, _, hx⟩
  · exact ⟨0, fun _ => 0, fun _ => 0, Nat.zero_le _, none, 0, slice_val hv, Nat.le_refl _, fun h => absurd h (Nat.lt_irrefl _)⟩
  · have hlm : len ≤ m := by rw [hmm]; split <;> omega
    have hc2 : Try.prog.cellsOf 27 = 2 := by kernel_rfl
    rw [hc2] at hx
    have hV : ∀ i, i < len → ∃ y z : Int, W.cell? (a.add (i * 2)) = some (.int .i64 y) ∧ W.cell? ((a.add (i * 2)).add 1) = some (.int .i64 z) := fun i hi => by
      obtain ⟨cs, hcs, ht⟩ := hx i (by omega)
      obtain ⟨_, hlen, hcell⟩ := World.cells?_some hcs
      match cs, hlen with
      | [c0, c1], _ =>
        obtain ⟨y, z, rfl, rfl⟩ := open_ptr_cells ht
        have q0 := hcell 0 (by omega)
        have q1 := hcell 1 (by omega)
        rw [show (a.add (i * 2)).add 0 = a.add (i * 2) by simp [Addr.add]] at q0
        exact ⟨y, z, by simpa using q0, by simpa using q1⟩
    refine ⟨len, fun i => intOf ((W.cell? (a.add (i * 2))).getD undef), fun i => intOf ((W.cell? ((a.add (i * 2)).add 1)).getD undef), by unfold maxLen at *; omega, some a, cap, slice_val hv, hl, fun h0 => ?_⟩
    obtain ⟨y, z, hc0, _⟩ := hV 0 h0
    rw [show a.add (0 * 2) = a by simp [Addr.add]] at hc0
    obtain ⟨b, off, rfl⟩ := addr_of_cell hc0
    refine ⟨b, off, rfl, Nat.zero_le _, lt_of_cell hc0, fun i hi => ?_⟩
    obtain ⟨y, z, q0, q1⟩ := hV i hi
    show _ = some (Value.int .i64 (intOf ((W.cell? _).getD undef))) ∧ _ = some (Value.int .i64 (intOf ((W.cell? _).getD undef)))
    rw [q0, q1]
    rw [Addr.add_mid, Addr.add_mid] at q1
    rw [Addr.add_mid] at q0
    exact ⟨q0, q1⟩

theorem open_slot_cells {fuel : Nat} {c0 c1 c2 : Value} {x : DataW H × List MemPlace} (h : DataW.trod enc Try.prog W 0 spare held fuel 106 [c0, c1, c2] = some x) : ∃ s, SlotAt W 0 W.heap.size c0 c1 c2 s := by
  obtain ⟨n0, y0, h0⟩ := field_of (t := 106) (T := 2) (o := 0) (c := 1) (i := 0) (by kernel_rfl) (by kernel_rfl) (by kernel_rfl) h
  obtain ⟨n1, y1, h1⟩ := field_of (t := 106) (T := 50) (o := 1) (c := 1) (i := 1) (by kernel_rfl) (by kernel_rfl) (by kernel_rfl) h
  obtain ⟨n2, y2, h2⟩ := field_of (t := 106) (T := 9) (o := 2) (c := 1) (i := 2) (by kernel_rfl) (by kernel_rfl) (by kernel_rfl) h
  obtain ⟨y, hy, _⟩ := DataW.trod_int (show Try.prog.underlying 2 = some (.int .i64) by kernel_rfl) h0
  obtain ⟨n, f, g, hp⟩ := open_ptrs_at (v := c1) (by simpa using h1)
  obtain ⟨d, hd, _, hsz⟩ := DataW.trod_string (show Try.prog.underlying 9 = some .string by kernel_rfl) h2
  exact ⟨⟨y, n, f, g, d⟩, by simpa using hy, hp, by simpa using hd, hsz⟩

theorem open_slots_at {fuel : Nat} {v : Value} {x : DataW H × List MemPlace} (h : DataW.trod enc Try.prog W 0 spare held fuel 22 [v] = some x) : ∃ n f, SlotsAt W 0 W.heap.size v n f := by
  rcases open_slice (t := 22) (e := 106) (by kernel_rfl) h with ⟨hv, _⟩ | ⟨a, len, cap, m, n, D, Pl, hv, _, hl, hm, hmm, _, hx⟩
  · exact ⟨0, fun _ => ⟨0, 0, fun _ => 0, fun _ => 0, ByteArray.empty⟩, Nat.zero_le _, none, 0, slice_val hv, Nat.le_refl _, fun h => absurd h (Nat.lt_irrefl _)⟩
  · have hlm : len ≤ m := by rw [hmm]; split <;> omega
    have hc3 : Try.prog.cellsOf 106 = 3 := by kernel_rfl
    rw [hc3] at hx
    have hV : ∀ i, i < len → ∃ s : SlotD, ∃ c0 c1 c2, W.cell? (a.add (i * 3)) = some c0 ∧ W.cell? ((a.add (i * 3)).add 1) = some c1 ∧ W.cell? ((a.add (i * 3)).add 2) = some c2 ∧ SlotAt W 0 W.heap.size c0 c1 c2 s := fun i hi => by
      obtain ⟨cs, hcs, ht⟩ := hx i (by omega)
      obtain ⟨_, hlen, hcell⟩ := World.cells?_some hcs
      match cs, hlen with
      | [c0, c1, c2], _ =>
        obtain ⟨s, hs⟩ := open_slot_cells ht
        have q0 := hcell 0 (by omega)
        have q1 := hcell 1 (by omega)
        have q2 := hcell 2 (by omega)
        rw [show (a.add (i * 3)).add 0 = a.add (i * 3) by simp [Addr.add]] at q0
        exact ⟨s, c0, c1, c2, by simpa using q0, by simpa using q1, by simpa using q2, hs⟩
    have hinh : Inhabited SlotD := ⟨⟨0, 0, fun _ => 0, fun _ => 0, ByteArray.empty⟩⟩
    obtain ⟨f, hf⟩ := choose_lt (α := SlotD) (p := fun i s => ∃ c0 c1 c2, W.cell? (a.add (i * 3)) = some c0 ∧ W.cell? ((a.add (i * 3)).add 1) = some c1 ∧ W.cell? ((a.add (i * 3)).add 2) = some c2 ∧ SlotAt W 0 W.heap.size c0 c1 c2 s) hV
    refine ⟨len, f, by unfold maxLen at *; omega, some a, cap, slice_val hv, hl, fun h0 => ?_⟩
    obtain ⟨c0, c1, c2, hc0, _⟩ := hf 0 h0
    rw [show a.add (0 * 3) = a by simp [Addr.add]] at hc0
    obtain ⟨b, off, rfl⟩ := addr_of_cell hc0
    refine ⟨b, off, rfl, Nat.zero_le _, lt_of_cell hc0, fun i hi => ?_⟩
    obtain ⟨c0, c1, c2, q0, q1, q2, hs⟩ := hf i hi
    rw [Addr.add_mid, Addr.add_mid] at q1 q2
    rw [Addr.add_mid] at q0
    exact ⟨c0, c1, c2, q0, q1, q2, hs⟩

theorem open_pool {r : Reach} {b0 : Nat} {v : Value} {d : DataW H} {ps : List MemPlace} (hv : Value.okWide Try.prog W r b0 25 v) (h : DataW.Trod enc Try.prog W 0 spare held 25 v d ps) :
    ∃ v0 v1 p, v = .agg #[v0, v1] ∧ PoolAt W 0 W.heap.size v0 v1 p := by
  have hs : Try.prog.underlying 25 = some (.struct (Try.prog.fieldsOf 25)) := by kernel_rfl
  obtain ⟨cs, rfl, hsz⟩ := okWide_struct hs hv
  obtain ⟨c0, c1, rfl⟩ := array2 (hsz.trans (by kernel_rfl))
  obtain ⟨fuel, hf⟩ := h
  have hf' : DataW.trod enc Try.prog W 0 spare held fuel 25 [c0, c1] = some (d, ps) := by simpa [Value.cells] using hf
  obtain ⟨n0, y0, h0⟩ := field_of (t := 25) (T := 22) (o := 0) (c := 1) (i := 0) (by kernel_rfl) (by kernel_rfl) (by kernel_rfl) hf'
  obtain ⟨n1, y1, h1⟩ := field_of (t := 25) (T := 23) (o := 1) (c := 1) (i := 1) (by kernel_rfl) (by kernel_rfl) (by kernel_rfl) hf'
  obtain ⟨n, f, hsl⟩ := open_slots_at (v := c0) (by simpa using h0)
  obtain ⟨hn, g, hin⟩ := open_ints_at (v := c1) (by simpa using h1)
  exact ⟨c0, c1, ⟨n, f, hn, g⟩, rfl, hsl, hin⟩

end

end Go.Proofs.Ytikhipekmlhibae
