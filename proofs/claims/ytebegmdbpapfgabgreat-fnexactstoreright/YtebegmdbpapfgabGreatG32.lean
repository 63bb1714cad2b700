/- What a world that comes in is in memory: out of the reading of its arguments, the plain facts on cells. -/
import Derived.Test.YtebegmdbpapfgabGreatG31
import Derived.Test.YtebegmdbpapfgabGreatG22
namespace Go.Proofs.YtebegmdbpapfgabGreat
open Go.RowKit Go.Deep Go.Joins
open Go.ChangeShapes Go.WideShapes Go.ChangeAt
set_option linter.unusedVariables false
set_option maxRecDepth 20000

section
variable {H : Type} {enc : TypeId × Value → H} {W : World} {spare : Nat → Bool} {held : Bool}

/-- Its numbers are of sixty-four bits. -/
def SetWf (s : SetD) : Prop := (Lit.int .i64 s.origin).wf = true ∧ (Lit.int .i64 s.prev).wf = true

theorem open_set_cells {fuel : Nat} {c0 c1 c2 c3 c4 c5 : Value} {x : DataW H × List MemPlace} (h : DataW.trod enc Tryz.prog W 0 spare held fuel 90 [c0, c1, c2, c3, c4, c5] = some x) : ∃ s : SetD, c0 = .string s.name ∧ c1 = .int .i64 s.origin ∧ c2 = .int .i64 s.prev ∧ c3 = .int .i64 s.rs ∧ c4 = .int .i64 s.rb ∧ PtrsAt W 0 W.heap.size c5 s.dn s.ds s.db ∧ s.name.size ≤ maxLen ∧ SetWf s := by
  obtain ⟨n0, y0, h0⟩ := field_of (t := 90) (T := 9) (o := 0) (c := 1) (i := 0) (by kernel_rfl) (by kernel_rfl) (by kernel_rfl) h
  obtain ⟨z0, e0, -, w0⟩ := DataW.trod_string (show Tryz.prog.underlying 9 = some .string by kernel_rfl) h0
  obtain ⟨n1, y1, h1⟩ := field_of (t := 90) (T := 2) (o := 1) (c := 1) (i := 1) (by kernel_rfl) (by kernel_rfl) (by kernel_rfl) h
  obtain ⟨z1, e1, -, w1⟩ := DataW.trod_int (show Tryz.prog.underlying 2 = some (.int .i64) by kernel_rfl) h1
  obtain ⟨n2, y2, h2⟩ := field_of (t := 90) (T := 2) (o := 2) (c := 1) (i := 2) (by kernel_rfl) (by kernel_rfl) (by kernel_rfl) h
  obtain ⟨z2, e2, -, w2⟩ := DataW.trod_int (show Tryz.prog.underlying 2 = some (.int .i64) by kernel_rfl) h2
  obtain ⟨n3, y3, h3⟩ := field_of (t := 90) (T := 87) (o := 3) (c := 2) (i := 3) (by kernel_rfl) (by kernel_rfl) (by kernel_rfl) h
  obtain ⟨z3, z3', e3, e3'⟩ := open_ptr_cells (c0 := c3) (c1 := c4) (by simpa using h3)
  obtain ⟨n4, y4, h4⟩ := field_of (t := 90) (T := 88) (o := 5) (c := 1) (i := 4) (by kernel_rfl) (by kernel_rfl) (by kernel_rfl) h
  obtain ⟨dn, ds, db, hp⟩ := open_ptrs_at (v := c5) (by simpa using h4)
  exact ⟨⟨z0, z1, z2, z3, z3', dn, ds, db⟩, by simpa using e0, by simpa using e1, by simpa using e2, e3, e3', hp, w0, w1, w2⟩

theorem open_sets_at {fuel : Nat} {v : Value} {x : DataW H × List MemPlace} (h : DataW.trod enc Tryz.prog W 0 spare held fuel 26 [v] = some x) : ∃ n f, SetsAt W 0 W.heap.size v n f ∧ ∀ i, i < n → SetWf (f i) := by
  rcases open_slice (t := 26) (e := 90) (by kernel_rfl) h with ⟨hv, _⟩ | ⟨a, len, cap, m, n, D, Pl, hv, _, hl, hm, hmm, _, hx⟩
  · exact ⟨0, fun _ => ⟨ByteArray.empty, 0, 0, 0, 0, 0, fun _ => 0, fun _ => 0⟩, ⟨Nat.zero_le _, none, 0, slice_val hv, Nat.le_refl _, fun h => absurd h (Nat.lt_irrefl _)⟩, fun i hi => absurd hi (Nat.not_lt_zero _)⟩
  · have hlm : len ≤ m := by rw [hmm]; split <;> omega
    have hc3 : Tryz.prog.cellsOf 90 = 6 := by kernel_rfl
    rw [hc3] at hx
    have hV : ∀ i, i < len → ∃ s : SetD, (∃ c0 c1 c2 c3 c4 c5, W.cell? (a.add (i * 6)) = some c0 ∧ W.cell? ((a.add (i * 6)).add 1) = some c1 ∧ W.cell? ((a.add (i * 6)).add 2) = some c2 ∧ W.cell? ((a.add (i * 6)).add 3) = some c3 ∧ W.cell? ((a.add (i * 6)).add 4) = some c4 ∧ W.cell? ((a.add (i * 6)).add 5) = some c5 ∧ c0 = .string s.name ∧ c1 = .int .i64 s.origin ∧ c2 = .int .i64 s.prev ∧ c3 = .int .i64 s.rs ∧ c4 = .int .i64 s.rb ∧ PtrsAt W 0 W.heap.size c5 s.dn s.ds s.db ∧ s.name.size ≤ maxLen ∧ SetWf s) := fun i hi => by
      obtain ⟨cs, hcs, ht⟩ := hx i (by omega)
      obtain ⟨_, hlen, hcell⟩ := World.cells?_some hcs
      match cs, hlen with
      | [c0, c1, c2, c3, c4, c5], _ =>
        obtain ⟨s, hs⟩ := open_set_cells ht
        have q0 := hcell 0 (by omega)
        have q1 := hcell 1 (by omega)
        have q2 := hcell 2 (by omega)
        have q3 := hcell 3 (by omega)
        have q4 := hcell 4 (by omega)
        have q5 := hcell 5 (by omega)
        rw [show (a.add (i * 6)).add 0 = a.add (i * 6) by simp [Addr.add]] at q0
        exact ⟨s, c0, c1, c2, c3, c4, c5, by simpa using q0, by simpa using q1, by simpa using q2, by simpa using q3, by simpa using q4, by simpa using q5, hs⟩
    have hinh : Inhabited SetD := ⟨⟨ByteArray.empty, 0, 0, 0, 0, 0, fun _ => 0, fun _ => 0⟩⟩
    obtain ⟨f, hf⟩ := choose_lt (α := SetD) (p := fun i s => (∃ c0 c1 c2 c3 c4 c5, W.cell? (a.add (i * 6)) = some c0 ∧ W.cell? ((a.add (i * 6)).add 1) = some c1 ∧ W.cell? ((a.add (i * 6)).add 2) = some c2 ∧ W.cell? ((a.add (i * 6)).add 3) = some c3 ∧ W.cell? ((a.add (i * 6)).add 4) = some c4 ∧ W.cell? ((a.add (i * 6)).add 5) = some c5 ∧ c0 = .string s.name ∧ c1 = .int .i64 s.origin ∧ c2 = .int .i64 s.prev ∧ c3 = .int .i64 s.rs ∧ c4 = .int .i64 s.rb ∧ PtrsAt W 0 W.heap.size c5 s.dn s.ds s.db ∧ s.name.size ≤ maxLen ∧ SetWf s)) hV
    refine ⟨len, f, ⟨by unfold maxLen at *; omega, some a, cap, slice_val hv, hl, fun h0 => ?_⟩, fun i hi => ?_⟩
    · obtain ⟨c0, c1, c2, c3, c4, c5, hc0, _⟩ := hf 0 h0
      rw [show a.add (0 * 6) = a by simp [Addr.add]] at hc0
      obtain ⟨b, off, rfl⟩ := addr_of_cell hc0
      refine ⟨b, off, rfl, Nat.zero_le _, lt_of_cell hc0, fun i hi => ?_⟩
      obtain ⟨c0, c1, c2, c3, c4, c5, q0, q1, q2, q3, q4, q5, rfl, rfl, rfl, rfl, rfl, hp, hsm, hwf⟩ := hf i hi
      rw [Addr.add_mid, Addr.add_mid] at q1 q2 q3 q4 q5
      rw [Addr.add_mid] at q0
      exact ⟨c5, q0, q1, q2, q3, q4, q5, hp, hsm⟩
    · obtain ⟨c0, c1, c2, c3, c4, c5, -, -, -, -, -, -, -, -, -, -, -, -, -, hwf⟩ := hf i hi
      exact hwf

/-- Its numbers are of sixty-four bits. -/
def SnapWf (s : SnapD) : Prop := (Lit.int .i64 s.id).wf = true ∧ (Lit.int .i64 s.prev).wf = true ∧ (Lit.int .i64 s.time).wf = true

theorem open_snap_cells {fuel : Nat} {c0 c1 c2 c3 c4 c5 c6 c7 : Value} {x : DataW H × List MemPlace} (h : DataW.trod enc Tryz.prog W 0 spare held fuel 93 [c0, c1, c2, c3, c4, c5, c6, c7] = some x) : ∃ s : SnapD, c0 = .int .i64 s.id ∧ c1 = .string s.name ∧ c2 = .string s.set ∧ c3 = .int .i64 s.prev ∧ c4 = .int .i64 s.time ∧ c5 = .int .i64 s.rs ∧ c6 = .int .i64 s.rb ∧ PtrsAt W 0 W.heap.size c7 s.dn s.ds s.db ∧ (s.name.size ≤ maxLen ∧ s.set.size ≤ maxLen) ∧ SnapWf s := by
  obtain ⟨n0, y0, h0⟩ := field_of (t := 93) (T := 2) (o := 0) (c := 1) (i := 0) (by kernel_rfl) (by kernel_rfl) (by kernel_rfl) h
  obtain ⟨z0, e0, -, w0⟩ := DataW.trod_int (show Tryz.prog.underlying 2 = some (.int .i64) by kernel_rfl) h0
  obtain ⟨n1, y1, h1⟩ := field_of (t := 93) (T := 9) (o := 1) (c := 1) (i := 1) (by kernel_rfl) (by kernel_rfl) (by kernel_rfl) h
  obtain ⟨z1, e1, -, w1⟩ := DataW.trod_string (show Tryz.prog.underlying 9 = some .string by kernel_rfl) h1
  obtain ⟨n2, y2, h2⟩ := field_of (t := 93) (T := 9) (o := 2) (c := 1) (i := 2) (by kernel_rfl) (by kernel_rfl) (by kernel_rfl) h
  obtain ⟨z2, e2, -, w2⟩ := DataW.trod_string (show Tryz.prog.underlying 9 = some .string by kernel_rfl) h2
  obtain ⟨n3, y3, h3⟩ := field_of (t := 93) (T := 2) (o := 3) (c := 1) (i := 3) (by kernel_rfl) (by kernel_rfl) (by kernel_rfl) h
  obtain ⟨z3, e3, -, w3⟩ := DataW.trod_int (show Tryz.prog.underlying 2 = some (.int .i64) by kernel_rfl) h3
  obtain ⟨n4, y4, h4⟩ := field_of (t := 93) (T := 2) (o := 4) (c := 1) (i := 4) (by kernel_rfl) (by kernel_rfl) (by kernel_rfl) h
  obtain ⟨z4, e4, -, w4⟩ := DataW.trod_int (show Tryz.prog.underlying 2 = some (.int .i64) by kernel_rfl) h4
  obtain ⟨n5, y5, h5⟩ := field_of (t := 93) (T := 87) (o := 5) (c := 2) (i := 5) (by kernel_rfl) (by kernel_rfl) (by kernel_rfl) h
  obtain ⟨z5, z5', e5, e5'⟩ := open_ptr_cells (c0 := c5) (c1 := c6) (by simpa using h5)
  obtain ⟨n6, y6, h6⟩ := field_of (t := 93) (T := 88) (o := 7) (c := 1) (i := 6) (by kernel_rfl) (by kernel_rfl) (by kernel_rfl) h
  obtain ⟨dn, ds, db, hp⟩ := open_ptrs_at (v := c7) (by simpa using h6)
  exact ⟨⟨z0, z1, z2, z3, z4, z5, z5', dn, ds, db⟩, by simpa using e0, by simpa using e1, by simpa using e2, by simpa using e3, by simpa using e4, e5, e5', hp, ⟨w1, w2⟩, w0, w3, w4⟩

theorem open_snaps_at {fuel : Nat} {v : Value} {x : DataW H × List MemPlace} (h : DataW.trod enc Tryz.prog W 0 spare held fuel 27 [v] = some x) : ∃ n f, SnapsAt W 0 W.heap.size v n f ∧ ∀ i, i < n → SnapWf (f i) := by
  rcases open_slice (t := 27) (e := 93) (by kernel_rfl) h with ⟨hv, _⟩ | ⟨a, len, cap, m, n, D, Pl, hv, _, hl, hm, hmm, _, hx⟩
  · exact ⟨0, fun _ => ⟨0, ByteArray.empty, ByteArray.empty, 0, 0, 0, 0, 0, fun _ => 0, fun _ => 0⟩, ⟨Nat.zero_le _, none, 0, slice_val hv, Nat.le_refl _, fun h => absurd h (Nat.lt_irrefl _)⟩, fun i hi => absurd hi (Nat.not_lt_zero _)⟩
  · have hlm : len ≤ m := by rw [hmm]; split <;> omega
    have hc3 : Tryz.prog.cellsOf 93 = 8 := by kernel_rfl
    rw [hc3] at hx
    have hV : ∀ i, i < len → ∃ s : SnapD, (∃ c0 c1 c2 c3 c4 c5 c6 c7, W.cell? (a.add (i * 8)) = some c0 ∧ W.cell? ((a.add (i * 8)).add 1) = some c1 ∧ W.cell? ((a.add (i * 8)).add 2) = some c2 ∧ W.cell? ((a.add (i * 8)).add 3) = some c3 ∧ W.cell? ((a.add (i * 8)).add 4) = some c4 ∧ W.cell? ((a.add (i * 8)).add 5) = some c5 ∧ W.cell? ((a.add (i * 8)).add 6) = some c6 ∧ W.cell? ((a.add (i * 8)).add 7) = some c7 ∧ c0 = .int .i64 s.id ∧ c1 = .string s.name ∧ c2 = .string s.set ∧ c3 = .int .i64 s.prev ∧ c4 = .int .i64 s.time ∧ c5 = .int .i64 s.rs ∧ c6 = .int .i64 s.rb ∧ PtrsAt W 0 W.heap.size c7 s.dn s.ds s.db ∧ (s.name.size ≤ maxLen ∧ s.set.size ≤ maxLen) ∧ SnapWf s) := fun i hi => by
      obtain ⟨cs, hcs, ht⟩ := hx i (by omega)
      obtain ⟨_, hlen, hcell⟩ := World.cells?_some hcs
      match cs, hlen with
      | [c0, c1, c2, c3, c4, c5, c6, c7], _ =>
        obtain ⟨s, hs⟩ := open_snap_cells ht
        have q0 := hcell 0 (by omega)
        have q1 := hcell 1 (by omega)
        have q2 := hcell 2 (by omega)
        have q3 := hcell 3 (by omega)
        have q4 := hcell 4 (by omega)
        have q5 := hcell 5 (by omega)
        have q6 := hcell 6 (by omega)
        have q7 := hcell 7 (by omega)
        rw [show (a.add (i * 8)).add 0 = a.add (i * 8) by simp [Addr.add]] at q0
        exact ⟨s, c0, c1, c2, c3, c4, c5, c6, c7, by simpa using q0, by simpa using q1, by simpa using q2, by simpa using q3, by simpa using q4, by simpa using q5, by simpa using q6, by simpa using q7, hs⟩
    have hinh : Inhabited SnapD := ⟨⟨0, ByteArray.empty, ByteArray.empty, 0, 0, 0, 0, 0, fun _ => 0, fun _ => 0⟩⟩
    obtain ⟨f, hf⟩ := choose_lt (α := SnapD) (p := fun i s => (∃ c0 c1 c2 c3 c4 c5 c6 c7, W.cell? (a.add (i * 8)) = some c0 ∧ W.cell? ((a.add (i * 8)).add 1) = some c1 ∧ W.cell? ((a.add (i * 8)).add 2) = some c2 ∧ W.cell? ((a.add (i * 8)).add 3) = some c3 ∧ W.cell? ((a.add (i * 8)).add 4) = some c4 ∧ W.cell? ((a.add (i * 8)).add 5) = some c5 ∧ W.cell? ((a.add (i * 8)).add 6) = some c6 ∧ W.cell? ((a.add (i * 8)).add 7) = some c7 ∧ c0 = .int .i64 s.id ∧ c1 = .string s.name ∧ c2 = .string s.set ∧ c3 = .int .i64 s.prev ∧ c4 = .int .i64 s.time ∧ c5 = .int .i64 s.rs ∧ c6 = .int .i64 s.rb ∧ PtrsAt W 0 W.heap.size c7 s.dn s.ds s.db ∧ (s.name.size ≤ maxLen ∧ s.set.size ≤ maxLen) ∧ SnapWf s)) hV
    refine ⟨len, f, ⟨by unfold maxLen at *; omega, some a, cap, slice_val hv, hl, fun h0 => ?_⟩, fun i hi => ?_⟩
    · obtain ⟨c0, c1, c2, c3, c4, c5, c6, c7, hc0, _⟩ := hf 0 h0
      rw [show a.add (0 * 8) = a by simp [Addr.add]] at hc0
      obtain ⟨b, off, rfl⟩ := addr_of_cell hc0
      refine ⟨b, off, rfl, Nat.zero_le _, lt_of_cell hc0, fun i hi => ?_⟩
      obtain ⟨c0, c1, c2, c3, c4, c5, c6, c7, q0, q1, q2, q3, q4, q5, q6, q7, rfl, rfl, rfl, rfl, rfl, rfl, rfl, hp, hsm, hwf⟩ := hf i hi
      rw [Addr.add_mid, Addr.add_mid] at q1 q2 q3 q4 q5 q6 q7
      rw [Addr.add_mid] at q0
      exact ⟨c7, q0, q1, q2, q3, q4, q5, q6, q7, hp, hsm⟩
    · obtain ⟨c0, c1, c2, c3, c4, c5, c6, c7, -, -, -, -, -, -, -, -, -, -, -, -, -, -, -, -, -, hwf⟩ := hf i hi
      exact hwf

/-- Its numbers are of sixty-four bits. -/
structure WorldWf (W : WorldD) : Prop where
  time : (Lit.int .i64 W.time).wf = true
  next : (Lit.int .i64 W.next).wf = true
  sets : ∀ i, i < W.sn → SetWf (W.sets i)
  snaps : ∀ i, i < W.pn → SnapWf (W.snaps i)
theorem WorldWf.prevs {W : WorldD} (h : WorldWf W) : PrevsWf W := fun i hi => by
  unfold memN at hi
  by_cases e : i < W.pn
  · rw [memOf_snap e]; exact (h.snaps i e).2.1
  · obtain ⟨j, rfl⟩ : ∃ j, i = W.pn + j := ⟨i - W.pn, by omega⟩
    rw [memOf_set]; exact (h.sets j (by omega)).2

theorem array6w {α : Type} {cs : Array α} (h : cs.size = 6) : ∃ c0 c1 c2 c3 c4 c5, cs = #[c0, c1, c2, c3, c4, c5] := by
  obtain ⟨l⟩ := cs
  match l, h with
  | [c0, c1, c2, c3, c4, c5], _ => exact ⟨c0, c1, c2, c3, c4, c5, rfl⟩

theorem open_pool_cells {fuel : Nat} {c0 c1 : Value} {x : DataW H × List MemPlace} (h : DataW.trod enc Tryz.prog W 0 spare held fuel 25 [c0, c1] = some x) : ∃ p, PoolAt W 0 W.heap.size c0 c1 p := by
  obtain ⟨n0, y0, h0⟩ := field_of (t := 25) (T := 22) (o := 0) (c := 1) (i := 0) (by kernel_rfl) (by kernel_rfl) (by kernel_rfl) h
  obtain ⟨n1, y1, h1⟩ := field_of (t := 25) (T := 23) (o := 1) (c := 1) (i := 1) (by kernel_rfl) (by kernel_rfl) (by kernel_rfl) h
  obtain ⟨n, f, hsl⟩ := open_slots_at (v := c0) (by simpa using h0)
  obtain ⟨hn, g, hin⟩ := open_ints_at (v := c1) (by simpa using h1)
  exact ⟨⟨n, f, hn, g⟩, hsl, hin⟩

theorem open_world {r : Reach} {b0 : Nat} {v : Value} {d : DataW H} {ps : List MemPlace} (hv : Value.okWide Tryz.prog W r b0 29 v) (h : DataW.Trod enc Tryz.prog W 0 spare held 29 v d ps) :
    ∃ v0 v1 v2 v3 D, v = worldV v0 v1 v2 v3 D ∧ WorldAt W 0 W.heap.size v0 v1 v2 v3 D ∧ WorldWf D := by
  have hs : Tryz.prog.underlying 29 = some (.struct (Tryz.prog.fieldsOf 29)) := by kernel_rfl
  obtain ⟨cs, rfl, hsz⟩ := okWide_struct hs hv
  obtain ⟨c0, c1, c2, c3, c4, c5, rfl⟩ := array6w (hsz.trans (by kernel_rfl))
  obtain ⟨fuel, hf⟩ := h
  have hf' : DataW.trod enc Tryz.prog W 0 spare held fuel 29 [c0, c1, c2, c3, c4, c5] = some (d, ps) := by simpa [Value.cells] using hf
  obtain ⟨n0, y0, h0⟩ := field_of (t := 29) (T := 25) (o := 0) (c := 2) (i := 0) (by kernel_rfl) (by kernel_rfl) (by kernel_rfl) hf'
  obtain ⟨n1, y1, h1⟩ := field_of (t := 29) (T := 2) (o := 2) (c := 1) (i := 1) (by kernel_rfl) (by kernel_rfl) (by kernel_rfl) hf'
  obtain ⟨n2, y2, h2⟩ := field_of (t := 29) (T := 2) (o := 3) (c := 1) (i := 2) (by kernel_rfl) (by kernel_rfl) (by kernel_rfl) hf'
  obtain ⟨n3, y3, h3⟩ := field_of (t := 29) (T := 26) (o := 4) (c := 1) (i := 3) (by kernel_rfl) (by kernel_rfl) (by kernel_rfl) hf'
  obtain ⟨n4, y4, h4⟩ := field_of (t := 29) (T := 27) (o := 5) (c := 1) (i := 4) (by kernel_rfl) (by kernel_rfl) (by kernel_rfl) hf'
  obtain ⟨p, hp⟩ := open_pool_cells (c0 := c0) (c1 := c1) (by simpa using h0)
  obtain ⟨z1, e1, -, w1⟩ := DataW.trod_int (show Tryz.prog.underlying 2 = some (.int .i64) by kernel_rfl) h1
  obtain ⟨z2, e2, -, w2⟩ := DataW.trod_int (show Tryz.prog.underlying 2 = some (.int .i64) by kernel_rfl) h2
  obtain ⟨sn, f, hS, hSw⟩ := open_sets_at (v := c4) (by simpa using h3)
  obtain ⟨pn, g, hP, hPw⟩ := open_snaps_at (v := c5) (by simpa using h4)
  obtain rfl : c2 = .int .i64 z1 := by simpa using e1
  obtain rfl : c3 = .int .i64 z2 := by simpa using e2
  exact ⟨c0, c1, c4, c5, ⟨p, z1, z2, sn, f, pn, g⟩, rfl, ⟨hp, hS, hP⟩, ⟨w1, w2, hSw, hPw⟩⟩

end

end Go.Proofs.YtebegmdbpapfgabGreat
