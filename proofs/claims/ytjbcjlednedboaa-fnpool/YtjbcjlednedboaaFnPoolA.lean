/- The variables of the law FnPool, and what they hold. -/
import Derived.Test.YtjbcjlednedboaaDraw10
import Derived.Test.YtjbcjlednedboaaPoolMath
import Derived.Test.YtjbcjlednedboaaLwKit
import Derived.Test.YtjbcjlednedboaaTakeD
import Derived.Test.YtjbcjlednedboaaHoldB
namespace Go.Proofs.Ytjbcjlednedboaa
open Go.RowKit
set_option linter.unusedVariables false

/-- A variable with a pool that is read. -/
structure PV (wk : World) (P hi : Nat) (v0 v1 : Value) (q : PoolD) : Prop where
  box : Box2 wk P v0 v1
  at' : PoolAt wk 0 hi v0 v1 q
theorem PV.below {w w' : World} {P hi : Nat} {v0 v1 : Value} {q : PoolD} (h : PV w P hi v0 v1 q) (t : Below w.heap.size w w') : PV w' P hi v0 v1 q := ⟨h.box.below t, h.at'.below t⟩

structure SV (wk : World) (S hi : Nat) (kv : Value) (s : SlotD) : Prop where
  box : Box3 wk S (.int .i64 s.birth) kv (.string s.data)
  at' : SlotAt wk 0 hi (.int .i64 s.birth) kv (.string s.data) s
theorem SV.below {w w' : World} {S hi : Nat} {kv : Value} {s : SlotD} (h : SV w S hi kv s) (t : Below w.heap.size w w') : SV w' S hi kv s := ⟨h.box.below t, h.at'.below t⟩

structure OV (wk : World) (X hi : Nat) (v0 v1 : Value) (o : OutD) : Prop where
  box : Box5 wk X v0 v1 (.int .i64 o.ps) (.int .i64 o.pb) (.int .i64 o.code)
  at' : PoolAt wk 0 hi v0 v1 o.pool
theorem OV.below {w w' : World} {X hi : Nat} {v0 v1 : Value} {o : OutD} (h : OV w X hi v0 v1 o) (t : Below w.heap.size w w') : OV w' X hi v0 v1 o := ⟨h.box.below t, h.at'.below t⟩

theorem PoolOwn.at00 {w : World} {lo hi : Nat} {v0 v1 : Value} {p : PoolD} (h : PoolOwn w lo hi v0 v1 p) : PoolAt w 0 hi v0 v1 p := (h.wide (Nat.zero_le _) (Nat.le_refl _)).at

theorem ov_new {o : OutD} {w1 w2 : World} {v0 v1 : Value} {t : TypeId} (ho : PoolOwn w2 w1.heap.size w2.heap.size v0 v1 o.pool) :
    OV (w2.alloc (.cells #[v0, v1, .int .i64 o.ps, .int .i64 o.pb, .int .i64 o.code] t)) w2.heap.size w2.heap.size v0 v1 o := ⟨Box5.new _ _ _ _ _ _ _, ho.at00.below (below_alloc _ _)⟩
theorem pv_new {q : PoolD} {w1 w2 : World} {v0 v1 : Value} {t : TypeId} (ho : PoolOwn w2 w1.heap.size w2.heap.size v0 v1 q) :
    PV (w2.alloc (.cells #[v0, v1] t)) w2.heap.size w2.heap.size v0 v1 q := ⟨Box2.new _ _ _ _, ho.at00.below (below_alloc _ _)⟩

/-- What is taken: the pool with it, right as before, where it is told, one room less. -/
theorem taken {q : PoolD} {s : SlotD} (hc : (takeP q s).code = 0) : Right (takeP q s).pool ∧ atP (takeP q s).pool (takeP q s).ps (takeP q s).pb = s ∧ roomP (takeP q s).pool = roomP q - 1 := by
  by_cases h1 : Right q ∧ ¬ Free s ∧ Fits q s
  · by_cases h2 : ∀ j, j < q.n → ¬ Free (q.s j)
    · rw [take_full h1 h2] at hc
      exact absurd hc (by decide)
    · obtain ⟨i, hi⟩ := first_some h2
      rw [take_ok h1 hi]
      exact ⟨right_set h1.1 hi h1.2.2, at_set h1.1 hi h1.2.2, roomP_set h1.1 hi h1.2.2⟩
  · rw [take_form h1] at hc
    exact absurd hc (by decide)
theorem held {q : PoolD} {xs xb : Int} (hc : (holdP q xs xb).code = 0) : Right q ∧ Points q xs xb ∧ ¬ Has q.hn q.h xs ∧ holdP q xs xb = ⟨holdD q xs, 0, 0, 0⟩ := by
  by_cases h1 : Right q
  · by_cases h2 : Points q xs xb ∧ ¬ Has q.hn q.h xs
    · exact ⟨h1, h2.1, h2.2, hold_ok h1 h2.1 h2.2⟩
    · rw [hold_none h1 h2] at hc
      exact absurd hc (by decide)
  · rw [hold_form h1] at hc
    exact absurd hc (by decide)
theorem room_bounds {q : PoolD} (h : Right q) : 0 ≤ roomP q ∧ roomP q ≤ 200 := by
  have e : roomP q = (roomN q.s q.n : Int) := if_pos h
  have := roomN_le q.s q.n
  have := h.1
  omega
theorem right_bool (q : PoolD) : ∃ b : Bool, (b = true ↔ Right q) := by
  by_cases h : Right q
  · exact ⟨true, by simp [h]⟩
  · exact ⟨false, by simp [h]⟩
theorem bytes_below {w w' : World} {a : Option Addr} {n : Nat} (h : BytesAt w w.heap.size a n) (t : Below w.heap.size w w') : BytesAt w' w'.heap.size a n := fun h0 => by
  obtain ⟨b, off, e, hbb, hc⟩ := h h0
  refine ⟨b, off, e, Nat.lt_of_lt_of_le hbb t.size, fun i hi => ?_⟩
  obtain ⟨x, hx, g0, g1⟩ := hc i hi
  exact ⟨x, (t.cell (lt_of_cell hx)).trans hx, g0, g1⟩

theorem fieldCode (v0 v1 : Value) (a b c : Int) (w : World) : (Instr.field 35 (.agg #[v0, v1, .int .i64 a, .int .i64 b, .int .i64 c]) 2).run Try.prog w = .ok (.int .i64 c) w := by kernel_rfl
theorem fieldBirth (b : Int) (kv : Value) (d : ByteArray) (w : World) : (Instr.field 29 (.agg #[.int .i64 b, kv, .string d]) 0).run Try.prog w = .ok (.int .i64 b) w := by kernel_rfl

end Go.Proofs.Ytjbcjlednedboaa
