/- A map whose elements are whatever values: what it reads as, its look-ups (no law is proved here). -/
import Derived.Test.YtjpbmpjddbekgaaGreatG1
import Derived.Maps.OwnSet
import Derived.Test.YtjpbmpjddbekgaaGreatG13
import Derived.Test.YtjpbmpjddbekgaaGreatRows
import Derived.WideKeyPair
import Derived.DeepKeys4
import Derived.WalkKit
namespace Go.Proofs.YtjpbmpjddbekgaaGreat
open Go Go.RowKit Go.Maps
set_option linter.unusedVariables false

/-- How an element reads: as itself. -/
def rawE (v : Value) : Option (DataW Value × List MemPlace) := some (.held v, [])
theorem rawE_inv {v : Value} {d : DataW Value} {ps : List MemPlace} (h : rawE v = some (d, ps)) : d = .held v := by
  unfold rawE at h
  simp only [Option.some.injEq, Prod.mk.injEq] at h
  exact h.1.symm
theorem rawE_mk (v : Value) : rawE v = some (.held v, []) := rfl

theorem wpList_lookup_raw {P : Program} (w : World) {ops : Array Oper} {rest : List Oper} {o : Oper} {a : Act} {Q : Exit → Act → World → Prop}
    (hg : o.guard = none) (m x : Operand) (t : TypeId) (hop : o.op = Op.lookup t m x false)
    (k e : TypeId) (K : Keyed P k) (ht : P.underlying t = some (.map k e)) {z : Value} (hz : (zeroValue e).run P w = .ok z w) (b n : Nat) (D : DataW Value)
    (hm : a.eval m = .map (some b)) (hown : w.ownsMap P k rawE b n D) (key : Value) (kl : Lit) (hx : a.eval x = key) (hkey : keyOf P k key = some kl)
    (v : Value) (hat : D.atKey kl (.held z) = .held v) (hK : wpList P ops Q rest (a.put o.dst v) w) :
    wpList P ops Q (o :: rest) a w := by
  refine wpList_plain hg fun K' hK' => ?_
  obtain ⟨v', ps, hrun, hv⟩ := hown.lookup K ht hz (rawE_mk z) hkey
  have e1 := rawE_inv hv
  rw [hat] at e1
  injection e1 with e1
  subst e1
  unfold Oper.wp
  simp [execOp, hop, hm, hx, hrun, Result.andThen]
  exact hK' _ _ hK

theorem wpList_lookup_raw_ok {P : Program} (w : World) {ops : Array Oper} {rest : List Oper} {o : Oper} {a : Act} {Q : Exit → Act → World → Prop}
    (hg : o.guard = none) (m x : Operand) (t : TypeId) (hop : o.op = Op.lookup t m x true)
    (k e : TypeId) (K : Keyed P k) (ht : P.underlying t = some (.map k e)) {z : Value} (hz : (zeroValue e).run P w = .ok z w) (b n : Nat) (D : DataW Value)
    (hm : a.eval m = .map (some b)) (hown : w.ownsMap P k rawE b n D) (key : Value) (kl : Lit) (hx : a.eval x = key) (hkey : keyOf P k key = some kl)
    (v : Value) (hat : D.atKey kl (.held z) = .held v) (c : Bool) (hc : Maps.has D kl = c) (hK : wpList P ops Q rest (a.put o.dst (.tuple #[v, .bool c])) w) :
    wpList P ops Q (o :: rest) a w := by
  refine wpList_lookup_own_ok w hg m x t hop k e K ht rawE hz (.held z) [] (rawE_mk z) b n D hm hown key kl hx hkey (fun v' ps hv => ?_)
  have e1 := rawE_inv hv
  rw [hat] at e1
  injection e1 with e1
  subst e1
  rw [hc]
  exact hK

/-- A map into which keys and values were put, one behind the other. -/
def putD (key : Nat → Lit) (val : Nat → Value) : Nat → DataW Value
  | 0 => .map []
  | k + 1 => (putD key val k).put (key k) (.held (val k))
def KeysOk (key : Nat → Lit) : Prop := ∀ i, WideAt.IsKeyLit (key i)
theorem putD_tidy {key : Nat → Lit} (hk : KeysOk key) (val : Nat → Value) : ∀ k, Tidy (putD key val k)
  | 0 => tidy_empty
  | k + 1 => (putD_tidy hk val k).put (hk k) _
theorem putD_has {key : Nat → Lit} (hk : KeysOk key) (val : Nat → Value) (l : Lit) : ∀ k, Maps.has (putD key val k) l = true ↔ ∃ i, i < k ∧ key i = l
  | 0 => by
    constructor
    · intro h; exact absurd h (by simp [putD, Maps.has])
    · rintro ⟨i, hi, _⟩; omega
  | k + 1 => by
    by_cases hx : key k = l
    · subst hx
      exact ⟨fun _ => ⟨k, by omega, rfl⟩, fun _ => has_put_same (putD_tidy hk val k).isMap (hk k) _⟩
    · rw [show Maps.has (putD key val (k + 1)) l = Maps.has (putD key val k) l from has_put_other (Ne.symm hx) _, putD_has hk val l k]
      constructor
      · rintro ⟨i, hi, e⟩; exact ⟨i, by omega, e⟩
      · rintro ⟨i, hi, e⟩
        by_cases h : i = k
        · subst h; exact absurd e hx
        · exact ⟨i, by omega, e⟩
theorem putD_none {key : Nat → Lit} (hk : KeysOk key) (val : Nat → Value) {l : Lit} {k : Nat} (h : ∀ i, i < k → key i ≠ l) (z : DataW Value) : (putD key val k).atKey l z = z := by
  refine atKey_of_not_has ?_ _
  rw [Bool.eq_false_iff]
  intro hh
  obtain ⟨i, hi, e⟩ := (putD_has hk val l k).1 hh
  exact h i hi e
theorem putD_at {key : Nat → Lit} (hk : KeysOk key) (val : Nat → Value) (z : DataW Value) : ∀ k i, i < k → (∀ j, i < j → j < k → key j ≠ key i) → (putD key val k).atKey (key i) z = .held (val i)
  | 0, i, hi, _ => absurd hi (Nat.not_lt_zero _)
  | k + 1, i, hi, hd => by
    by_cases e : i = k
    · subst e; exact atKey_put_same (putD_tidy hk val i).isMap (hk i) _ _
    · exact (atKey_put_other (Ne.symm (hd k (by omega) (by omega))) _ _).trans (putD_at hk val z k i (by omega) (fun j h1 h2 => hd j h1 (by omega)))
def DistL (n : Nat) (key : Nat → Lit) : Prop := ∀ i, i < n → ∀ k, k < i → key k ≠ key i
theorem distL_succ {k : Nat} {f : Nat → Lit} : DistL (k + 1) f ↔ DistL k f ∧ ∀ i, i < k → f i ≠ f k := by
  constructor
  · exact fun h => ⟨fun i hi => h i (by omega), fun i hi => h k (by omega) i hi⟩
  · rintro ⟨h1, h2⟩ i hi j hj
    by_cases e : i = k
    · subst e; exact h2 j hj
    · exact h1 i (by omega) j hj
theorem putD_size {key : Nat → Lit} (hk : KeysOk key) (val : Nat → Value) : ∀ k, Maps.size (putD key val k) ≤ k ∧ (Maps.size (putD key val k) = k ↔ DistL k key)
  | 0 => ⟨Nat.le_refl _, fun _ i hi => by omega, fun _ => rfl⟩
  | k + 1 => by
    obtain ⟨h1, h2⟩ := putD_size hk val k
    have e : Maps.size (putD key val (k + 1)) = if Maps.has (putD key val k) (key k) then Maps.size (putD key val k) else Maps.size (putD key val k) + 1 := size_put (putD_tidy hk val k) _
    by_cases hh : Maps.has (putD key val k) (key k) = true
    · rw [if_pos hh] at e
      rw [e, distL_succ]
      refine ⟨by omega, fun h => by omega, fun h => ?_⟩
      obtain ⟨i, hi, he⟩ := (putD_has hk val (key k) k).1 hh
      exact absurd he (h.2 i hi)
    · rw [if_neg hh] at e
      rw [e, distL_succ, ← h2]
      refine ⟨by omega, fun h => ⟨by omega, fun i hi he => hh ((putD_has hk val (key k) k).2 ⟨i, hi, he⟩)⟩, fun h => by omega⟩

end Go.Proofs.YtjpbmpjddbekgaaGreat

namespace Go.Proofs.YtjpbmpjddbekgaaGreat
open Go.RowKit Go.Maps
set_option linter.unusedVariables false

set_option maxRecDepth 20000 in
set_option maxHeartbeats 400000 in
theorem countRight_any (n : Int) (w : World) : Calls Tryz.prog 65 #[.int .i64 n] w fun e w' => BoolIs (Between n 1 900000) e ∧ w' = w := by
  by_cases h1 : 1 ≤ n
  · by_cases h2 : n ≤ 900000
    · go_enter Tryz.func65, Tryz.ntmps65
      go_wp2
      go_ret
      exact ⟨BoolIs.yes ⟨h1, h2⟩, rfl⟩
    · go_enter Tryz.func65, Tryz.ntmps65
      go_wp2
      go_ret
      exact ⟨BoolIs.no fun h => by have := h.2; omega, rfl⟩
  · go_enter Tryz.func65, Tryz.ntmps65
    go_wp2
    go_ret
    exact ⟨BoolIs.no fun h => by have := h.1; omega, rfl⟩

/-- A number stands between two others. -/
def Mid (a x b : Int) : Prop := a < x ∧ x < b

set_option maxRecDepth 20000 in
set_option maxHeartbeats 400000 in
theorem between_any (a x b : Int) (w : World) : Calls Tryz.prog 121 #[.int .i64 a, .int .i64 x, .int .i64 b] w fun e w' => BoolIs (Mid a x b) e ∧ w' = w := by
  by_cases h1 : a < x
  · by_cases h2 : x < b
    · go_enter Tryz.func121, Tryz.ntmps121
      go_wp2
      go_ret
      exact ⟨BoolIs.yes ⟨h1, h2⟩, rfl⟩
    · go_enter Tryz.func121, Tryz.ntmps121
      go_wp2
      go_ret
      exact ⟨BoolIs.no fun h => by have := h.2; omega, rfl⟩
  · go_enter Tryz.func121, Tryz.ntmps121
    go_wp2
    go_ret
    exact ⟨BoolIs.no fun h => by have := h.1; omega, rfl⟩

/-- The name ahead of a set's, or the empty text. -/
def lastN (f : Nat → SetD) : Nat → ByteArray
  | 0 => ⟨#[]⟩
  | k + 1 => (f k).name
def SetsI (n : Nat) (f : Nat → SetD) : Prop := n ≤ 8 ∧ ∀ i, i < n → NameP (f i).name ∧ Rises (lastN f i) (f i).name

set_option maxRecDepth 20000 in
set_option maxHeartbeats 2000000 in
theorem setsRight_any (v : Value) (n lo hi : Nat) (f : Nat → SetD) (w : World) (h : SetsAt w lo hi v n f) :
    Calls Tryz.prog 66 #[v] w fun e w' => BoolIs (SetsI n f) e ∧ Below w.heap.size w w' := by
  have Hp := hideW h
  obtain ⟨m1, a, c, rfl, mc, -⟩ := id h
  unfold maxLen at m1
  clear h
  by_cases hn : n ≤ 8
  rotate_left
  · have hn' : (8 : Int) < (n : Int) := by omega
    go_enter Tryz.func66, Tryz.ntmps66
    go_wp2
    go_ret
    exact ⟨BoolIs.no fun h => hn h.1, Below.refl _ _⟩
  have hn' : ¬ (8 : Int) < (n : Int) := by omega
  go_enter Tryz.func66, Tryz.ntmps66
  go_wp2
  go_loopw [3, 11] (fun l i wr => ∃ k : Nat, k ≤ n ∧ i = .int .i64 k ∧ l = .string (lastN f k) ∧ (∀ j, j < k → NameP (f j).name ∧ Rises (lastN f j) (f j).name) ∧ Below w.heap.size w wr) (fun _ i _ => n - (intOf i).toNat)
  case atStart => exact ⟨0, Nat.zero_le _, rfl, rfl, fun j hj => absurd hj (Nat.not_lt_zero _), Below.refl _ _⟩
  case round =>
    obtain ⟨k, hk, rfl, rfl, hall, hb⟩ := hrel
    have Hall := hideW hall
    clear hall
    by_cases hlt : k < n
    rotate_left
    · obtain rfl : k = n := by omega
      go_wp2
      go_ret
      exact ⟨BoolIs.yes ⟨hn, Hall.out⟩, hb⟩
    have hlt' : (k : Int) < (n : Int) := by omega
    obtain ⟨b, off, vd, rfl, hs2⟩ := (Hp.out.below hb).cells hlt
    obtain ⟨-, ad, cd, rfl, -, -⟩ := id hs2.dead
    have hbs := below_alloc wr (.cells #[.string (f k).name, .int .i64 (f k).origin, .int .i64 (f k).prev, .int .i64 (f k).rs, .int .i64 (f k).rb, .slice ad (f k).dn cd] 53)
    have HVs := hideW (Box6.new wr (.string (f k).name) (.int .i64 (f k).origin) (.int .i64 (f k).prev) (.int .i64 (f k).rs) (.int .i64 (f k).rb) (.slice ad (f k).dn cd) 53)
    have hbw := below_next hb hbs
    have q0 := hs2.c0
    have q1 := hs2.c1
    have q2 := hs2.c2
    have q3 := hs2.c3
    have q4 := hs2.c4
    have q5 := hs2.c5
    have hns := hs2.small
    obtain ⟨⟨y0, y1⟩, -⟩ := HVs.out
    clear hs2 hbs
    go_wp2_with fail
    clear q0 q1 q2 q3 q4 q5
    refine (implName_any (f k).name _ hns).mono ?_
    rintro e wn ⟨⟨tn, rfl, htn⟩, rfl⟩
    by_cases hA : NameP (f k).name
    rotate_left
    · have Hn := hideW hA
      obtain rfl : tn = false := bool_no htn hA
      clear htn hA
      go_wp2
      go_ret
      exact ⟨BoolIs.no fun h => Hn.out (h.2 k hlt).1, hbw⟩
    have HA := hideW hA
    obtain rfl : tn = true := htn.2 hA
    clear htn hA
    by_cases hR : Rises (lastN f k) (f k).name
    · have f1 := (leq_iff (f k).name (lastN f k)).2 hR
      have HR := hideW hR
      clear hR
      go_wp2
      go_roundw
      case rel => exact ⟨k + 1, by omega, by go_num, rfl, relNext hlt Hall.out ⟨HA.out, HR.out⟩, hbw⟩
      case measure => simp [intOf]; omega
    · have f1 : (Op.bytesLess (f k).name.toList (lastN f k).toList || (f k).name.toList == (lastN f k).toList) = true := by
        cases hc : (Op.bytesLess (f k).name.toList (lastN f k).toList || (f k).name.toList == (lastN f k).toList)
        · exact absurd ((leq_iff _ _).1 hc) hR
        · rfl
      have HR := hideW hR
      clear hR
      go_wp2
      go_ret
      exact ⟨BoolIs.no fun h => HR.out (h.2 k hlt).2, hbw⟩

end Go.Proofs.YtjpbmpjddbekgaaGreat

namespace Go.Proofs.YtjpbmpjddbekgaaGreat
open Go Go.RowKit Go.Maps
set_option linter.unusedVariables false

theorem laidW : laidOutB Tryz.prog = true := by kernel_rfl
theorem sizeW : 300 ≤ Tryz.prog.types.size + 300 - 1 ∧ 1 ≤ Tryz.prog.types.size := by
  have h : decide (1 ≤ Tryz.prog.types.size) = true := by kernel_rfl
  have := of_decide_eq_true h
  omega
theorem lessW {k : Nat} (h : decide (k < Tryz.prog.types.size) = true) : k < Tryz.prog.types.size := of_decide_eq_true h
theorem strU : Tryz.prog.underlying 9 = some .string := by kernel_rfl
theorem intU : Tryz.prog.underlying 2 = some (.int .i64) := by kernel_rfl
theorem lawS : Keyed Tryz.prog 9 := string_keyed strU
theorem lawI : Keyed Tryz.prog 2 := int_keyed intU
def keyS (s : ByteArray) : Lit := .string s.data.toList
theorem keyS_of {s : ByteArray} (h : s.size ≤ maxLen) : keyOf Tryz.prog 9 (.string s) = some (keyS s) := by simp [keyOf, mapKey, keyS, h]
theorem keyS_inj {s t : ByteArray} (h : keyS s = keyS t) : s = t := by
  unfold keyS at h
  injection h with h
  cases s; cases t
  simp only [ByteArray.mk.injEq]
  exact Array.toList_inj.1 h
theorem keyS_key (s : ByteArray) : WideAt.IsKeyLit (keyS s) := trivial
def keyN (x : Int) : Lit := .int .i64 x
theorem keyN_of {x : Int} (h : (Lit.int .i64 x).wf = true) : keyOf Tryz.prog 2 (.int .i64 x) = some (keyN x) := keyOf_int_mk intU h
theorem keyN_inj {x y : Int} (h : keyN x = keyN y) : x = y := by unfold keyN at h; injection h
theorem keyN_key (x : Int) : WideAt.IsKeyLit (keyN x) := trivial

theorem twoU : Tryz.prog.underlying 187 = some (.array 2 9) := by kernel_rfl
theorem lawT : Keyed Tryz.prog 187 := Keyed.of_law (deep_law_laid laidW (m := 5) (by decide) (lessW (by kernel_rfl)) (by kernel_rfl) (by kernel_rfl))
theorem keyT_of {s t : ByteArray} (hs : s.size ≤ maxLen) (ht : t.size ≤ maxLen) : ∃ l, keyOf Tryz.prog 187 (.agg #[.string s, .string t]) = some l := by
  obtain ⟨m, hm⟩ : ∃ m, Tryz.prog.types.size + 1 = m + 2 := ⟨Tryz.prog.types.size - 1, by have := sizeW; omega⟩
  have hk : Tryz.prog.keyType 187 = true := by kernel_rfl
  have hc : Tryz.prog.cellsOf 187 = 2 := by kernel_rfl
  have h1 : Tryz.prog.cellsOf 9 = 1 := by kernel_rfl
  unfold keyOf
  simp only [twoU]
  rw [if_pos (by simp [hk, Value.formed, hc]), hm]
  unfold Program.keyLits
  simp only [twoU, Value.cells]
  rw [if_pos (by rw [hc]; rfl), show List.range 2 = [0, 1] from rfl, List.mapM_cons, List.mapM_cons, List.mapM_nil]
  simp [h1, Program.keyLits, hs, ht]

theorem ptrU : Tryz.prog.underlying 43 = some (.struct #[⟨"Slot", 2, 0, false, "", "", 0⟩, ⟨"Birth", 2, 1, false, "", "", 8⟩]) := by kernel_rfl
theorem lawP : Keyed Tryz.prog 43 := Keyed.of_law (deep_law_laid laidW (m := 5) (by decide) (lessW (by kernel_rfl)) (by kernel_rfl) (by kernel_rfl))
theorem keyP_of {x y : Int} (hx : (Lit.int .i64 x).wf = true) (hy : (Lit.int .i64 y).wf = true) : ∃ l, keyOf Tryz.prog 43 (.agg #[.int .i64 x, .int .i64 y]) = some l := by
  obtain ⟨m, hm⟩ : ∃ m, Tryz.prog.types.size + 1 = m + 2 := ⟨Tryz.prog.types.size - 1, by have := sizeW; omega⟩
  have hk : Tryz.prog.keyType 43 = true := by kernel_rfl
  have hc : Tryz.prog.cellsOf 43 = 2 := by kernel_rfl
  have h1 : Tryz.prog.cellsOf 2 = 1 := by kernel_rfl
  unfold keyOf
  simp only [ptrU]
  rw [if_pos (by simp [hk, Value.formed, hc]), hm]
  unfold Program.keyLits
  simp only [ptrU, Value.cells]
  rw [if_pos ⟨by rw [hc]; rfl, by kernel_rfl⟩]
  simp [h1, Program.keyLits, hx, hy]

end Go.Proofs.YtjpbmpjddbekgaaGreat

namespace Go.Proofs.YtjpbmpjddbekgaaGreat
open Go.RowKit Go.Maps
set_option linter.unusedVariables false

def setV (vd : Value) (s : SetD) : Value := .agg #[.string s.name, .int .i64 s.origin, .int .i64 s.prev, .int .i64 s.rs, .int .i64 s.rb, vd]
def snapV (vd : Value) (s : SnapD) : Value := .agg #[.int .i64 s.id, .string s.name, .string s.set, .int .i64 s.prev, .int .i64 s.time, .int .i64 s.rs, .int .i64 s.rb, vd]
/-- The lists of what was dropped, as they lie. -/
def SetDeads (w : World) (lo hi n : Nat) (f : Nat → SetD) (vd : Nat → Value) : Prop := ∀ i, i < n → PtrsAt w lo hi (vd i) (f i).dn (f i).ds (f i).db
def SnapDeads (w : World) (lo hi n : Nat) (f : Nat → SnapD) (vd : Nat → Value) : Prop := ∀ i, i < n → PtrsAt w lo hi (vd i) (f i).dn (f i).ds (f i).db

open Classical in
theorem SetsAt.vals {w : World} {lo hi : Nat} {a : Option Addr} {n c : Nat} {f : Nat → SetD} (h : SetsAt w lo hi (.slice a n c) n f) : ∃ vd : Nat → Value, SetDeads w lo hi n f vd ∧ ∀ i, i < n → ∃ b off, a = some ⟨b, off, none⟩ ∧ SetCells w b (off + i * 6) lo hi (vd i) (f i) := by
  have hx : ∀ i, ∃ v, i < n → ∃ b off, a = some ⟨b, off, none⟩ ∧ SetCells w b (off + i * 6) lo hi v (f i) := fun i => by
    by_cases hi' : i < n
    · obtain ⟨b, off, vd, ha, hs⟩ := h.cells hi'
      exact ⟨vd, fun _ => ⟨b, off, ha, hs⟩⟩
    · exact ⟨undef, fun h => absurd h hi'⟩
  refine ⟨fun i => (hx i).choose, fun i hi' => ?_, fun i hi' => (hx i).choose_spec hi'⟩
  obtain ⟨b, off, _, hs⟩ := (hx i).choose_spec hi'
  exact hs.dead
open Classical in
theorem SnapsAt.vals {w : World} {lo hi : Nat} {a : Option Addr} {n c : Nat} {f : Nat → SnapD} (h : SnapsAt w lo hi (.slice a n c) n f) : ∃ vd : Nat → Value, SnapDeads w lo hi n f vd ∧ ∀ i, i < n → ∃ b off, a = some ⟨b, off, none⟩ ∧ SnapCells w b (off + i * 8) lo hi (vd i) (f i) := by
  have hx : ∀ i, ∃ v, i < n → ∃ b off, a = some ⟨b, off, none⟩ ∧ SnapCells w b (off + i * 8) lo hi v (f i) := fun i => by
    by_cases hi' : i < n
    · obtain ⟨b, off, vd, ha, hs⟩ := h.cells hi'
      exact ⟨vd, fun _ => ⟨b, off, ha, hs⟩⟩
    · exact ⟨undef, fun h => absurd h hi'⟩
  refine ⟨fun i => (hx i).choose, fun i hi' => ?_, fun i hi' => (hx i).choose_spec hi'⟩
  obtain ⟨b, off, _, hs⟩ := (hx i).choose_spec hi'
  exact hs.dead

theorem setsT : Tryz.prog.underlying 108 = some (.map 9 53) := by kernel_rfl
theorem snapsT : Tryz.prog.underlying 98 = some (.map 2 46) := by kernel_rfl
theorem apartT : Tryz.prog.underlying 186 = some (.map 187 2) := by kernel_rfl
def SetsMap (w : World) (W : WorldD) (M n : Nat) (vd : Nat → Value) : Prop := w.ownsMap Tryz.prog 9 rawE M n (putD (fun i => keyS (W.sets i).name) (fun i => setV (vd i) (W.sets i)) n)
def SnapsMap (w : World) (W : WorldD) (M n : Nat) (vd : Nat → Value) : Prop := w.ownsMap Tryz.prog 2 rawE M n (putD (fun i => keyN (W.snaps i).id) (fun i => snapV (vd i) (W.snaps i)) n)
theorem SetsMap.below {w w' : World} {W : WorldD} {M n : Nat} {vd : Nat → Value} (h : SetsMap w W M n vd) (t : Below w.heap.size w w') : SetsMap w' W M n vd := h.kept (grownL t none) (by simp)
theorem SnapsMap.below {w w' : World} {W : WorldD} {M n : Nat} {vd : Nat → Value} (h : SnapsMap w W M n vd) (t : Below w.heap.size w w') : SnapsMap w' W M n vd := h.kept (grownL t none) (by simp)

set_option maxRecDepth 20000 in
set_option maxHeartbeats 2000000 in
theorem setsByName_any (v0 v1 v2 v3 : Value) (lo hi : Nat) (W : WorldD) (w : World) (h : WorldAt w lo hi v0 v1 v2 v3 W) (hn : W.sn ≤ 8) :
    Calls Tryz.prog 88 #[worldV v0 v1 v2 v3 W] w fun e w' => ∃ vd, e = .returned (.map (some (w.heap.size + 1))) ∧ SetsMap w' W (w.heap.size + 1) W.sn vd ∧ SetDeads w lo hi W.sn W.sets vd ∧ Below w.heap.size w w' := by
  have Hp := hideW h
  obtain ⟨m1, a, c, rfl, mc, -⟩ := id h.sets
  unfold maxLen at m1
  obtain ⟨vd, hvd, hcs⟩ := h.sets.vals
  have Hvd := hideW hvd
  have Hcs := hideW hcs
  clear h hvd hcs
  have ha := below_alloc w (.cells #[v0, v1, .int .i64 W.time, .int .i64 W.next, .slice a W.sn c, v3] 38)
  have HB := hideW (Box6.new w v0 v1 (.int .i64 W.time) (.int .i64 W.next) (.slice a W.sn c) v3 38)
  have hz1 : (w.alloc (.cells #[v0, v1, .int .i64 W.time, .int .i64 W.next, .slice a W.sn c, v3] 38)).heap.size = w.heap.size + 1 := World.size_alloc _ _
  have hm := World.ownsMap_made (w.alloc (.cells #[v0, v1, .int .i64 W.time, .int .i64 W.next, .slice a W.sn c, v3] 38)) Tryz.prog 9 rawE
  rw [hz1] at hm
  have HM := hideW hm
  have HB2 := hideW (HB.out.below (below_alloc _ (.map #[] 0)))
  have Hb2 := hideW (below_next ha (below_alloc _ (.map #[] 0)))
  have hmm := @run_makeMap Tryz.prog
  obtain ⟨⟨x0, -⟩, ⟨x2, -⟩, ⟨x4, -⟩, ⟨x6, -⟩, ⟨x8, -⟩, ⟨x10, -⟩⟩ := HB2.out
  clear hm
  go_enter Tryz.func88, Tryz.ntmps88
  go_wp2
  clear x0 x2 x4 x6 x8 x10 ha
  go_loopw [10] (fun i wr => ∃ k : Nat, k ≤ W.sn ∧ i = .int .i64 k ∧ SetsMap wr W (w.heap.size + 1) k vd ∧ Below w.heap.size w wr ∧ w.heap.size + 2 ≤ wr.heap.size) (fun i _ => W.sn - (intOf i).toNat)
  case atStart => exact ⟨0, Nat.zero_le _, rfl, HM.out, Hb2.out, by rw [World.size_alloc, hz1]; omega⟩
  case round =>
    clear HM HB2 Hb2 HB hz1
    obtain ⟨k, hk, rfl, hown, hb, hz⟩ := hrel
    have Hown := hideW hown
    clear hown
    by_cases hlt : k < W.sn
    · have hlt' : (k : Int) < (W.sn : Int) := by omega
      obtain ⟨b, off, rfl, hs0⟩ := Hcs.out k hlt
      have hs2 := hs0.below hb
      obtain ⟨-, ad, cd, hvk, -, -⟩ := id hs2.dead
      have Hvk := hideW hvk
      rw [hvk] at hs2
      clear hvk hs0
      have hbs := below_alloc wr (.cells #[.string (W.sets k).name, .int .i64 (W.sets k).origin, .int .i64 (W.sets k).prev, .int .i64 (W.sets k).rs, .int .i64 (W.sets k).rb, .slice ad (W.sets k).dn cd] 53)
      have HVs := hideW (Box6.new wr (.string (W.sets k).name) (.int .i64 (W.sets k).origin) (.int .i64 (W.sets k).prev) (.int .i64 (W.sets k).rs) (.int .i64 (W.sets k).rb) (.slice ad (W.sets k).dn cd) 53)
      have hbw := below_next hb hbs
      have q0 := hs2.c0
      have q1 := hs2.c1
      have q2 := hs2.c2
      have q3 := hs2.c3
      have q4 := hs2.c4
      have q5 := hs2.c5
      have Hkey := hideW (keyS_of hs2.small)
      obtain ⟨⟨y0, y1⟩, ⟨y2, y3⟩, ⟨y4, y5⟩, ⟨y6, y7⟩, ⟨y8, y9⟩, ⟨y10, y11⟩⟩ := HVs.out
      have Hown2 := hideW (Hown.out.below hbs)
      have hz2 := hbs.size
      clear hs2 hbs
      go_wp2_with (first
        | (at_mapUpdate; refine wpList_mapUpdate_own _ rfl _ _ _ 108 rfl 9 53 lawS setsT rawE (w.heap.size + 1) k _ rfl Hown2.out (by unfold maxLen; omega) _ _ _ rfl rfl Hkey.out _ [] (rawE_mk _) ?_; intro w1 hown1 hgrow1)
        | go_in)
      go_roundw
      case rel =>
        refine ⟨k + 1, by omega, by go_num, ?_, hbw.grown hgrow1 hbw.size (fun j hj => by cases hj; omega), by have := hgrow1.size; omega⟩
        unfold SetsMap putD setV
        rw [Hvk.out]
        exact hown1
      case measure => simp [intOf]; omega
    · obtain rfl : k = W.sn := by omega
      go_wp2
      go_ret
      exact ⟨vd, rfl, Hown.out, Hvd.out, hb⟩

end Go.Proofs.YtjpbmpjddbekgaaGreat

namespace Go.Proofs.YtjpbmpjddbekgaaGreat
open Go.RowKit Go.Maps
set_option linter.unusedVariables false

def IdsWf (n : Nat) (f : Nat → SnapD) : Prop := ∀ i, i < n → (Lit.int .i64 (f i).id).wf = true

set_option maxRecDepth 20000 in
set_option maxHeartbeats 2000000 in
theorem snapsById_any (v0 v1 v2 v3 : Value) (lo hi : Nat) (W : WorldD) (w : World) (h : WorldAt w lo hi v0 v1 v2 v3 W) (hn : W.pn ≤ 20) (hwf : IdsWf W.pn W.snaps) :
    Calls Tryz.prog 78 #[worldV v0 v1 v2 v3 W] w fun e w' => ∃ vd, e = .returned (.map (some (w.heap.size + 1))) ∧ SnapsMap w' W (w.heap.size + 1) W.pn vd ∧ SnapDeads w lo hi W.pn W.snaps vd ∧ Below w.heap.size w w' := by
  have Hp := hideW h
  have Hwf := hideW hwf
  obtain ⟨m1, a, c, rfl, mc, -⟩ := id h.snaps
  unfold maxLen at m1
  obtain ⟨vd, hvd, hcs⟩ := h.snaps.vals
  have Hvd := hideW hvd
  have Hcs := hideW hcs
  clear h hvd hcs hwf
  have ha := below_alloc w (.cells #[v0, v1, .int .i64 W.time, .int .i64 W.next, v2, .slice a W.pn c] 38)
  have HB := hideW (Box6.new w v0 v1 (.int .i64 W.time) (.int .i64 W.next) v2 (.slice a W.pn c) 38)
  have hz1 : (w.alloc (.cells #[v0, v1, .int .i64 W.time, .int .i64 W.next, v2, .slice a W.pn c] 38)).heap.size = w.heap.size + 1 := World.size_alloc _ _
  have hm := World.ownsMap_made (w.alloc (.cells #[v0, v1, .int .i64 W.time, .int .i64 W.next, v2, .slice a W.pn c] 38)) Tryz.prog 2 rawE
  rw [hz1] at hm
  have HM := hideW hm
  have HB2 := hideW (HB.out.below (below_alloc _ (.map #[] 0)))
  have Hb2 := hideW (below_next ha (below_alloc _ (.map #[] 0)))
  have hmm := @run_makeMap Tryz.prog
  obtain ⟨⟨x0, -⟩, ⟨x2, -⟩, ⟨x4, -⟩, ⟨x6, -⟩, ⟨x8, -⟩, ⟨x10, -⟩⟩ := HB2.out
  clear hm
  go_enter Tryz.func78, Tryz.ntmps78
  go_wp2
  clear x0 x2 x4 x6 x8 x10 ha
  go_loopw [10] (fun i wr => ∃ k : Nat, k ≤ W.pn ∧ i = .int .i64 k ∧ SnapsMap wr W (w.heap.size + 1) k vd ∧ Below w.heap.size w wr ∧ w.heap.size + 2 ≤ wr.heap.size) (fun i _ => W.pn - (intOf i).toNat)
  case atStart => exact ⟨0, Nat.zero_le _, rfl, HM.out, Hb2.out, by rw [World.size_alloc, hz1]; omega⟩
  case round =>
    clear HM HB2 Hb2 HB hz1
    obtain ⟨k, hk, rfl, hown, hb, hz⟩ := hrel
    have Hown := hideW hown
    clear hown
    by_cases hlt : k < W.pn
    · have hlt' : (k : Int) < (W.pn : Int) := by omega
      obtain ⟨b, off, rfl, hs0⟩ := Hcs.out k hlt
      have hs2 := hs0.below hb
      obtain ⟨-, ad, cd, hvk, -, -⟩ := id hs2.dead
      have Hvk := hideW hvk
      rw [hvk] at hs2
      clear hvk hs0
      have hbs := below_alloc wr (.cells #[.int .i64 (W.snaps k).id, .string (W.snaps k).name, .string (W.snaps k).set, .int .i64 (W.snaps k).prev, .int .i64 (W.snaps k).time, .int .i64 (W.snaps k).rs, .int .i64 (W.snaps k).rb, .slice ad (W.snaps k).dn cd] 46)
      have HVs := hideW (Box8.new wr (.int .i64 (W.snaps k).id) (.string (W.snaps k).name) (.string (W.snaps k).set) (.int .i64 (W.snaps k).prev) (.int .i64 (W.snaps k).time) (.int .i64 (W.snaps k).rs) (.int .i64 (W.snaps k).rb) (.slice ad (W.snaps k).dn cd) 46)
      have hbw := below_next hb hbs
      have q0 := hs2.c0
      have q1 := hs2.c1
      have q2 := hs2.c2
      have q3 := hs2.c3
      have q4 := hs2.c4
      have q5 := hs2.c5
      have q6 := hs2.c6
      have q7 := hs2.c7
      have Hkey := hideW (keyN_of (Hwf.out k hlt))
      obtain ⟨⟨⟨y0, -⟩, ⟨y1, -⟩, ⟨y2, -⟩, ⟨y3, -⟩⟩, ⟨y4, -⟩, ⟨y5, -⟩, ⟨y6, -⟩, ⟨y7, -⟩⟩ := HVs.out
      have Hown2 := hideW (Hown.out.below hbs)
      have hz2 := hbs.size
      clear hs2 hbs
      go_wp2_with (first
        | (at_mapUpdate; refine wpList_mapUpdate_own _ rfl _ _ _ 98 rfl 2 46 lawI snapsT rawE (w.heap.size + 1) k _ rfl Hown2.out (by unfold maxLen; omega) _ _ _ rfl rfl Hkey.out _ [] (rawE_mk _) ?_; intro w1 hown1 hgrow1)
        | go_in)
      go_roundw
      case rel =>
        refine ⟨k + 1, by omega, by go_num, ?_, hbw.grown hgrow1 hbw.size (fun j hj => by cases hj; omega), by have := hgrow1.size; omega⟩
        unfold SnapsMap putD snapV
        rw [Hvk.out]
        exact hown1
      case measure => simp [intOf]; omega
    · obtain rfl : k = W.pn := by omega
      go_wp2
      go_ret
      exact ⟨vd, rfl, Hown.out, Hvd.out, hb⟩

/-- No two have one set and one name. -/
def NamesApart (n : Nat) (f : Nat → SnapD) : Prop := ∀ i, i < n → ∀ k, k < i → ¬ ((f k).set = (f i).set ∧ (f k).name = (f i).name)
theorem NamesApart.iff {n : Nat} {f : Nat → SnapD} {key : Nat → Lit} (hk : ∀ i, i < n → keyOf Tryz.prog 187 (.agg #[.string (f i).set, .string (f i).name]) = some (key i)) : DistL n key ↔ NamesApart n f := by
  constructor
  · intro h i hi k hk' e
    refine h i hi k hk' ?_
    have h1 := hk i hi
    have h2 := hk k (by omega)
    rw [e.1, e.2, h1] at h2
    exact (Option.some.inj h2).symm
  · intro h i hi k hk' e
    have h1 := hk i hi
    have h2 := hk k (by omega)
    rw [e] at h2
    have := lawT.inj h2 h1
    simp only [Value.agg.injEq, Array.mk.injEq, List.cons.injEq, Value.string.injEq, and_true] at this
    exact h i hi k hk' this

set_option maxRecDepth 20000 in
set_option maxHeartbeats 2000000 in
theorem namesApart_any (v : Value) (n lo hi : Nat) (f : Nat → SnapD) (w : World) (h : SnapsAt w lo hi v n f) (hn : n ≤ 20) :
    Calls Tryz.prog 122 #[v] w fun e w' => BoolIs (NamesApart n f) e ∧ Below w.heap.size w w' := by
  have Hp := hideW h
  obtain ⟨m1, a, c, rfl, mc, -⟩ := id h
  unfold maxLen at m1
  have hkx : ∀ i, ∃ l, WideAt.IsKeyLit l ∧ (i < n → keyOf Tryz.prog 187 (.agg #[.string (f i).set, .string (f i).name]) = some l) := fun i => by
    by_cases hi' : i < n
    · obtain ⟨b, off, vd, _, hs⟩ := h.cells hi'
      obtain ⟨l, hl⟩ := keyT_of hs.small.2 hs.small.1
      exact ⟨l, lawT.key hl, fun _ => hl⟩
    · exact ⟨.string [], trivial, fun h => absurd h hi'⟩
  obtain ⟨key, hk1, hk2⟩ : ∃ key : Nat → Lit, KeysOk key ∧ ∀ i, i < n → keyOf Tryz.prog 187 (.agg #[.string (f i).set, .string (f i).name]) = some (key i) := ⟨fun i => (hkx i).choose, fun i => (hkx i).choose_spec.1, fun i => (hkx i).choose_spec.2⟩
  have Hkx := hideW hk1
  have Hky := hideW hk2
  clear h hkx hk1 hk2
  have HM := hideW (World.ownsMap_made w Tryz.prog 187 rawE)
  have hmm := @run_makeMap Tryz.prog
  go_enter Tryz.func122, Tryz.ntmps122
  go_wp2
  go_loopw [9] (fun i wr => ∃ k : Nat, k ≤ n ∧ i = .int .i64 k ∧ wr.ownsMap Tryz.prog 187 rawE w.heap.size k (putD key (fun i => .int .i64 (f i).id) k) ∧ Below w.heap.size w wr ∧ w.heap.size + 1 ≤ wr.heap.size) (fun i _ => n - (intOf i).toNat)
  case atStart => exact ⟨0, Nat.zero_le _, rfl, HM.out, below_alloc _ _, by rw [World.size_alloc]; omega⟩
  case round =>
    clear HM
    obtain ⟨k, hk, rfl, hown, hb, hz⟩ := hrel
    have Hown := hideW hown
    clear hown
    by_cases hlt : k < n
    · have hlt' : (k : Int) < (n : Int) := by omega
      obtain ⟨b, off, vd, rfl, hs2⟩ := (Hp.out.below hb).cells hlt
      obtain ⟨-, ad, cd, rfl, -, -⟩ := id hs2.dead
      have hbs := below_alloc wr (.cells #[.int .i64 (f k).id, .string (f k).name, .string (f k).set, .int .i64 (f k).prev, .int .i64 (f k).time, .int .i64 (f k).rs, .int .i64 (f k).rb, .slice ad (f k).dn cd] 46)
      have HVs := hideW (Box8.new wr (.int .i64 (f k).id) (.string (f k).name) (.string (f k).set) (.int .i64 (f k).prev) (.int .i64 (f k).time) (.int .i64 (f k).rs) (.int .i64 (f k).rb) (.slice ad (f k).dn cd) 46)
      have hbw := below_next hb hbs
      have q0 := hs2.c0
      have q1 := hs2.c1
      have q2 := hs2.c2
      have q3 := hs2.c3
      have q4 := hs2.c4
      have q5 := hs2.c5
      have q6 := hs2.c6
      have q7 := hs2.c7
      have Hkey := hideW (Hky.out k hlt)
      obtain ⟨⟨⟨y0, -⟩, ⟨y1, -⟩, ⟨y2, -⟩, ⟨y3, -⟩⟩, ⟨y4, -⟩, ⟨y5, -⟩, ⟨y6, -⟩, ⟨y7, -⟩⟩ := HVs.out
      have Hown2 := hideW (Hown.out.kept (grownL hbs none) (by simp))
      have hz2 := hbs.size
      clear hs2 hbs
      go_wp2_with (first
        | (at_mapUpdate; refine wpList_mapUpdate_own _ rfl _ _ _ 186 rfl 187 2 lawT apartT rawE w.heap.size k _ rfl Hown2.out (by unfold maxLen; omega) _ _ _ rfl rfl Hkey.out _ [] (rawE_mk _) ?_; intro w1 hown1 hgrow1)
        | go_in)
      go_roundw
      case rel => exact ⟨k + 1, by omega, by go_num, hown1, hbw.grown hgrow1 hbw.size (fun j hj => by cases hj; omega), by have := hgrow1.size; omega⟩
      case measure => simp [intOf]; omega
    · obtain rfl : k = n := by omega
      have Hsz := hideW (putD_size Hkx.out (fun i => .int .i64 (f i).id) k)
      have HN := hideW (NamesApart.iff (f := f) Hky.out)
      go_wp2_with (first
        | (at_len; refine wpList_len_own _ rfl _ 186 rfl 187 2 apartT rawE w.heap.size k _ rfl Hown.out ?_)
        | go_in)
      go_ret
      refine ⟨⟨_, rfl, ?_⟩, hb⟩
      have h1 := Hsz.out.2
      have h2 := HN.out
      simp only [beq_iff_eq, Int.natCast_inj]
      exact h1.trans h2

end Go.Proofs.YtjpbmpjddbekgaaGreat
