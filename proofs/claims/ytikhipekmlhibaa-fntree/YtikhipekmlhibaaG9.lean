/- What impl.kidsKept and impl.heldNeeded answer. -/
import Derived.Test.YtikhipekmlhibaaG7
import Derived.Test.YtikhipekmlhibaaG4
import Derived.Deep.LoopGhost
import Derived.Deep.QuietTactic
import Derived.BigQuiet
import Derived.Deep.DeepCutAuto
import Derived.Test.YtikhipekmlhibaaG1
import Derived.Test.YtikhipekmlhibaaG6
import Derived.Test.YtikhipekmlhibaaG8
namespace Go.Proofs.Ytikhipekmlhibaa
open Go.RowKit
set_option linter.unusedVariables false

open Classical in
/-- The cells of a node's Kids, those at held slots none, the first k of them. -/
noncomputable def keptCell (s : SlotD) (hn : Nat) (h : Nat → Int) (k : Nat) (j : Nat) : Int := if j / 2 < k ∧ Has hn h (kidCell s (j / 2 * 2)) then 0 else kidCell s j

theorem kept_zero (s : SlotD) (hn : Nat) (h : Nat → Int) : keptCell s hn h 0 = kidCell s := by
  funext j
  exact if_neg (fun e => absurd e.1 (Nat.not_lt_zero _))
theorem kept_no {s : SlotD} {hn : Nat} {h : Nat → Int} {k : Nat} (hk : ¬ Has hn h (kidCell s (k * 2))) : keptCell s hn h (k + 1) = keptCell s hn h k := by
  funext j
  have e : (j / 2 < k + 1 ∧ Has hn h (kidCell s (j / 2 * 2))) ↔ (j / 2 < k ∧ Has hn h (kidCell s (j / 2 * 2))) := by
    refine ⟨fun x => ⟨?_, x.2⟩, fun x => ⟨by omega, x.2⟩⟩
    by_cases e3 : j / 2 = k
    · exact absurd (e3 ▸ x.2) hk
    · omega
  unfold keptCell
  by_cases c : j / 2 < k ∧ Has hn h (kidCell s (j / 2 * 2))
  · rw [if_pos (e.2 c), if_pos c]
  · rw [if_neg (fun x => c (e.1 x)), if_neg c]
theorem kept_yes {s : SlotD} {hn : Nat} {h : Nat → Int} {k : Nat} (hk : Has hn h (kidCell s (k * 2))) : keptCell s hn h (k + 1) = fun j => if j = k * 2 then 0 else if j = k * 2 + 1 then 0 else keptCell s hn h k j := by
  funext j
  by_cases e3 : j / 2 = k
  · have e0 : keptCell s hn h (k + 1) j = 0 := if_pos ⟨by omega, by rw [e3]; exact hk⟩
    rw [e0]
    by_cases e4 : j = k * 2
    · rw [if_pos e4]
    · rw [if_neg e4, if_pos (by omega)]
  · have e5 : ¬ j = k * 2 := by omega
    have e6 : ¬ j = k * 2 + 1 := by omega
    have e : (j / 2 < k + 1 ∧ Has hn h (kidCell s (j / 2 * 2))) ↔ (j / 2 < k ∧ Has hn h (kidCell s (j / 2 * 2))) := ⟨fun x => ⟨by omega, x.2⟩, fun x => ⟨by omega, x.2⟩⟩
    show keptCell s hn h (k + 1) j = if j = k * 2 then 0 else if j = k * 2 + 1 then 0 else keptCell s hn h k j
    rw [if_neg e5, if_neg e6]
    unfold keptCell
    by_cases c : j / 2 < k ∧ Has hn h (kidCell s (j / 2 * 2))
    · rw [if_pos (e.2 c), if_pos c]
    · rw [if_neg (fun x => c (e.1 x)), if_neg c]

set_option maxRecDepth 20000 in
set_option maxHeartbeats 1000000 in
theorem kidsKept_any (v0 v1 v2 hv : Value) (lo hi lo' hi' : Nat) (s : SlotD) (hn : Nat) (h : Nat → Int) (w : World) (h1 : SlotAt w lo hi v0 v1 v2 s) (hk : s.kn = 0 ∨ s.kn = 8) (h2 : IntsAt w lo' hi' hv hn h) :
    Calls Try.prog 107 #[.agg #[v0, v1, v2], hv] w fun e w' => e = .returned (.agg (arr16 (keptCell s hn h 8))) ∧ Below w.heap.size w w' := by
  have Hs := hide h1
  have Hh := hide h2
  obtain ⟨rfl, ⟨m1, a, c, rfl, mc, g1⟩, rfl, m2⟩ := h1
  obtain ⟨m3, a', c', rfl, mc', g2⟩ := h2
  have Hk : Hid (s.kn = 0 ∨ s.kn = 8) := hk
  clear g1 g2 hk
  go_enter Try.func107, Try.ntmps107
  go_wp2_with fail
  have ha1 := below_next (below_alloc w (.cells #[.int .i64 s.birth, .slice a s.kn c, .string s.data] 29)) (below_alloc _ (.cells #[Value.int .i64 0, Value.int .i64 0, Value.int .i64 0, Value.int .i64 0, Value.int .i64 0, Value.int .i64 0, Value.int .i64 0, Value.int .i64 0, Value.int .i64 0, Value.int .i64 0, Value.int .i64 0, Value.int .i64 0, Value.int .i64 0, Value.int .i64 0, Value.int .i64 0, Value.int .i64 0] 94))
  refine (kidsOf_any _ _ _ lo hi s _ (Hs.out.below ha1) Hk.out).mono ?_
  rintro e w1 ⟨rfl, hb1⟩
  have hb2 := below_next ha1 hb1
  have HR : Hid (w1.heap[w.heap.size + 1]? = some (.cells (arr16 fun _ => 0) 94 (0, 0))) := by
    have e := hb1.block (w.heap.size + 1) (by simp)
    have e2 := heap_alloc_last (w.alloc (.cells #[.int .i64 s.birth, .slice a s.kn c, .string s.data] 29)) (.cells #[Value.int .i64 0, Value.int .i64 0, Value.int .i64 0, Value.int .i64 0, Value.int .i64 0, Value.int .i64 0, Value.int .i64 0, Value.int .i64 0, Value.int .i64 0, Value.int .i64 0, Value.int .i64 0, Value.int .i64 0, Value.int .i64 0, Value.int .i64 0, Value.int .i64 0, Value.int .i64 0] 94)
    rw [World.size_alloc] at e2
    exact e.trans e2
  have hz1 : w.heap.size + 1 < w1.heap.size := (Array.getElem?_eq_some_iff.1 HR.out).1
  have Hi16 : Hid ((Try.prog.info? 94).map (·.size) = some (kidsA s).size) := by
    show _ = _
    rw [kidsA, arr16_size]; exact infoArr
  clear ha1 hb1
  go_wp2_with (first
    | (refine wpList_store_row rfl 94 (.tmp 5) (.tmp 9) rfl w1.heap.size (kidsA s) rfl rfl 94 #[Value.int .i64 0, Value.int .i64 0, Value.int .i64 0, Value.int .i64 0, Value.int .i64 0, Value.int .i64 0, Value.int .i64 0, Value.int .i64 0, Value.int .i64 0, Value.int .i64 0, Value.int .i64 0, Value.int .i64 0, Value.int .i64 0, Value.int .i64 0, Value.int .i64 0, Value.int .i64 0] (heap_alloc_last _ _) Hi16.out (by rw [kidsA, arr16_size]; rfl) (arr16_one _) ?_; rw [World.setRow_alloc_new])
    | (refine wpList_load_row rfl 94 (.tmp 5) rfl w1.heap.size rfl 94 (kidsA s) (0, 0) _ ?hh arrU rfl Hi16.out ?_; (exact heap_alloc_last _ _)))
  go_loopw [6, 7, 11] (fun _ _ i wr => ∃ (k : Nat), k ≤ 8 ∧ i = .int .i64 k ∧ wr.heap[w1.heap.size]? = some (.cells (arr16 (keptCell s hn h k)) 94 (0, 0)) ∧ Below w1.heap.size w1 wr) (fun _ _ i _ => 8 - (intOf i).toNat)
  case atStart =>
    refine ⟨0, Nat.zero_le _, rfl, ?_, below_alloc _ _⟩
    rw [kept_zero]
    exact heap_alloc_last _ _
  case round =>
    obtain ⟨k, hk, rfl, hK, hb⟩ := hrel
    have HK : Hid (wr.heap[w1.heap.size]? = some (.cells (arr16 (keptCell s hn h k)) 94 (0, 0))) := hK
    clear hK
    have hszF : w1.heap.size < wr.heap.size := (Array.getElem?_eq_some_iff.1 HK.out).1
    by_cases hlt : k < 8
    · have hlt' : (k : Int) < 8 := by omega
      have hidx : ∀ w, (Instr.index 94 (.agg (kidsA s)) (.int .i64 (k : Int))).run Try.prog w = .ok (.agg #[.int .i64 (kidCell s (k * 2)), .int .i64 (kidCell s (k * 2 + 1))]) w := fun w => index_arr (kidCell s) k hlt w
      go_wp2_with fail
      have hal := below_alloc wr (.cells #[.int .i64 (kidCell s (k * 2)), .int .i64 (kidCell s (k * 2 + 1))] 33)
      refine (contains_any _ hn lo' hi' h _ _ (Hh.out.below (below_next (below_next hb2 hb) hal))).mono ?_
      rintro e w2 ⟨⟨t, rfl, ht⟩, hw2⟩
      have HK2 : Hid (w2.heap[w1.heap.size]? = some (.cells (arr16 (keptCell s hn h k)) 94 (0, 0))) := by rw [hw2]; exact (hal.block _ hszF).trans HK.out
      have hbn : Below w1.heap.size w1 w2 := by rw [hw2]; exact below_next hb hal
      clear hal hidx HK hw2
      by_cases hH : Has hn h (kidCell s (k * 2))
      · obtain rfl : t = true := ht.2 hH
        have HH := hide hH
        clear ht hH
        obtain ⟨y0, y1⟩ := cell_of_block (i := k * 2) HK2.out (arr16_at _ (by omega))
        obtain ⟨y2, y3⟩ := cell_of_block (i := k * 2 + 1) HK2.out (arr16_at _ (by omega))
        go_wp2
        go_roundw
        case rel =>
          refine ⟨k + 1, by omega, by go_num, ?_, (hbn.setCell (Nat.le_refl _) _).setCell (Nat.le_refl _) _⟩
          have := heap_setCell_at (o := k * 2 + 1) (.int .i64 0) (heap_setCell_at (o := k * 2) (.int .i64 0) HK2.out)
          rw [arr16_set _ k hlt] at this
          rw [kept_yes HH.out]
          exact this
        case measure => simp [intOf]; omega
      · obtain rfl : t = false := bool_no ht hH
        have HH := hide hH
        clear ht hH
        go_wp2
        go_roundw
        case rel =>
          refine ⟨k + 1, by omega, by go_num, ?_, hbn⟩
          rw [kept_no HH.out]
          exact HK2.out
        case measure => simp [intOf]; omega
    · obtain rfl : k = 8 := by omega
      have HR2 : Hid (wr.heap[w.heap.size + 1]? = some (.cells (arr16 fun _ => 0) 94 (0, 0))) := (hb.block _ hz1).trans HR.out
      have Hg16 : Hid ((Try.prog.info? 94).map (·.size) = some (arr16 (keptCell s hn h 8)).size) := by
        show _ = _
        rw [arr16_size]; exact infoArr
      go_wp2_with (first
        | (refine wpList_load_row rfl 94 (.tmp 5) rfl w1.heap.size rfl 94 (arr16 (keptCell s hn h 8)) (0, 0) _ HK.out arrU rfl Hg16.out ?_)
        | (refine wpList_store_row rfl 94 (.tmp 4) (.tmp 23) rfl (w.heap.size + 1) (arr16 (keptCell s hn h 8)) rfl rfl 94 (arr16 fun _ => 0) HR2.out Hg16.out (by rw [arr16_size, arr16_size]) (arr16_one _) ?_))
      refine bodyPost_ret (v := .agg (arr16 (keptCell s hn h 8))) (results_cell_row (P := Try.prog) (ty := 94) Try.results107 _ _ (w.heap.size + 1) 94 (arr16 (keptCell s hn h 8)) (0, 0) _ rfl (setRow_heap _ _ _ _ _ _ HR2.out) arrU rfl Hg16.out) rfl ⟨rfl, ?_⟩
      exact below_setRow (below_next hb2 hb) (by omega) _

/-- A slot that stays has a Kid at a held one. -/
def NeedsAt (p : PoolD) (i : Nat) : Prop := ¬ Has p.hn p.h (i : Int) ∧ eq16 (kidCell (p.s i)) (keptCell (p.s i) p.hn p.h 8) = false
def Needed (p : PoolD) : Prop := ∃ i, i < p.n ∧ NeedsAt p i

set_option maxRecDepth 20000 in
set_option maxHeartbeats 2000000 in
theorem heldNeeded_any (v0 v1 : Value) (lo hi : Nat) (p : PoolD) (w : World) (h1 : PoolAt w lo hi v0 v1 p) (hkn : ∀ i, i < p.n → (p.s i).kn = 0 ∨ (p.s i).kn = 8) :
    Calls Try.prog 60 #[.agg #[v0, v1]] w fun e w' => BoolIs (Needed p) e ∧ Below w.heap.size w w' := by
  have Hp := hide h1
  obtain ⟨⟨m1, a, c, rfl, mc, g1⟩, ⟨m2, a', c', rfl, mc', g2⟩⟩ := h1
  unfold maxLen at m1 m2
  have Hkn := hide hkn
  clear g1 g2 hkn
  go_enter Try.func60, Try.ntmps60
  go_wp2
  go_loopw [3, 4, 8] (fun _ _ i wr => ∃ k : Nat, k ≤ p.n ∧ i = .int .i64 k ∧ (∀ j, j < k → ¬ NeedsAt p j) ∧ Box2 wr w.heap.size (.slice a p.n c) (.slice a' p.hn c') ∧ Below w.heap.size w wr) (fun _ _ i _ => p.n - (intOf i).toNat)
  case atStart => exact ⟨0, Nat.zero_le _, rfl, fun j hj => absurd hj (Nat.not_lt_zero _), Box2.new _ _ _ _, below_alloc _ _⟩
  case round =>
    obtain ⟨k, hk, rfl, hall, hx, hb⟩ := hrel
    have Hx := hide hx
    have Hall := hide hall
    clear hx hall
    by_cases hlt : k < p.n
    · have hlt' : (k : Int) < (p.n : Int) := by omega
      obtain ⟨b, off, ka, kc, rfl, hs⟩ := (Hp.out.1.below hb).cells hlt
      have Hs := hide hs
      obtain ⟨q0, q1, q2, _⟩ := hs
      go_wp2_with fail
      have hal := below_alloc wr (.cells #[.int .i64 (p.s k).birth, .slice ka (p.s k).kn kc, .string (p.s k).data] 29)
      have HS0 := hide (Box3.new wr (.int .i64 (p.s k).birth) (.slice ka (p.s k).kn kc) (.string (p.s k).data) 29)
      have HX0 := hide (Hx.out.below hal)
      have HSl := hide (Hs.out.slot.below hal)
      have hbn := below_next hb hal
      generalize wr.alloc (.cells #[.int .i64 (p.s k).birth, .slice ka (p.s k).kn kc, .string (p.s k).data] 29) = W at HS0 HX0 HSl hbn ⊢
      generalize wr.heap.size = B at HS0 ⊢
      clear q0 q1 q2 Hs Hx hal hb
      obtain ⟨⟨x0, x1⟩, ⟨x2, x3⟩⟩ := HX0.out
      obtain ⟨⟨y0, y1⟩, ⟨y2, y3⟩, ⟨y4, y5⟩⟩ := HS0.out
      by_cases hH : Has p.hn p.h (k : Int)
      · have HH := hide hH
        clear hH
        go_quiet ((go_at_call 56; refine Calls.quiet_of_same (v := .bool true) ((contains_any _ p.hn lo hi p.h _ _ (Hp.out.2.below (below_drewN hbn _))).mono ?_); rintro e w2 ⟨⟨t, rfl, ht⟩, rfl⟩; obtain rfl : t = true := ht.2 HH.out; exact ⟨rfl, rfl⟩))
        go_wp2
        go_roundw
        case rel => exact ⟨k + 1, by omega, by go_num, relNext hlt Hall.out (fun h => h.1 HH.out), HX0.out.below (below_drewN (Below.refl _ _) _), below_drewN hbn _⟩
        case measure => simp [intOf]; omega
      · have HH := hide hH
        clear hH
        cases he : eq16 (kidCell (p.s k)) (keptCell (p.s k) p.hn p.h 8) with
        | true =>
          have hneq : ∀ w, (binOp .neq 94 (.agg (kidsA (p.s k))) (.agg (arr16 (keptCell (p.s k) p.hn p.h 8)))).run Try.prog w = .ok (.bool false) w := fun w => by
            have e := neq_arr (kidCell (p.s k)) (keptCell (p.s k) p.hn p.h 8) w
            rw [he] at e
            exact e
          have HE := hide he
          clear he
          go_region_held3 (fun w' => w'.cell? ⟨w.heap.size, 1, none⟩ = some (.slice a' p.hn c') ∧ w'.cell? ⟨B, 0, none⟩ = some (.int .i64 (p.s k).birth) ∧ w'.cell? ⟨B, 1, none⟩ = some (.slice ka (p.s k).kn kc) ∧ w'.cell? ⟨B, 2, none⟩ = some (.string (p.s k).data)) (go_keep)
            (first
              | (go_at_call 56; refine (contains_any _ p.hn lo hi p.h _ _ ?_).mono ?_; (exact Hp.out.2.below hbn.drew); rintro e w2 ⟨⟨t, rfl, ht⟩, rfl⟩; obtain rfl : t = false := bool_no ht HH.out; clear ht)
              | (go_at_call 106; refine (kidsOf_any _ _ _ lo hi (p.s k) _ ?_ (Hkn.out k hlt)).mono ?_; (exact HSl.out.below (Below.refl _ _).drew); rintro e w3 ⟨rfl, hb3⟩; have hb3' := below_undrew hb3; have z0 := (HX0.out.below hb3').2.1; have z1 := (HS0.out.below hb3').1.1; have z2 := (HS0.out.below hb3').2.1.1; have z3 := (HS0.out.below hb3').2.2.1)
              | (go_at_call 107; refine (kidsKept_any _ _ _ _ lo hi lo hi (p.s k) p.hn p.h _ ?_ (Hkn.out k hlt) ?_).mono ?_; (exact HSl.out.below hb3'); (exact Hp.out.2.below (below_next hbn hb3')); rintro e w4 ⟨rfl, hb4⟩; have hb4' := below_next hb3' hb4; have z4 := (HX0.out.below hb4').2.1; have z5 := (HS0.out.below hb4').1.1; have z6 := (HS0.out.below hb4').2.1.1; have z7 := (HS0.out.below hb4').2.2.1))
          go_wp2
          go_roundw
          case rel => exact ⟨k + 1, by omega, by go_num, relNext hlt Hall.out (fun h => by have := h.2; rw [HE.out] at this; cases this), HX0.out.below hb4', below_next hbn hb4'⟩
          case measure => simp [intOf]; omega
        | false =>
          have hneq : ∀ w, (binOp .neq 94 (.agg (kidsA (p.s k))) (.agg (arr16 (keptCell (p.s k) p.hn p.h 8)))).run Try.prog w = .ok (.bool true) w := fun w => by
            have e := neq_arr (kidCell (p.s k)) (keptCell (p.s k) p.hn p.h 8) w
            rw [he] at e
            exact e
          have HE := hide he
          clear he
          go_region_held3 (fun w' => w'.cell? ⟨w.heap.size, 1, none⟩ = some (.slice a' p.hn c') ∧ w'.cell? ⟨B, 0, none⟩ = some (.int .i64 (p.s k).birth) ∧ w'.cell? ⟨B, 1, none⟩ = some (.slice ka (p.s k).kn kc) ∧ w'.cell? ⟨B, 2, none⟩ = some (.string (p.s k).data)) (go_keep)
            (first
              | (go_at_call 56; refine (contains_any _ p.hn lo hi p.h _ _ ?_).mono ?_; (exact Hp.out.2.below hbn.drew); rintro e w2 ⟨⟨t, rfl, ht⟩, rfl⟩; obtain rfl : t = false := bool_no ht HH.out; clear ht)
              | (go_at_call 106; refine (kidsOf_any _ _ _ lo hi (p.s k) _ ?_ (Hkn.out k hlt)).mono ?_; (exact HSl.out.below (Below.refl _ _).drew); rintro e w3 ⟨rfl, hb3⟩; have hb3' := below_undrew hb3; have z0 := (HX0.out.below hb3').2.1; have z1 := (HS0.out.below hb3').1.1; have z2 := (HS0.out.below hb3').2.1.1; have z3 := (HS0.out.below hb3').2.2.1)
              | (go_at_call 107; refine (kidsKept_any _ _ _ _ lo hi lo hi (p.s k) p.hn p.h _ ?_ (Hkn.out k hlt) ?_).mono ?_; (exact HSl.out.below hb3'); (exact Hp.out.2.below (below_next hbn hb3')); rintro e w4 ⟨rfl, hb4⟩; have hb4' := below_next hb3' hb4; have z4 := (HX0.out.below hb4').2.1; have z5 := (HS0.out.below hb4').1.1; have z6 := (HS0.out.below hb4').2.1.1; have z7 := (HS0.out.below hb4').2.2.1))
          go_wp2
          go_ret
          exact ⟨BoolIs.yes ⟨k, hlt, HH.out, HE.out⟩, below_next hbn hb4'⟩
    · obtain rfl : k = p.n := by omega
      go_wp2
      go_ret
      exact ⟨BoolIs.no (fun ⟨i, hi, h⟩ => Hall.out i hi h), hb⟩

end Go.Proofs.Ytikhipekmlhibaa

namespace Go.Proofs.Ytikhipekmlhibaa
open Go.RowKit
set_option linter.unusedVariables false

def setS (p : PoolD) (i : Nat) (s : SlotD) : PoolD := { n := p.n, s := fun j => if j = i then s else p.s j, hn := p.hn, h := p.h }

/-- A slot of an own pool is written. -/
theorem PoolOwn.set {w : World} {lo hi : Nat} {a : Option Addr} {c : Nat} {v1 : Value} {p : PoolD} (h : PoolOwn w lo hi (.slice a p.n c) v1 p) {i : Nat} (hi' : i < p.n) :
    ∃ bs off, a = some ⟨bs, off, none⟩ ∧ (lo ≤ bs ∧ bs < hi) ∧ (∃ x0 x1 x2, Cell w bs (off + i * 3) x0 ∧ Cell w bs (off + i * 3 + 1) x1 ∧ Cell w bs (off + i * 3 + 2) x2) ∧
      ∀ (s : SlotD) (nb : Nat) (nv : Value) (lo' hi' : Nat), PtrsOwn w nb nv s.kn s.ks s.kb → s.data.size ≤ maxLen → (0 < s.kn → (nb < lo ∨ hi ≤ nb) ∧ lo' ≤ nb ∧ nb < hi') → lo' ≤ lo → hi ≤ hi' →
        PoolOwn (((w.setCell ⟨bs, off + i * 3, none⟩ (.int .i64 s.birth)).setCell ⟨bs, off + i * 3 + 1, none⟩ nv).setCell ⟨bs, off + i * 3 + 2, none⟩ (.string s.data)) lo' hi' (.slice a p.n c) v1 (setS p i s) := by
  obtain ⟨bs, hb, kb, kv, ⟨hm, a0, c0, hv, hcc, hx⟩, hap, hint, hnb, hpl⟩ := h
  simp only [Value.slice.injEq, true_and] at hv
  obtain ⟨rfl, rfl⟩ := hv
  have h0 : 0 < p.n := by omega
  obtain ⟨off, ha, hsl⟩ := hx h0
  have hbs := hpl bs (Or.inl (Or.inl ⟨h0, rfl⟩))
  have hkb : ∀ j, j < p.n → 0 < (p.s j).kn → lo ≤ kb j ∧ kb j < hi := fun j hj hk => hpl _ (Or.inl (Or.inr ⟨j, hj, hk, rfl⟩))
  have hhb : 0 < p.hn → lo ≤ hb ∧ hb < hi := fun h => hpl _ (Or.inr ⟨h, rfl⟩)
  refine ⟨bs, off, ha, hbs, ⟨_, _, _, (hsl i hi').birth, (hsl i hi').kidsv, (hsl i hi').data⟩, fun s nb nv lo' hi'' hp hs hnn h1 h2 => ?_⟩
  refine ⟨bs, hb, (fun j => if j = i then nb else kb j), (fun j => if j = i then nv else kv j), ⟨hm, a, c, rfl, hcc, fun _ => ⟨off, ha, fun j hj => ?_⟩⟩, fun j k hj hk hjk g1 g2 => ?_, ?_, fun g0 hx => ?_, fun k hk => ?_⟩
  · have hj' := hsl j hj
    by_cases e : j = i
    · subst e
      simp only [setS, if_true]
      refine ⟨?_, ?_, ?_, ?_, hs, fun hk e => by have := hnn hk; omega⟩
      · exact ((hj'.birth.set _).other _ (Or.inr (by omega))).other _ (Or.inr (by omega))
      · exact ((hj'.kidsv.other _ (Or.inr (by omega))).set _).other _ (Or.inr (by omega))
      · exact ((hj'.data.other _ (Or.inr (by omega))).other _ (Or.inr (by omega))).set _
      · refine ((hp.turned (Turned.put _ _ _ _) ?_).turned (Turned.put _ _ _ _) ?_).turned (Turned.put _ _ _ _) ?_
        all_goals exact fun hk e => by have := hnn hk; omega
    · simp only [setS, if_neg e]
      refine ⟨?_, ?_, ?_, ?_, hj'.small, hj'.apart⟩
      · exact ((hj'.birth.other _ (Or.inr (by omega))).other _ (Or.inr (by omega))).other _ (Or.inr (by omega))
      · exact ((hj'.kidsv.other _ (Or.inr (by omega))).other _ (Or.inr (by omega))).other _ (Or.inr (by omega))
      · exact ((hj'.data.other _ (Or.inr (by omega))).other _ (Or.inr (by omega))).other _ (Or.inr (by omega))
      · refine ((hj'.kids.turned (Turned.put _ _ _ _) ?_).turned (Turned.put _ _ _ _) ?_).turned (Turned.put _ _ _ _) ?_
        all_goals exact fun hk e => hj'.apart hk e
  · show (if j = i then nb else kb j) ≠ (if k = i then nb else kb k)
    by_cases e1 : j = i
    · by_cases e2 : k = i
      · omega
      · rw [if_pos e1, if_neg e2]
        simp only [setS, if_pos e1] at g1
        simp only [setS, if_neg e2] at g2
        have := hnn g1; have := hkb k hk g2; omega
    · by_cases e2 : k = i
      · rw [if_neg e1, if_pos e2]
        simp only [setS, if_neg e1] at g1
        simp only [setS, if_pos e2] at g2
        have := hnn g2; have := hkb j hj g1; omega
      · rw [if_neg e1, if_neg e2]
        simp only [setS, if_neg e1] at g1
        simp only [setS, if_neg e2] at g2
        exact hap j k hj hk hjk g1 g2
  · have hne : 0 < p.hn → hb ≠ bs := fun h e => hnb h (Or.inl ⟨h0, e⟩)
    refine ((hint.turned (Turned.put _ _ _ _) ?_).turned (Turned.put _ _ _ _) ?_).turned (Turned.put _ _ _ _) ?_
    all_goals exact fun hk e => hne hk e
  · rcases hx with ⟨_, e⟩ | ⟨j, hj, g1, e⟩
    · exact hnb g0 (Or.inl ⟨h0, e⟩)
    · by_cases e1 : j = i
      · simp only [setS, if_pos e1] at g1 e
        have := hnn g1; have := hhb g0; omega
      · simp only [setS, if_neg e1] at g1 e
        exact hnb g0 (Or.inr ⟨j, hj, g1, e⟩)
  · rcases hk with (⟨_, e⟩ | ⟨j, hj, g1, e⟩) | ⟨g0, e⟩
    · omega
    · by_cases e1 : j = i
      · simp only [setS, if_pos e1] at g1 e
        have := hnn g1; omega
      · simp only [setS, if_neg e1] at g1 e
        have := hkb j hj g1; omega
    · have := hhb g0; omega

/-- A pool is laid into the variable of the result. -/
theorem pool_ret {w wr : World} {lo hi R : Nat} {s0 s1 : Value} {p : PoolD} (ho : PoolOwn wr lo hi s0 s1 p) (hR1 : R < lo) (hlo : w.heap.size ≤ R) (hhi : hi ≤ wr.heap.size) (hb : Below w.heap.size w wr) :
    PoolOwn ((wr.setCell ⟨R, 0, none⟩ s0).setCell ⟨R, 1, none⟩ s1) w.heap.size ((wr.setCell ⟨R, 0, none⟩ s0).setCell ⟨R, 1, none⟩ s1).heap.size s0 s1 p ∧ Below w.heap.size w ((wr.setCell ⟨R, 0, none⟩ s0).setCell ⟨R, 1, none⟩ s1) := by
  have t := (Turned.put wr R 0 s0).trans (Turned.put _ R 1 s1)
  have hz := t.size
  exact ⟨(ho.turned t (fun k hk => by omega)).wide (by omega) (by omega), (hb.setCell hlo _).setCell hlo _⟩

end Go.Proofs.Ytikhipekmlhibaa

namespace Go.Proofs.Ytikhipekmlhibaa
open Go.RowKit
set_option linter.unusedVariables false

open Classical in
/-- The first m held slots free. -/
noncomputable def freed (p : PoolD) (m : Nat) : PoolD := { n := p.n, s := fun i => if Has m p.h (i : Int) then zeroS else p.s i, hn := p.hn, h := p.h }
/-- All held slots free, none held. -/
noncomputable def swept (p : PoolD) : PoolD := { n := p.n, s := (freed p p.hn).s, hn := 0, h := p.h }
open Classical in
noncomputable def syncP (p : PoolD) : PoolD := if Right p ∧ Right (swept p) then swept p else p

theorem freed_yes {p : PoolD} {m i : Nat} (h : Has m p.h (i : Int)) : (freed p m).s i = zeroS := if_pos h
theorem freed_not {p : PoolD} {m i : Nat} (h : ¬ Has m p.h (i : Int)) : (freed p m).s i = p.s i := if_neg h
theorem freed_zero (p : PoolD) : freed p 0 = p := by
  have e : (freed p 0).s = p.s := funext fun i => freed_not (fun ⟨j, hj, _⟩ => absurd hj (Nat.not_lt_zero _))
  show PoolD.mk p.n (freed p 0).s p.hn p.h = p
  rw [e]
theorem freed_succ {p : PoolD} {k m : Nat} (hk : p.h k = (m : Int)) : freed p (k + 1) = setS (freed p k) m zeroS := by
  have e : (freed p (k + 1)).s = (setS (freed p k) m zeroS).s := funext fun i => by
    show _ = if i = m then zeroS else (freed p k).s i
    by_cases h1 : i = m
    · rw [if_pos h1, freed_yes ⟨k, by omega, by rw [hk, h1]⟩]
    · rw [if_neg h1]
      by_cases h2 : Has k p.h (i : Int)
      · rw [freed_yes h2, freed_yes (by obtain ⟨j, hj, e⟩ := h2; exact ⟨j, by omega, e⟩)]
      · rw [freed_not h2, freed_not (fun ⟨j, hj, e⟩ => h2 ⟨j, by
          by_cases e2 : j = k
          · subst e2; rw [hk] at e; omega
          · omega, e⟩)]
  show PoolD.mk p.n (freed p (k + 1)).s p.hn p.h = PoolD.mk p.n (setS (freed p k) m zeroS).s p.hn p.h
  rw [e]

theorem zero_free : Free zeroS := ⟨rfl, rfl, by simp [zeroS, Go.ByteArray.toList_eq]⟩

theorem sync_kn {p : PoolD} (h : Right p) {i : Nat} (hi : i < p.n) : (p.s i).kn = 0 ∨ (p.s i).kn = 8 := by
  rcases h.2.1 i hi with h | h
  · exact Or.inl h.2.1
  · rcases h.2 with h | h
    · exact Or.inl h.1
    · exact Or.inr h.1

theorem kid_cells {s : SlotD} (h : s.kn = 8) {i : Nat} (hi : i < 8) : kidCell s (i * 2) = s.ks i ∧ kidCell s (i * 2 + 1) = s.kb i := by
  refine ⟨?_, ?_⟩
  · unfold kidCell; rw [if_pos (by omega), if_pos (by omega), show i * 2 / 2 = i by omega]
  · unfold kidCell; rw [if_pos (by omega), if_neg (by omega), show (i * 2 + 1) / 2 = i by omega]

/-- What it means that a Kid is not kept. -/
theorem needs_iff (p : PoolD) (i : Nat) : NeedsAt p i ↔ ¬ Has p.hn p.h (i : Int) ∧ ∃ m, m < 8 ∧ Has p.hn p.h (kidCell (p.s i) (m * 2)) ∧ ¬ (kidCell (p.s i) (m * 2) = 0 ∧ kidCell (p.s i) (m * 2 + 1) = 0) := by
  unfold NeedsAt
  refine and_congr Iff.rfl ?_
  have hk : ∀ m, m < 8 → ∀ r, r < 2 → Has p.hn p.h (kidCell (p.s i) (m * 2)) → keptCell (p.s i) p.hn p.h 8 (m * 2 + r) = 0 := fun m hm r hr h => if_pos ⟨by omega, by rw [show (m * 2 + r) / 2 = m by omega]; exact h⟩
  have hk2 : ∀ m, ∀ r, r < 2 → ¬ Has p.hn p.h (kidCell (p.s i) (m * 2)) → keptCell (p.s i) p.hn p.h 8 (m * 2 + r) = kidCell (p.s i) (m * 2 + r) := fun m r hr h => if_neg (fun x => h (by have := x.2; rw [show (m * 2 + r) / 2 = m by omega] at this; exact this))
  constructor
  · intro he
    apply Classical.byContradiction
    intro hx
    have : eq16 (kidCell (p.s i)) (keptCell (p.s i) p.hn p.h 8) = true := (eq16_iff _ _).2 fun m hm => by
      by_cases h : Has p.hn p.h (kidCell (p.s i) (m * 2))
      · have e0 := hk m hm 0 (by omega) h
        have e1 := hk m hm 1 (by omega) h
        rw [Nat.add_zero] at e0
        rw [e0, e1]
        apply Classical.byContradiction
        intro hy
        exact hx ⟨m, hm, h, hy⟩
      · have e0 := hk2 m 0 (by omega) h
        have e1 := hk2 m 1 (by omega) h
        rw [Nat.add_zero] at e0
        rw [e0, e1]
        exact ⟨rfl, rfl⟩
    rw [this] at he
    cases he
  · rintro ⟨m, hm, h, hy⟩
    apply Bool.eq_false_iff.2
    intro he
    have := (eq16_iff _ _).1 he m hm
    have e0 := hk m hm 0 (by omega) h
    have e1 := hk m hm 1 (by omega) h
    rw [Nat.add_zero] at e0
    rw [e0, e1] at this
    exact hy this

theorem needed_iff {p : PoolD} (hR : Right p) : Needed p ↔ ¬ Right (swept p) := by
  constructor
  · rintro ⟨i, hi, h⟩ hS
    obtain ⟨hni, m, hm, hH, hz⟩ := (needs_iff p i).1 h
    have hkn : (p.s i).kn = 8 := by
      rcases sync_kn hR hi with h | h
      · exact absurd ⟨by unfold kidCell; rw [if_neg (by omega)], by unfold kidCell; rw [if_neg (by omega)]⟩ hz
      · exact h
    obtain ⟨e0, e1⟩ := kid_cells hkn hm
    rw [e0] at hH
    rw [e0, e1] at hz
    have hsi : (swept p).s i = p.s i := freed_not hni
    have hP : Points p ((p.s i).ks m) ((p.s i).kb m) := by
      rcases hR.2.1 i hi with h | h
      · have := h.2.1; omega
      · rcases h.2 with h | h
        · omega
        · rcases h.2.2 m (by omega) with h | h
          · exact absurd h hz
          · exact h.1
    rcases hS.2.1 i hi with h | h
    · rw [hsi] at h; have := h.2.1; omega
    · rw [hsi] at h
      rcases h.2 with h | h
      · omega
      · rcases h.2.2 m (by omega) with h | h
        · exact hz h
        · obtain ⟨h1, h2, h3, h4⟩ := h.1
          have hz' : (swept p).s ((p.s i).ks m).toNat = zeroS := freed_yes (by rw [Int.toNat_of_nonneg h2]; exact hH)
          rw [hz'] at h4
          have : (0 : Int) = (p.s i).kb m := h4
          have := hP.1
          omega
  · intro hS
    apply Classical.byContradiction
    intro hN
    apply hS
    refine ⟨hR.1, fun i hi => ?_, fun i hi => absurd hi (Nat.not_lt_zero _)⟩
    by_cases hni : Has p.hn p.h (i : Int)
    · rw [show (swept p).s i = zeroS from freed_yes hni]; exact Or.inl zero_free
    · rw [show (swept p).s i = p.s i from freed_not hni]
      rcases hR.2.1 i hi with h | h
      · exact Or.inl h
      · refine Or.inr ⟨h.1, ?_⟩
        rcases h.2 with h2 | h2
        · exact Or.inl h2
        · refine Or.inr ⟨h2.1, h2.2.1, fun m hm => ?_⟩
          rcases h2.2.2 m hm with h3 | h3
          · exact Or.inl h3
          · by_cases hH : Has p.hn p.h ((p.s i).ks m)
            · left
              apply Classical.byContradiction
              intro hz
              obtain ⟨e0, e1⟩ := kid_cells h2.1 (i := m) (by omega)
              exact hN ⟨i, hi, (needs_iff p i).2 ⟨hni, m, by omega, by rw [e0]; exact hH, by rw [e0, e1]; exact hz⟩⟩
            · right
              obtain ⟨⟨g1, g2, g3, g4⟩, g5⟩ := h3
              exact ⟨⟨g1, g2, g3, by rw [show (swept p).s ((p.s i).ks m).toNat = p.s ((p.s i).ks m).toNat from freed_not (by rw [Int.toNat_of_nonneg g2]; exact hH)]; exact g4⟩, g5⟩

theorem sync_yes {p : PoolD} (h : Right p) (h' : Right (swept p)) : syncP p = swept p := if_pos ⟨h, h'⟩
theorem sync_no {p : PoolD} (h : ¬ (Right p ∧ Right (swept p))) : syncP p = p := if_neg h

theorem PoolOwn.noHeld {w : World} {lo hi : Nat} {v0 v1 : Value} {p : PoolD} (h : PoolOwn w lo hi v0 v1 p) : PoolOwn w lo hi v0 (.slice none 0 0) { n := p.n, s := p.s, hn := 0, h := p.h } := by
  obtain ⟨bs, hb, kb, kv, h1, h2, h3, h4, h5⟩ := h
  refine ⟨bs, 0, kb, kv, h1, h2, ⟨Nat.zero_le _, none, 0, rfl, Nat.le_refl _, fun h => absurd h (Nat.lt_irrefl _), fun h => absurd h (Nat.lt_irrefl _)⟩, fun h => absurd h (Nat.lt_irrefl _), fun k hk => ?_⟩
  rcases hk with hk | ⟨h, _⟩
  · exact h5 k (Or.inl hk)
  · exact absurd h (Nat.lt_irrefl _)

end Go.Proofs.Ytikhipekmlhibaa
