/- What impl.kidsKept and impl.heldNeeded answer. -/
import Derived.Test.YtjbcjlednedboaaImplRight3
import Derived.Test.YtjbcjlednedboaaCopy
import Derived.Deep.LoopGhost
import Derived.Deep.QuietTactic
import Derived.BigQuiet
import Derived.Deep.DeepCutAuto
namespace Go.Proofs.Ytjbcjlednedboaa
open Go.RowKit
set_option linter.unusedVariables false

open Classical in
/-- The cells of a node's Kids, those at held slots none, the first k of them. -/
noncomputable def keptCell (s : SlotD) (hn : Nat) (h : Nat → Int) (k : Nat) (j : Nat) : Int := if j / 2 < k ∧ Has hn h (kidCell s (j / 2 * 2)) then 0 else kidCell s j

theorem kept_zero (s : SlotD) (hn : Nat) (h : Nat → Int) : keptCell s hn h 0 = kidCell s := by
  funext j
  exact if_neg (fun e => absurd e.1 (Nat.not_lt_zero _))
theorem kept_no {s : SlotD} {hn : Nat} {h : Nat → Int} {k : Nat} (hk : ¬ Has hn h (kidCell s (k * 2))) : keptCell s hn h (k + 1) = keptCell s hn h k := by
  funext j
  have e : (j / 2 < k + 1 ∧ Has hn h (kidCell s (j / 2 * 2))) ↔ (j / 2 < k ∧ Has hn h (kidCell s (j / 2 * 2))) := by
    refine ⟨fun x => ⟨?_, x.2⟩, fun x => ⟨by omega, x.2⟩⟩
    by_cases e3 : j / 2 = k
    · exact absurd (e3 ▸ x.2) hk
    · omega
  unfold keptCell
  by_cases c : j / 2 < k ∧ Has hn h (kidCell s (j / 2 * 2))
  · rw [if_pos (e.2 c), if_pos c]
  · rw [if_neg (fun x => c (e.1 x)), if_neg c]
theorem kept_yes {s : SlotD} {hn : Nat} {h : Nat → Int} {k : Nat} (hk : Has hn h (kidCell s (k * 2))) : keptCell s hn h (k + 1) = fun j => if j = k * 2 then 0 else if j = k * 2 + 1 then 0 else keptCell s hn h k j := by
  funext j
  by_cases e3 : j / 2 = k
  · have e0 : keptCell s hn h (k + 1) j = 0 := if_pos ⟨by omega, by rw [e3]; exact hk⟩
    rw [e0]
    by_cases e4 : j = k * 2
    · rw [if_pos e4]
    · rw [if_neg e4, if_pos (by omega)]
  · have e5 : ¬ j = k * 2 := by omega
    have e6 : ¬ j = k * 2 + 1 := by omega
    have e : (j / 2 < k + 1 ∧ Has hn h (kidCell s (j / 2 * 2))) ↔ (j / 2 < k ∧ Has hn h (kidCell s (j / 2 * 2))) := ⟨fun x => ⟨by omega, x.2⟩, fun x => ⟨by omega, x.2⟩⟩
    show keptCell s hn h (k + 1) j = if j = k * 2 then 0 else if j = k * 2 + 1 then 0 else keptCell s hn h k j
    rw [if_neg e5, if_neg e6]
    unfold keptCell
    by_cases c : j / 2 < k ∧ Has hn h (kidCell s (j / 2 * 2))
    · rw [if_pos (e.2 c), if_pos c]
    · rw [if_neg (fun x => c (e.1 x)), if_neg c]

set_option maxRecDepth 20000 in
set_option maxHeartbeats 1000000 in
theorem kidsKept_any (v0 v1 v2 hv : Value) (lo hi lo' hi' : Nat) (s : SlotD) (hn : Nat) (h : Nat → Int) (w : World) (h1 : SlotAt w lo hi v0 v1 v2 s) (hk : s.kn = 0 ∨ s.kn = 8) (h2 : IntsAt w lo' hi' hv hn h) :
    Calls Try.prog 91 #[.agg #[v0, v1, v2], hv] w fun e w' => e = .returned (.agg (arr16 (keptCell s hn h 8))) ∧ Below w.heap.size w w' := by
  have Hs := hide h1
  have Hh := hide h2
  obtain ⟨rfl, ⟨m1, a, c, rfl, mc, g1⟩, rfl, m2⟩ := h1
  obtain ⟨m3, a', c', rfl, mc', g2⟩ := h2
  have Hk : Hid (s.kn = 0 ∨ s.kn = 8) := hk
  clear g1 g2 hk
  go_enter Try.func91, Try.ntmps91
  go_wp2_with fail
  have ha1 := below_next (below_alloc w (.cells #[.int .i64 s.birth, .slice a s.kn c, .string s.data] 29)) (below_alloc _ (.cells #[Value.int .i64 0, Value.int .i64 0, Value.int .i64 0, Value.int .i64 0, Value.int .i64 0, Value.int .i64 0, Value.int .i64 0, Value.int .i64 0, Value.int .i64 0, Value.int .i64 0, Value.int .i64 0, Value.int .i64 0, Value.int .i64 0, Value.int .i64 0, Value.int .i64 0, Value.int .i64 0] 85))
  refine (kidsOf_any _ _ _ lo hi s _ (Hs.out.below ha1) Hk.out).mono ?_
  rintro e w1 ⟨rfl, hb1⟩
  have hb2 := below_next ha1 hb1
  have HR : Hid (w1.heap[w.heap.size + 1]? = some (.cells (arr16 fun _ => 0) 85 (0, 0))) := by
    have e := hb1.block (w.heap.size + 1) (by simp)
    have e2 := heap_alloc_last (w.alloc (.cells #[.int .i64 s.birth, .slice a s.kn c, .string s.data] 29)) (.cells #[Value.int .i64 0, Value.int .i64 0, Value.int .i64 0, Value.int .i64 0, Value.int .i64 0, Value.int .i64 0, Value.int .i64 0, Value.int .i64 0, Value.int .i64 0, Value.int .i64 0, Value.int .i64 0, Value.int .i64 0, Value.int .i64 0, Value.int .i64 0, Value.int .i64 0, Value.int .i64 0] 85)
    rw [World.size_alloc] at e2
    exact e.trans e2
  have hz1 : w.heap.size + 1 < w1.heap.size := (Array.getElem?_eq_some_iff.1 HR.out).1
  have Hi16 : Hid ((Try.prog.info? 85).map (·.size) = some (kidsA s).size) := by
    show _ = _
    rw [kidsA, arr16_size]; exact infoArr
  clear ha1 hb1
  go_wp2_with (first
    | (refine wpList_store_row rfl 85 (.tmp 5) (.tmp 9) rfl w1.heap.size (kidsA s) rfl rfl 85 #[Value.int .i64 0, Value.int .i64 0, Value.int .i64 0, Value.int .i64 0, Value.int .i64 0, Value.int .i64 0, Value.int .i64 0, Value.int .i64 0, Value.int .i64 0, Value.int .i64 0, Value.int .i64 0, Value.int .i64 0, Value.int .i64 0, Value.int .i64 0, Value.int .i64 0, Value.int .i64 0] (heap_alloc_last _ _) Hi16.out (by rw [kidsA, arr16_size]; rfl) (arr16_one _) ?_; rw [World.setRow_alloc_new])
    | (refine wpList_load_row rfl 85 (.tmp 5) rfl w1.heap.size rfl 85 (kidsA s) (0, 0) _ ?hh arrU rfl Hi16.out ?_; (exact heap_alloc_last _ _)))
  go_loopw [6, 7, 11] (fun _ _ i wr => ∃ (k : Nat), k ≤ 8 ∧ i = .int .i64 k ∧ wr.heap[w1.heap.size]? = some (.cells (arr16 (keptCell s hn h k)) 85 (0, 0)) ∧ Below w1.heap.size w1 wr) (fun _ _ i _ => 8 - (intOf i).toNat)
  case atStart =>
    refine ⟨0, Nat.zero_le _, rfl, ?_, below_alloc _ _⟩
    rw [kept_zero]
    exact heap_alloc_last _ _
  case round =>
    obtain ⟨k, hk, rfl, hK, hb⟩ := hrel
    have HK : Hid (wr.heap[w1.heap.size]? = some (.cells (arr16 (keptCell s hn h k)) 85 (0, 0))) := hK
    clear hK
    have hszF : w1.heap.size < wr.heap.size := (Array.getElem?_eq_some_iff.1 HK.out).1
    by_cases hlt : k < 8
    · have hlt' : (k : Int) < 8 := by omega
      have hidx : ∀ w, (Instr.index 85 (.agg (kidsA s)) (.int .i64 (k : Int))).run Try.prog w = .ok (.agg #[.int .i64 (kidCell s (k * 2)), .int .i64 (kidCell s (k * 2 + 1))]) w := fun w => index_arr (kidCell s) k hlt w
      go_wp2_with fail
      have hal := below_alloc wr (.cells #[.int .i64 (kidCell s (k * 2)), .int .i64 (kidCell s (k * 2 + 1))] 33)
      refine (contains_any _ hn lo' hi' h _ _ (Hh.out.below (below_next (below_next hb2 hb) hal))).mono ?_
      rintro e w2 ⟨⟨t, rfl, ht⟩, hw2⟩
      have HK2 : Hid (w2.heap[w1.heap.size]? = some (.cells (arr16 (keptCell s hn h k)) 85 (0, 0))) := by rw [hw2]; exact (hal.block _ hszF).trans HK.out
      have hbn : Below w1.heap.size w1 w2 := by rw [hw2]; exact below_next hb hal
      clear hal hidx HK hw2
      by_cases hH : Has hn h (kidCell s (k * 2))
      · obtain rfl : t = true := ht.2 hH
        have HH := hide hH
        clear ht hH
        obtain ⟨y0, y1⟩ := cell_of_block (i := k * 2) HK2.out (arr16_at _ (by omega))
        obtain ⟨y2, y3⟩ := cell_of_block (i := k * 2 + 1) HK2.out (arr16_at _ (by omega))
        go_wp2
        go_roundw
        case rel =>
          refine ⟨k + 1, by omega, by go_num, ?_, (hbn.setCell (Nat.le_refl _) _).setCell (Nat.le_refl _) _⟩
          have := heap_setCell_at (o := k * 2 + 1) (.int .i64 0) (heap_setCell_at (o := k * 2) (.int .i64 0) HK2.out)
          rw [arr16_set _ k hlt] at this
          rw [kept_yes HH.out]
          exact this
        case measure => simp [intOf]; omega
      · obtain rfl : t = false := bool_no ht hH
        have HH := hide hH
        clear ht hH
        go_wp2
        go_roundw
        case rel =>
          refine ⟨k + 1, by omega, by go_num, ?_, hbn⟩
          rw [kept_no HH.out]
          exact HK2.out
        case measure => simp [intOf]; omega
    · obtain rfl : k = 8 := by omega
      have HR2 : Hid (wr.heap[w.heap.size + 1]? = some (.cells (arr16 fun _ => 0) 85 (0, 0))) := (hb.block _ hz1).trans HR.out
      have Hg16 : Hid ((Try.prog.info? 85).map (·.size) = some (arr16 (keptCell s hn h 8)).size) := by
        show _ = _
        rw [arr16_size]; exact infoArr
      go_wp2_with (first
        | (refine wpList_load_row rfl 85 (.tmp 5) rfl w1.heap.size rfl 85 (arr16 (keptCell s hn h 8)) (0, 0) _ HK.out arrU rfl Hg16.out ?_)
        | (refine wpList_store_row rfl 85 (.tmp 4) (.tmp 23) rfl (w.heap.size + 1) (arr16 (keptCell s hn h 8)) rfl rfl 85 (arr16 fun _ => 0) HR2.out Hg16.out (by rw [arr16_size, arr16_size]) (arr16_one _) ?_))
      refine bodyPost_ret (v := .agg (arr16 (keptCell s hn h 8))) (results_cell_row (P := Try.prog) (ty := 85) Try.results91 _ _ (w.heap.size + 1) 85 (arr16 (keptCell s hn h 8)) (0, 0) _ rfl (setRow_heap _ _ _ _ _ _ HR2.out) arrU rfl Hg16.out) rfl ⟨rfl, ?_⟩
      exact below_setRow (below_next hb2 hb) (by omega) _

/-- A slot that stays has a Kid at a held one. -/
def NeedsAt (p : PoolD) (i : Nat) : Prop := ¬ Has p.hn p.h (i : Int) ∧ eq16 (kidCell (p.s i)) (keptCell (p.s i) p.hn p.h 8) = false
def Needed (p : PoolD) : Prop := ∃ i, i < p.n ∧ NeedsAt p i

set_option maxRecDepth 20000 in
set_option maxHeartbeats 2000000 in
theorem heldNeeded_any (v0 v1 : Value) (lo hi : Nat) (p : PoolD) (w : World) (h1 : PoolAt w lo hi v0 v1 p) (hkn : ∀ i, i < p.n → (p.s i).kn = 0 ∨ (p.s i).kn = 8) :
    Calls Try.prog 52 #[.agg #[v0, v1]] w fun e w' => BoolIs (Needed p) e ∧ Below w.heap.size w w' := by
  have Hp := hide h1
  obtain ⟨⟨m1, a, c, rfl, mc, g1⟩, ⟨m2, a', c', rfl, mc', g2⟩⟩ := h1
  unfold maxLen at m1 m2
  have Hkn := hide hkn
  clear g1 g2 hkn
  go_enter Try.func52, Try.ntmps52
  go_wp2
  go_loopw [3, 4, 8] (fun _ _ i wr => ∃ k : Nat, k ≤ p.n ∧ i = .int .i64 k ∧ (∀ j, j < k → ¬ NeedsAt p j) ∧ Box2 wr w.heap.size (.slice a p.n c) (.slice a' p.hn c') ∧ Below w.heap.size w wr) (fun _ _ i _ => p.n - (intOf i).toNat)
  case atStart => exact ⟨0, Nat.zero_le _, rfl, fun j hj => absurd hj (Nat.not_lt_zero _), Box2.new _ _ _ _, below_alloc _ _⟩
  case round =>
    obtain ⟨k, hk, rfl, hall, hx, hb⟩ := hrel
    have Hx := hide hx
    have Hall := hide hall
    clear hx hall
    by_cases hlt : k < p.n
    · have hlt' : (k : Int) < (p.n : Int) := by omega
      obtain ⟨b, off, ka, kc, rfl, hs⟩ := (Hp.out.1.below hb).cells hlt
      have Hs := hide hs
      obtain ⟨q0, q1, q2, _⟩ := hs
      go_wp2_with fail
      have hal := below_alloc wr (.cells #[.int .i64 (p.s k).birth, .slice ka (p.s k).kn kc, .string (p.s k).data] 29)
      have HS0 := hide (Box3.new wr (.int .i64 (p.s k).birth) (.slice ka (p.s k).kn kc) (.string (p.s k).data) 29)
      have HX0 := hide (Hx.out.below hal)
      have HSl := hide (Hs.out.slot.below hal)
      have hbn := below_next hb hal
      generalize wr.alloc (.cells #[.int .i64 (p.s k).birth, .slice ka (p.s k).kn kc, .string (p.s k).data] 29) = W at HS0 HX0 HSl hbn ⊢
      generalize wr.heap.size = B at HS0 ⊢
      clear q0 q1 q2 Hs Hx hal hb
      obtain ⟨⟨x0, x1⟩, ⟨x2, x3⟩⟩ := HX0.out
      obtain ⟨⟨y0, y1⟩, ⟨y2, y3⟩, ⟨y4, y5⟩⟩ := HS0.out
      by_cases hH : Has p.hn p.h (k : Int)
      · have HH := hide hH
        clear hH
        go_quiet ((go_at_call 48; refine Calls.quiet_of_same (v := .bool true) ((contains_any _ p.hn lo hi p.h _ _ (Hp.out.2.below (below_drewN hbn _))).mono ?_); rintro e w2 ⟨⟨t, rfl, ht⟩, rfl⟩; obtain rfl : t = true := ht.2 HH.out; exact ⟨rfl, rfl⟩))
        go_wp2
        go_roundw
        case rel => exact ⟨k + 1, by omega, by go_num, relNext hlt Hall.out (fun h => h.1 HH.out), HX0.out.below (below_drewN (Below.refl _ _) _), below_drewN hbn _⟩
        case measure => simp [intOf]; omega
      · have HH := hide hH
        clear hH
        cases he : eq16 (kidCell (p.s k)) (keptCell (p.s k) p.hn p.h 8) with
        | true =>
          have hneq : ∀ w, (binOp .neq 85 (.agg (kidsA (p.s k))) (.agg (arr16 (keptCell (p.s k) p.hn p.h 8)))).run Try.prog w = .ok (.bool false) w := fun w => by
            have e := neq_arr (kidCell (p.s k)) (keptCell (p.s k) p.hn p.h 8) w
            rw [he] at e
            exact e
          have HE := hide he
          clear he
          go_region_held3 (fun w' => w'.cell? ⟨w.heap.size, 1, none⟩ = some (.slice a' p.hn c') ∧ w'.cell? ⟨B, 0, none⟩ = some (.int .i64 (p.s k).birth) ∧ w'.cell? ⟨B, 1, none⟩ = some (.slice ka (p.s k).kn kc) ∧ w'.cell? ⟨B, 2, none⟩ = some (.string (p.s k).data)) (go_keep)
            (first
              | (go_at_call 48; refine (contains_any _ p.hn lo hi p.h _ _ ?_).mono ?_; (exact Hp.out.2.below hbn.drew); rintro e w2 ⟨⟨t, rfl, ht⟩, rfl⟩; obtain rfl : t = false := bool_no ht HH.out; clear ht)
              | (go_at_call 90; refine (kidsOf_any _ _ _ lo hi (p.s k) _ ?_ (Hkn.out k hlt)).mono ?_; (exact HSl.out.below (Below.refl _ _).drew); rintro e w3 ⟨rfl, hb3⟩; have hb3' := below_undrew hb3; have z0 := (HX0.out.below hb3').2.1; have z1 := (HS0.out.below hb3').1.1; have z2 := (HS0.out.below hb3').2.1.1; have z3 := (HS0.out.below hb3').2.2.1)
              | (go_at_call 91; refine (kidsKept_any _ _ _ _ lo hi lo hi (p.s k) p.hn p.h _ ?_ (Hkn.out k hlt) ?_).mono ?_; (exact HSl.out.below hb3'); (exact Hp.out.2.below (below_next hbn hb3')); rintro e w4 ⟨rfl, hb4⟩; have hb4' := below_next hb3' hb4; have z4 := (HX0.out.below hb4').2.1; have z5 := (HS0.out.below hb4').1.1; have z6 := (HS0.out.below hb4').2.1.1; have z7 := (HS0.out.below hb4').2.2.1))
          go_wp2
          go_roundw
          case rel => exact ⟨k + 1, by omega, by go_num, relNext hlt Hall.out (fun h => by have := h.2; rw [HE.out] at this; cases this), HX0.out.below hb4', below_next hbn hb4'⟩
          case measure => simp [intOf]; omega
        | false =>
          have hneq : ∀ w, (binOp .neq 85 (.agg (kidsA (p.s k))) (.agg (arr16 (keptCell (p.s k) p.hn p.h 8)))).run Try.prog w = .ok (.bool true) w := fun w => by
            have e := neq_arr (kidCell (p.s k)) (keptCell (p.s k) p.hn p.h 8) w
            rw [he] at e
            exact e
          have HE := hide he
          clear he
          go_region_held3 (fun w' => w'.cell? ⟨w.heap.size, 1, none⟩ = some (.slice a' p.hn c') ∧ w'.cell? ⟨B, 0, none⟩ = some (.int .i64 (p.s k).birth) ∧ w'.cell? ⟨B, 1, none⟩ = some (.slice ka (p.s k).kn kc) ∧ w'.cell? ⟨B, 2, none⟩ = some (.string (p.s k).data)) (go_keep)
            (first
              | (go_at_call 48; refine (contains_any _ p.hn lo hi p.h _ _ ?_).mono ?_; (exact Hp.out.2.below hbn.drew); rintro e w2 ⟨⟨t, rfl, ht⟩, rfl⟩; obtain rfl : t = false := bool_no ht HH.out; clear ht)
              | (go_at_call 90; refine (kidsOf_any _ _ _ lo hi (p.s k) _ ?_ (Hkn.out k hlt)).mono ?_; (exact HSl.out.below (Below.refl _ _).drew); rintro e w3 ⟨rfl, hb3⟩; have hb3' := below_undrew hb3; have z0 := (HX0.out.below hb3').2.1; have z1 := (HS0.out.below hb3').1.1; have z2 := (HS0.out.below hb3').2.1.1; have z3 := (HS0.out.below hb3').2.2.1)
              | (go_at_call 91; refine (kidsKept_any _ _ _ _ lo hi lo hi (p.s k) p.hn p.h _ ?_ (Hkn.out k hlt) ?_).mono ?_; (exact HSl.out.below hb3'); (exact Hp.out.2.below (below_next hbn hb3')); rintro e w4 ⟨rfl, hb4⟩; have hb4' := below_next hb3' hb4; have z4 := (HX0.out.below hb4').2.1; have z5 := (HS0.out.below hb4').1.1; have z6 := (HS0.out.below hb4').2.1.1; have z7 := (HS0.out.below hb4').2.2.1))
          go_wp2
          go_ret
          exact ⟨BoolIs.yes ⟨k, hlt, HH.out, HE.out⟩, below_next hbn hb4'⟩
    · obtain rfl : k = p.n := by omega
      go_wp2
      go_ret
      exact ⟨BoolIs.no (fun ⟨i, hi, h⟩ => Hall.out i hi h), hb⟩

end Go.Proofs.Ytjbcjlednedboaa
