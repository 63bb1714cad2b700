/- append of a row of pointers behind a row, as a step of a region that draws its order (no law is proved here). -/
import Derived.Test.YtikhipekmlhibaaG13
import Derived.Test.YtikhipekmlhibaaG4
import Derived.Deep.RegionHeld3
import Derived.Test.YtikhipekmlhibaaG18
import Derived.Test.YtikhipekmlhibaaG2
import Derived.Test.YtikhipekmlhibaaG10
namespace Go.Proofs.Ytikhipekmlhibaa
open Go.RowKit
set_option linter.unusedVariables false

theorem RowL.at' {w : World} {base : Nat} {v : Value} {l : List (Int × Int)} (h : RowL w base v l) (hm : l.length ≤ maxLen) : PtrsAt w 0 w.heap.size v l.length (fstL l) (sndL l) := by
  obtain ⟨b, h1, h2⟩ := h.own hm
  exact h1.at (fun h0 => ⟨Nat.zero_le _, (h2 h0).2.2⟩)

/-- append of a row behind a row, as a step of a region that draws its order. -/
theorem step_rows {ops : Array Oper} {o : Oper} {a : Act} {w : World} {K : Act → World → Prop} {Q : Exit → Act → World → Prop} {E : Prop} (hgd : o.guard = none) (s x : Operand)
    (ho : o.op = .call { callee := .builtin .append, args := #[s, x], argTypes := #[27, 27] }) (base base2 : Nat) (v : Value) (l : List (Int × Int)) (hs : a.eval s = v) (hown : RowL w base v l)
    (ao : Option Addr) (m c : Nat) (l2 : List (Int × Int)) (hx : a.eval x = .slice ao m c) (hm : m = l2.length) (h2 : RowL w base2 (.slice ao m c) l2) (hlen : l.length + l2.length ≤ 1000) (hbase : base ≤ w.heap.size)
    (h : ∀ v' w', RowL w' base v' (l ++ l2) → w.grownBy w' v.ownBlock → K (a.put o.dst v') w') : if Region.wanted o (yielded ops a.tmps) = true then Oper.wp Try.prog o a w K Q else E := by
  have hw : Region.wanted o (yielded ops a.tmps) = true := by simp [Region.wanted, hgd]
  rw [if_pos hw]
  obtain ⟨i0, hi0, hz0, hz1, hz2⟩ : ∃ i, Try.prog.info? 33 = some i ∧ i.zero = some (.agg #[.int .i64 0, .int .i64 0]) ∧ i.size = 2 ∧ i.bytes = 16 := by
    obtain ⟨i0, hi0, hzz⟩ := Option.map_eq_some_iff.1 infoPtrL
    simp only [Prod.mk.injEq] at hzz
    exact ⟨i0, hi0, hzz⟩
  have ht : Try.prog.underlying 27 = some (.slice 33) := by kernel_rfl
  by_cases h0 : 0 < l2.length
  · obtain ⟨b, cap, e, _, _, _, hcell⟩ := owns_cell h2 h0
    simp only [Value.slice.injEq] at e
    obtain ⟨rfl, _, _⟩ := e
    obtain ⟨v', w', hr, r1, r2, _⟩ := run_append_own (P := Try.prog) w base 27 o.type 33 i0 (.agg #[.int .i64 0, .int .i64 0]) 2 16 ht hi0 hz0 hz1 hz2 rfl (by decide) v l.length (pcl l) hown ⟨b, 0, none⟩ m c (pcl l2) (by rw [pcl_len, hm]) (fun j u hj => by rw [add_lit, Nat.zero_add]; exact (hcell j u hj).1) (pcl_one l2) (by rw [hm]; unfold maxLen; omega) (by rw [hm]; omega) hbase
    unfold Oper.wp
    simp [execOp, ho, resolve, invoke, builtin, hs, hx, hr, Result.andThen]
    refine h v' w' ?_ r2
    unfold RowL
    rw [pcl_append, List.length_append, ← hm]
    exact r1
  · have e0 : l2 = [] := List.eq_nil_of_length_eq_zero (by omega)
    subst e0
    have hm0 : m = 0 := hm
    subst hm0
    have hr := run_append_zero (P := Try.prog) (w := w) base 27 o.type 33 i0 2 c ao ht hi0 v l.length (pcl l) hown
    unfold Oper.wp
    simp [execOp, ho, resolve, invoke, builtin, hs, hx, hr, Result.andThen]
    exact h v w (by rw [List.append_nil]; exact hown) ⟨rfl, rfl, rfl, Nat.le_refl _, fun _ _ _ => rfl⟩

end Go.Proofs.Ytikhipekmlhibaa

namespace Go.Proofs.Ytikhipekmlhibaa
open Go Go.RowKit
set_option linter.unusedVariables false

theorem wayFrame {v : Value} {xs xb : Int} {n z B X L : Nat} (a : Act) (h : a = { tmps := #[v, .agg #[.int .i64 xs, .int .i64 xb], .int .i64 (n : Int), a.tmps.getD 3 undef, .pointer (some ⟨z, 0, none⟩), a.tmps.getD 5 undef, .pointer (some ⟨z + 1, 0, none⟩), .pointer (some ⟨B, 0, none⟩), .pointer (some ⟨X, 0, none⟩), .int .i64 (L : Int), a.tmps.getD 10 undef, a.tmps.getD 11 undef, a.tmps.getD 12 undef, a.tmps.getD 13 undef, a.tmps.getD 14 undef, a.tmps.getD 15 undef, a.tmps.getD 16 undef, a.tmps.getD 17 undef, a.tmps.getD 18 undef, a.tmps.getD 19 undef, a.tmps.getD 20 undef, a.tmps.getD 21 undef, a.tmps.getD 22 undef, a.tmps.getD 23 undef, a.tmps.getD 24 undef, a.tmps.getD 25 undef, a.tmps.getD 26 undef, a.tmps.getD 27 undef, a.tmps.getD 28 undef, a.tmps.getD 29 undef, a.tmps.getD 30 undef, a.tmps.getD 31 undef, a.tmps.getD 32 undef, a.tmps.getD 33 undef, a.tmps.getD 34 undef, a.tmps.getD 35 undef, a.tmps.getD 36 undef, a.tmps.getD 37 undef, a.tmps.getD 38 undef, a.tmps.getD 39 undef, a.tmps.getD 40 undef, a.tmps.getD 41 undef, a.tmps.getD 42 undef, a.tmps.getD 43 undef, a.tmps.getD 44 undef, a.tmps.getD 45 undef, a.tmps.getD 46 undef, a.tmps.getD 47 undef, a.tmps.getD 48 undef, a.tmps.getD 49 undef, a.tmps.getD 50 undef, a.tmps.getD 51 undef, a.tmps.getD 52 undef, a.tmps.getD 53 undef, a.tmps.getD 54 undef, a.tmps.getD 55 undef, a.tmps.getD 56 undef, a.tmps.getD 57 undef, a.tmps.getD 58 undef, a.tmps.getD 59 undef, a.tmps.getD 60 undef, a.tmps.getD 61 undef, a.tmps.getD 62 undef, a.tmps.getD 63 undef, a.tmps.getD 64 undef, a.tmps.getD 65 undef, a.tmps.getD 66 undef, a.tmps.getD 67 undef], defers := [] }) : ∃ j : Nat → Value, a = { tmps := #[v, .agg #[.int .i64 xs, .int .i64 xb], .int .i64 (n : Int), j 3, .pointer (some ⟨z, 0, none⟩), j 5, .pointer (some ⟨z + 1, 0, none⟩), .pointer (some ⟨B, 0, none⟩), .pointer (some ⟨X, 0, none⟩), .int .i64 (L : Int), j 10, j 11, j 12, j 13, j 14, j 15, j 16, j 17, j 18, j 19, j 20, j 21, j 22, j 23, j 24, j 25, j 26, j 27, j 28, j 29, j 30, j 31, j 32, j 33, j 34, j 35, j 36, j 37, j 38, j 39, j 40, j 41, j 42, j 43, j 44, j 45, j 46, j 47, j 48, j 49, j 50, j 51, j 52, j 53, j 54, j 55, j 56, j 57, j 58, j 59, j 60, j 61, j 62, j 63, j 64, j 65, j 66, j 67], defers := [] } := ⟨fun i => a.tmps.getD i undef, h⟩

/-- The run of impl.wayTo at its labels. -/
def WayR (p : PoolD) (v : Value) (xs xb : Int) (n : Nat) (w0 : World) (z : Nat) (k l : Nat) (a : Act) (w : World) : Prop :=
  ∃ B X L : Nat, (∃ j : Nat → Value, a = { tmps := #[v, .agg #[.int .i64 xs, .int .i64 xb], .int .i64 (n : Int), j 3, .pointer (some ⟨z, 0, none⟩), j 5, .pointer (some ⟨z + 1, 0, none⟩), .pointer (some ⟨B, 0, none⟩), .pointer (some ⟨X, 0, none⟩), .int .i64 (L : Int), j 10, j 11, j 12, j 13, j 14, j 15, j 16, j 17, j 18, j 19, j 20, j 21, j 22, j 23, j 24, j 25, j 26, j 27, j 28, j 29, j 30, j 31, j 32, j 33, j 34, j 35, j 36, j 37, j 38, j 39, j 40, j 41, j 42, j 43, j 44, j 45, j 46, j 47, j 48, j 49, j 50, j 51, j 52, j 53, j 54, j 55, j 56, j 57, j 58, j 59, j 60, j 61, j 62, j 63, j 64, j 65, j 66, j 67], defers := [] }) ∧ L < 3 ∧ z + 1 < B ∧ B < X ∧ X < w.heap.size ∧ Below z w0 w ∧ w.heap[z + 1]? = some (.cells wayZ 98 (0, 0)) ∧
    ((l = 0 ∧ 7 ≤ k + L ∧ WayAt w B (wayV p xs xb n L L (.slice none 0 0)) ∧ Box2 w X (.int .i64 (metS p xs xb n L)) (.int .i64 (metB p xs xb n L))) ∨
     (l = 1 ∧ L < k ∧ ∃ o, WayAt w B (wayV p xs xb n 2 3 o) ∧ RowL w (X + 1) o (oldW p xs xb n (2 - L))))

theorem turned_setCells (B : Nat) : ∀ (vs : List Value) (o : Nat) (w : World), Turned (fun k => k = B) w (w.setCells B o vs)
  | [], _, w => Turned.refl _ w
  | v :: vs, o, w => ((Turned.refl (fun k => k = B) w).setCell (p := ⟨B, o, none⟩) rfl v).trans (turned_setCells B vs (o + 1) _)
theorem wayV_place (p : PoolD) (xs xb : Int) (n K M : Nat) (o : Value) {L : Nat} (hL : L < 2) : wayV p xs xb n K M o L = .int .i64 (plc n L : Nat) := by
  unfold wayV
  rw [if_pos hL]
theorem wayV_kid (p : PoolD) (xs xb : Int) (n M : Nat) (o : Value) {L j : Nat} (hL : L < 2) (hj : j < 16) : wayV p xs xb n (L + 1) M o (2 + L * 16 + j) = .int .i64 (kidC p xs xb n L j) := by
  unfold wayV
  rw [if_neg (by omega), if_pos (by omega), show (2 + L * 16 + j - 2) / 16 = L by omega, show (2 + L * 16 + j - 2) % 16 = j by omega, if_pos (by omega)]
theorem wayV_met (p : PoolD) (xs xb : Int) (n K : Nat) (o : Value) {L : Nat} (hL : L < 3) : wayV p xs xb n K 3 o (34 + L * 2) = .int .i64 (metS p xs xb n L) ∧ wayV p xs xb n K 3 o (34 + L * 2 + 1) = .int .i64 (metB p xs xb n L) := by
  refine ⟨?_, ?_⟩
  · unfold wayV
    rw [if_neg (by omega), if_neg (by omega), if_pos (by omega), show (34 + L * 2 - 34) / 2 = L by omega, show (34 + L * 2 - 34) % 2 = 0 by omega, if_pos (by omega), if_pos rfl]
  · unfold wayV
    rw [if_neg (by omega), if_neg (by omega), if_pos (by omega), show (34 + L * 2 + 1 - 34) / 2 = L by omega, show (34 + L * 2 + 1 - 34) % 2 = 1 by omega, if_pos (by omega), if_neg (by omega)]
theorem wayV_old (p : PoolD) (xs xb : Int) (n K M : Nat) (o : Value) : wayV p xs xb n K M o 40 = o := rfl
theorem old_none {p : PoolD} {xs xb : Int} {n L : Nat} (hN : L < 2 → Nil (metS p xs xb n L) (metB p xs xb n L)) (hL : L < 3) : oldW p xs xb n (2 - L) = [] := by
  unfold oldW
  rcases L with _ | _ | L
  · have h0 := hN (by omega)
    have h1 := met_nil h0 (by omega)
    have h2 := met_nil h1 (by omega)
    show ([] ++ one (metS p xs xb n 2) (metB p xs xb n 2)) ++ one (metS p xs xb n 1) (metB p xs xb n 1) = []
    unfold one
    rw [if_pos h2, if_pos h1]
    rfl
  · have h0 := hN (by omega)
    have h1 := met_nil h0 (by omega)
    show [] ++ one (metS p xs xb n 2) (metB p xs xb n 2) = []
    unfold one
    rw [if_pos h1]
    rfl
  · obtain rfl : L = 0 := by omega
    rfl

theorem old_step (p : PoolD) (xs xb : Int) (n : Nat) {L : Nat} (hL : L < 3) : oldW p xs xb n (2 - L + 1) = oldW p xs xb n (2 - L) ++ one (metS p xs xb n L) (metB p xs xb n L) := by
  show oldW p xs xb n (2 - L) ++ one (metS p xs xb n (2 - (2 - L))) (metB p xs xb n (2 - (2 - L))) = _
  rw [show 2 - (2 - L) = L by omega]
theorem old_length (p : PoolD) (xs xb : Int) (n k : Nat) : (oldW p xs xb n k).length ≤ k := kidsUp_len _ _ k

theorem wayV_one (p : PoolD) (xs xb : Int) (n K M : Nat) {o : Value} (ho : o.oneCell' = true) : (wayF (wayV p xs xb n K M o)).all (·.oneCell') = true := by
  unfold wayF
  rw [Array.all_eq_true_iff_forall_mem]
  intro v hv
  simp at hv
  obtain ⟨i, _, rfl⟩ := hv
  unfold wayV
  split
  · rfl
  split
  · rfl
  split
  · rfl
  · exact ho
theorem RowL.one {w : World} {base : Nat} {v : Value} {l : List (Int × Int)} (h : RowL w base v l) : v.oneCell' = true := by
  obtain ⟨a, c, rfl, _⟩ := owns_form h
  rfl
theorem RowL.setRow {w : World} {base g : Nat} {v : Value} {l : List (Int × Int)} (h : RowL w base v l) (hb : g < base) (cs : Array Value) : RowL (w.setRow g cs) base v l := by
  have t := Turned.setRow w g cs
  exact h.turned (row := some g) ⟨t.os, t.tape, t.output, t.size, fun k hk hne => t.block k hk (fun e => hne (by rw [e]))⟩ (fun q hq => by
    have := (h.lt hq).1
    simp only [ne_eq, Option.some.injEq]
    omega)

theorem infoWayL (f : Nat → Value) : (Try.prog.info? 98).map (·.size) = some ((List.range 41).map f).length := by
  rw [infoWay]
  simp

end Go.Proofs.Ytikhipekmlhibaa

namespace Go.Proofs.Ytikhipekmlhibaa
open Go Go.RowKit
set_option linter.unusedVariables false

set_option maxRecDepth 20000 in
set_option maxHeartbeats 2000000 in
theorem wayTo_any (v : Value) (lo hi : Nat) (p : PoolD) (xs xb : Int) (n : Nat) (w : World) (h1 : SlotsAt w lo hi v p.n p.s) (hT : TreeR p xs xb) (hn : n < 64) :
    Calls Try.prog 72 #[v, .agg #[.int .i64 xs, .int .i64 xb], .int .i64 (n : Int)] w fun e w' => ∃ o, e = .returned (.agg (wayF (wayV p xs xb n 2 3 o))) ∧ RowL w' w.heap.size o (oldW p xs xb n 3) ∧ Below w.heap.size w w' := by
  have Hp := hideT h1
  have HT := hideT hT
  obtain ⟨_, a, c, rfl, _⟩ := id h1
  clear h1 hT
  have hn' : (n : Int) < 64 := by omega
  have hm0 : 0 ≤ (n : Int) % 8 := by omega
  have hm8 : (n : Int) % 8 < 8 := by omega
  have ha1 := below_alloc w (.cells #[.int .i64 xs, .int .i64 xb] 33)
  have ha2 := below_alloc (w.alloc (.cells #[.int .i64 xs, .int .i64 xb] 33)) (.cells #[.int .i64 0, .int .i64 0, .int .i64 0, .int .i64 0, .int .i64 0, .int .i64 0, .int .i64 0, .int .i64 0, .int .i64 0, .int .i64 0, .int .i64 0, .int .i64 0, .int .i64 0, .int .i64 0, .int .i64 0, .int .i64 0, .int .i64 0, .int .i64 0, .int .i64 0, .int .i64 0, .int .i64 0, .int .i64 0, .int .i64 0, .int .i64 0, .int .i64 0, .int .i64 0, .int .i64 0, .int .i64 0, .int .i64 0, .int .i64 0, .int .i64 0, .int .i64 0, .int .i64 0, .int .i64 0, .int .i64 0, .int .i64 0, .int .i64 0, .int .i64 0, .int .i64 0, .int .i64 0, .slice none 0 0] 98)
  have HR0 := hideT ((Box2.new w (.int .i64 xs) (.int .i64 xb) 33).below ha2)
  have HO0 : Hid (((w.alloc (.cells #[.int .i64 xs, .int .i64 xb] 33)).alloc (.cells #[.int .i64 0, .int .i64 0, .int .i64 0, .int .i64 0, .int .i64 0, .int .i64 0, .int .i64 0, .int .i64 0, .int .i64 0, .int .i64 0, .int .i64 0, .int .i64 0, .int .i64 0, .int .i64 0, .int .i64 0, .int .i64 0, .int .i64 0, .int .i64 0, .int .i64 0, .int .i64 0, .int .i64 0, .int .i64 0, .int .i64 0, .int .i64 0, .int .i64 0, .int .i64 0, .int .i64 0, .int .i64 0, .int .i64 0, .int .i64 0, .int .i64 0, .int .i64 0, .int .i64 0, .int .i64 0, .int .i64 0, .int .i64 0, .int .i64 0, .int .i64 0, .int .i64 0, .int .i64 0, .slice none 0 0] 98)).heap[w.heap.size + 1]? = some (.cells wayZ 98 (0, 0))) := by
    have := heap_alloc_new (w.alloc (.cells #[.int .i64 xs, .int .i64 xb] 33)) (.cells #[.int .i64 0, .int .i64 0, .int .i64 0, .int .i64 0, .int .i64 0, .int .i64 0, .int .i64 0, .int .i64 0, .int .i64 0, .int .i64 0, .int .i64 0, .int .i64 0, .int .i64 0, .int .i64 0, .int .i64 0, .int .i64 0, .int .i64 0, .int .i64 0, .int .i64 0, .int .i64 0, .int .i64 0, .int .i64 0, .int .i64 0, .int .i64 0, .int .i64 0, .int .i64 0, .int .i64 0, .int .i64 0, .int .i64 0, .int .i64 0, .int .i64 0, .int .i64 0, .int .i64 0, .int .i64 0, .int .i64 0, .int .i64 0, .int .i64 0, .int .i64 0, .int .i64 0, .int .i64 0, .slice none 0 0] 98)
    rw [World.size_alloc] at this
    exact this
  have hbW := below_next ha1 ha2
  have hzW : ((w.alloc (.cells #[.int .i64 xs, .int .i64 xb] 33)).alloc (.cells #[.int .i64 0, .int .i64 0, .int .i64 0, .int .i64 0, .int .i64 0, .int .i64 0, .int .i64 0, .int .i64 0, .int .i64 0, .int .i64 0, .int .i64 0, .int .i64 0, .int .i64 0, .int .i64 0, .int .i64 0, .int .i64 0, .int .i64 0, .int .i64 0, .int .i64 0, .int .i64 0, .int .i64 0, .int .i64 0, .int .i64 0, .int .i64 0, .int .i64 0, .int .i64 0, .int .i64 0, .int .i64 0, .int .i64 0, .int .i64 0, .int .i64 0, .int .i64 0, .int .i64 0, .int .i64 0, .int .i64 0, .int .i64 0, .int .i64 0, .int .i64 0, .int .i64 0, .int .i64 0, .slice none 0 0] 98)).heap.size = w.heap.size + 2 := by rw [World.size_alloc, World.size_alloc]
  clear ha1 ha2
  go_enter Try.func72, Try.ntmps72
  go_wp2
  refine wp_scope_inv (WayR p (.slice a p.n c) xs xb n w w.heap.size) 6 ?_ ?_ ?_
  · rintro l a w ⟨B, X, L, _, hL, _, _, _, _, _, h | h⟩
    · have := h.2.1; omega
    · have := h.2.1; omega
  · clear HR0 HO0 hbW hzW
    rintro k l a' w1 ⟨B, X, L, ⟨j, rfl⟩, hL, hB, hX, hXs, hb, hO, ⟨rfl, hk, hW, hx⟩ | ⟨rfl, hk, o, hW, hr⟩⟩
    · refine ⟨_, rfl, ?_⟩
      have HW := hideT hW
      have HX := hideT hx
      have HO := hideT hO
      have Hb := hideT hb
      have Hk := hideT hk
      have hL' : (L : Int) < 3 := by omega
      have hBX : B ≠ X := by omega
      obtain ⟨⟨x0, x1⟩, ⟨x2, x3⟩⟩ := hx
      obtain ⟨y0, y1⟩ := HW.out (34 + L * 2) (by omega)
      obtain ⟨y2, y3⟩ := HW.out (34 + L * 2 + 1) (by omega)
      clear hW hO hb hk
      go_upto_region 4 with fail
      have ht1 : Turned (fun k => k = B) w1 ((w1.setCell ⟨B, 34 + L * 2, none⟩ (.int .i64 (metS p xs xb n L))).setCell ⟨B, 34 + L * 2 + 1, none⟩ (.int .i64 (metB p xs xb n L))) := ((Turned.refl (fun k => k = B) w1).setCell (p := ⟨B, 34 + L * 2, none⟩) rfl _).setCell (p := ⟨B, 34 + L * 2 + 1, none⟩) rfl _
      have HW2 := hideT (way_met hL HW.out)
      have HX2 := hideT (HX.out.turned ht1 (by omega))
      have HO2 := hideT ((ht1.block _ (by omega) (by omega)).trans HO.out)
      have Hb2 := hideT ((Hb.out.setCell (p := ⟨B, 34 + L * 2, none⟩) (by show _ ≤ B; omega) (.int .i64 (metS p xs xb n L))).setCell (p := ⟨B, 34 + L * 2 + 1, none⟩) (by show _ ≤ B; omega) (.int .i64 (metB p xs xb n L)))
      have hXs2 := Nat.lt_of_lt_of_le hXs ht1.size
      clear ht1 x0 x1 x2 x3 y0 y1 y2 y3
      generalize (w1.setCell ⟨B, 34 + L * 2, none⟩ (.int .i64 (metS p xs xb n L))).setCell ⟨B, 34 + L * 2 + 1, none⟩ (.int .i64 (metB p xs xb n L)) = w2 at HW2 HX2 HO2 Hb2 hXs2 ⊢
      clear HW HX HO Hb hXs
      obtain ⟨⟨x0, x1⟩, ⟨x2, x3⟩⟩ := HX2.out
      by_cases hN : Nil (metS p xs xb n L) (metB p xs xb n L)
      · have HN := hideT hN
        rw [hN.1] at x0
        rw [hN.2] at x2
        clear hN
        go_wp2
        go_step3
        have hk := Hk.out
        exact ⟨B, X, L, wayFrame _ rfl, hL, hB, hX, hXs2, Hb2.out, HO2.out, Or.inr ⟨rfl, by omega, .slice none 0 0, way_end hL HW2.out (fun _ => HN.out), by rw [old_none (fun _ => HN.out) hL]; exact RowL.nil _ _⟩⟩
      · have HN := hideT hN
        by_cases hL2 : L = 2
        · subst hL2
          rcases not_nil_bool hN with e0 | ⟨e0, e1⟩
          all_goals
            clear hN
            go_wp2
            go_step3
            have hk := Hk.out
            exact ⟨B, X, 2, wayFrame _ rfl, hL, hB, hX, hXs2, Hb2.out, HO2.out, Or.inr ⟨rfl, by omega, .slice none 0 0, way_end hL HW2.out (fun h => absurd h (by omega)), RowL.nil _ _⟩⟩
        · have hL3 : L < 2 := by omega
          have hl2 : ((L : Int) == 2) = false := by simp; omega
          have hK := (met_ok HT.out hn hL3).resolve_left hN
          obtain ⟨m, hm⟩ := Int.eq_ofNat_of_zero_le hK.1.2.1
          have hmp : m < p.n := by have := hK.1.2.2.1; omega
          have hmp' : (m : Int) < (p.n : Int) := by omega
          have HKn : Hid ((p.s m).kn = 8) := by
            have := hK.2
            rw [hm] at this
            exact this
          obtain ⟨b, off, ka, kc, rfl, hsm⟩ := (Hp.out.below Hb2.out).cells hmp
          have HC := hideT hsm
          obtain ⟨q0, q1, q2, _⟩ := hsm
          have Hm := hideT hm
          have hnb := not_nil_bool hN
          rw [hm] at x0 hnb
          clear hm hK hN
          have Hi16 : Hid ((Try.prog.info? 94).map (·.size) = some (kidsA (p.s m)).size) := by
            show _ = _
            rw [kidsA, arr16_size]; exact infoArr
          rcases hnb with e0 | ⟨e0, e1⟩
          all_goals
            go_wp2_with fail
            refine (kidsOf_any _ _ _ lo hi (p.s m) _ HC.out.slot (Or.inr HKn.out)).mono ?_
            rintro e w3 ⟨rfl, hb3⟩
            have HW3 := hideT (HW2.out.below hb3)
            have HX3 := hideT (HX2.out.below hb3)
            have HO3 := hideT ((hb3.block _ (by omega)).trans HO2.out)
            have Hb3 := hideT (Hb2.out.trans (hb3.mono Hb2.out.size))
            have hXs3 := Nat.lt_of_lt_of_le hXs2 hb3.size
            have HTh : Hid (w3.there B (2 + L * 16) (kidsA (p.s m)).size) := by
              have := HW3.out.there (o := 2 + L * 16) (n := 16) (by omega)
              rw [← arr16_size (kidCell (p.s m))] at this
              exact this
            clear hb3 x0 x1 x2 x3 q0 q1 q2 HC HW2 HX2 HO2 Hb2 hXs2
            go_upto_region 6 with (refine wpList_store_mid rfl 94 (.tmp 36) (.tmp 34) rfl B (2 + L * 16) (kidsA (p.s m)) rfl rfl HTh.out Hi16.out (arr16_one _) ?_)
            have ht4 := turned_setCells B (kidsA (p.s m)).toList (2 + L * 16) w3
            have HW4 : Hid (WayAt (w3.setCells B (2 + L * 16) (kidsA (p.s m)).toList) B (wayV p xs xb n (L + 1) (L + 1) (.slice none 0 0))) := by
              have := way_kids hL3 HW3.out HN.out
              rw [Hm.out] at this
              exact this
            have HX4 := hideT (HX3.out.turned ht4 (by omega))
            have HO4 := hideT ((ht4.block _ (by omega) (by omega)).trans HO3.out)
            have Hb4 := hideT (Hb3.out.trans (ht4.below (B := w.heap.size) (Hb3.out.size) (by intro k hk; omega)))
            have hXs4 := Nat.lt_of_lt_of_le hXs3 ht4.size
            clear ht4 HW3 HX3 HO3 Hb3 hXs3 HTh
            generalize w3.setCells B (2 + L * 16) (kidsA (p.s m)).toList = w4 at HW4 HX4 HO4 Hb4 hXs4 ⊢
            have hpl := plc_lt (n := n) (L := L) hn
            have hpl' : ((plc n L : Nat) : Int) < 8 := by omega
            obtain ⟨⟨x0, x1⟩, ⟨x2, x3⟩⟩ := HX4.out
            obtain ⟨z0, _⟩ := HW4.out L (by omega)
            rw [wayV_place p xs xb n _ _ _ hL3] at z0
            obtain ⟨y0, _⟩ := HW4.out (2 + L * 16 + plc n L * 2) (by omega)
            rw [wayV_kid p xs xb n _ _ hL3 (by omega), ← (met_next p xs xb n hL3).1] at y0
            obtain ⟨y1, _⟩ := HW4.out (2 + L * 16 + plc n L * 2 + 1) (by omega)
            rw [Nat.add_assoc, wayV_kid p xs xb n _ _ hL3 (by omega), ← (met_next p xs xb n hL3).2, ← Nat.add_assoc] at y1
            have Hkeep : Hid (∀ (u v : Value) (w5 : World), w5 = ((w4.drew.setCell ⟨X, 0, none⟩ u).setCell ⟨X, 1, none⟩ v) → (w5.cell? ⟨B, L, none⟩ = some (.int .i64 ((plc n L : Nat) : Int)) ∧ w5.cell? ⟨B, 2 + L * 16 + plc n L * 2, none⟩ = some (.int .i64 (metS p xs xb n (L + 1))) ∧ w5.cell? ⟨B, 2 + L * 16 + plc n L * 2 + 1, none⟩ = some (.int .i64 (metB p xs xb n (L + 1))))) := by
              intro u v w5 e5
              have h := fun o => (two_put w4.drew X u v).cell (b := B) (o := o) (by show B < w4.heap.size; omega) (by omega)
              rw [e5, h, h, h]
              exact ⟨z0, y0, y1⟩
            have hL3' : (L : Int) < 2 := by omega
            simp only [Act.put]
            refine wp_region_held_drew (S := (fun w' => w'.cell? ⟨B, L, none⟩ = some (.int .i64 ((plc n L : Nat) : Int)) ∧ w'.cell? ⟨B, 2 + L * 16 + plc n L * 2, none⟩ = some (.int .i64 (metS p xs xb n (L + 1))) ∧ w'.cell? ⟨B, 2 + L * 16 + plc n L * 2 + 1, none⟩ = some (.int .i64 (metB p xs xb n (L + 1))))) (by kernel_rfl) ?_ (fun hHeld => ?_)
            · (try dsimp only)
              go_keep
            refine wpAnyH_take (i := 0) (oi := ({ dst := some 37, op := Op.move (Operand.tmp 9), type := 3, pos := "l02_tree.go:165", after := #[], guard := none } : Oper)) (v := ?_) rfl (by kernel_rfl) (by kernel_rfl) (by kernel_rfl) (fun _ _ _ h => h) (Or.inl ⟨by rfl, ?_⟩) (by assumption) ?_
            rotate_left
            · (intro w hSw; (try dsimp only at hSw); go_simp; try with_reducible rfl)
            try simp only [Act.put, List.setIfInBounds_toArray, List.set_cons_zero, List.set_cons_succ]
            refine wpAnyH_take (i := 1) (oi := ({ dst := some 38, op := Op.move (Operand.tmp 9), type := 3, pos := "l02_tree.go:165", after := #[], guard := none } : Oper)) (v := ?_) rfl (by kernel_rfl) (by kernel_rfl) (by kernel_rfl) (fun _ _ _ h => h) (Or.inl ⟨by rfl, ?_⟩) (by assumption) ?_
            rotate_left
            · (intro w hSw; (try dsimp only at hSw); go_simp; try with_reducible rfl)
            try simp only [Act.put, List.setIfInBounds_toArray, List.set_cons_zero, List.set_cons_succ]
            refine wpAnyH_take (i := 2) (oi := ({ dst := some 39, op := Op.fieldAddr 98 (Operand.tmp 7) 0, type := 0, pos := "l02_tree.go:165", after := #[], guard := none } : Oper)) (v := ?_) rfl (by kernel_rfl) (by kernel_rfl) (by kernel_rfl) (fun _ _ _ h => h) (Or.inl ⟨by rfl, ?_⟩) (by assumption) ?_
            rotate_left
            · (intro w hSw; (try dsimp only at hSw); go_simp; try with_reducible rfl)
            try simp only [Act.put, List.setIfInBounds_toArray, List.set_cons_zero, List.set_cons_succ]
            refine wpAnyH_take (i := 3) (oi := ({ dst := some 40, op := Op.indexAddr 93 (Operand.tmp 39) (Operand.tmp 38), type := 0, pos := "l02_tree.go:165", after := #[{ on := 2, ground := Ground.data }, { on := 1, ground := Ground.data }], guard := none } : Oper)) (v := ?_) rfl (by kernel_rfl) (by kernel_rfl) (by kernel_rfl) (fun _ _ _ h => h) (Or.inl ⟨by rfl, ?_⟩) (by assumption) ?_
            rotate_left
            · (intro w hSw; (try dsimp only at hSw); go_simp; try with_reducible rfl)
            try simp only [Act.put, List.setIfInBounds_toArray, List.set_cons_zero, List.set_cons_succ]
            refine wpAnyH_take (i := 4) (oi := ({ dst := some 41, op := Op.load 2 (Operand.tmp 40), type := 2, pos := "l02_tree.go:165", after := #[{ on := 3, ground := Ground.data }], guard := none } : Oper)) (v := ?_) rfl (by kernel_rfl) (by kernel_rfl) (by kernel_rfl) (fun _ _ _ h => h) (Or.inl ⟨by rfl, ?_⟩) (by assumption) ?_
            rotate_left
            · (intro w hSw; (try dsimp only at hSw); go_simp; try with_reducible rfl)
            try simp only [Act.put, List.setIfInBounds_toArray, List.set_cons_zero, List.set_cons_succ]
            refine wpAnyH_take (i := 5) (oi := ({ dst := some 42, op := Op.fieldAddr 98 (Operand.tmp 7) 1, type := 0, pos := "l02_tree.go:165", after := #[], guard := none } : Oper)) (v := ?_) rfl (by kernel_rfl) (by kernel_rfl) (by kernel_rfl) (fun _ _ _ h => h) (Or.inl ⟨by rfl, ?_⟩) (by assumption) ?_
            rotate_left
            · (intro w hSw; (try dsimp only at hSw); go_simp; try with_reducible rfl)
            try simp only [Act.put, List.setIfInBounds_toArray, List.set_cons_zero, List.set_cons_succ]
            refine wpAnyH_take (i := 6) (oi := ({ dst := some 43, op := Op.indexAddr 95 (Operand.tmp 42) (Operand.tmp 37), type := 0, pos := "l02_tree.go:165", after := #[{ on := 5, ground := Ground.data }, { on := 0, ground := Ground.data }], guard := none } : Oper)) (v := ?_) rfl (by kernel_rfl) (by kernel_rfl) (by kernel_rfl) (fun _ _ _ h => h) (Or.inl ⟨by rfl, ?_⟩) (by assumption) ?_
            rotate_left
            · (intro w hSw; (try dsimp only at hSw); go_simp; try with_reducible rfl)
            try simp only [Act.put, List.setIfInBounds_toArray, List.set_cons_zero, List.set_cons_succ]
            refine wpAnyH_take (i := 7) (oi := ({ dst := some 44, op := Op.indexAddr 94 (Operand.tmp 43) (Operand.tmp 41), type := 0, pos := "l02_tree.go:165", after := #[{ on := 6, ground := Ground.data }, { on := 4, ground := Ground.data }], guard := none } : Oper)) (v := ?_) rfl (by kernel_rfl) (by kernel_rfl) (by kernel_rfl) (fun _ _ _ h => h) (Or.inl ⟨by rfl, ?_⟩) (by assumption) ?_
            rotate_left
            · (intro w hSw; (try dsimp only at hSw); go_simp; try with_reducible rfl)
            try simp only [Act.put, List.setIfInBounds_toArray, List.set_cons_zero, List.set_cons_succ]
            refine wpAnyH_take (i := 8) (oi := ({ dst := some 45, op := Op.load 33 (Operand.tmp 44), type := 33, pos := "l02_tree.go:165", after := #[{ on := 7, ground := Ground.data }], guard := none } : Oper)) (v := ?_) rfl (by kernel_rfl) (by kernel_rfl) (by kernel_rfl) (fun _ _ _ h => h) (Or.inl ⟨by rfl, ?_⟩) (by assumption) ?_
            rotate_left
            · (intro w hSw; (try dsimp only at hSw); go_simp; try with_reducible rfl)
            try simp only [Act.put, List.setIfInBounds_toArray, List.set_cons_zero, List.set_cons_succ]
            refine wpAnyH_ready (rs := [9]) (by kernel_rfl) (by simp) ?_
            refine AllReadyH.cons (o := ({ dst := none, op := Op.store 33 (Operand.tmp 8) (Operand.tmp 45), type := 0, pos := "l02_tree.go:165", after := #[{ on := 8, ground := Ground.data }, { on := 0, ground := Ground.phase }, { on := 1, ground := Ground.phase }, { on := 2, ground := Ground.phase }, { on := 3, ground := Ground.phase }, { on := 4, ground := Ground.phase }, { on := 5, ground := Ground.phase }, { on := 6, ground := Ground.phase }, { on := 7, ground := Ground.phase }, { on := 8, ground := Ground.phase }], guard := none } : Oper)) rfl (fun K hK => ?_) AllReadyH.nil
            go_simp
            
            (try go_wp2_with fail)
            refine hK.out _ _ ?_ (fun hHeldN => ?_)
            · (try dsimp only)
              exact Hkeep.out _ _ _ rfl
            clear hK K hHeld
            have hHeld := hHeldN
            clear hHeldN
            try simp only [Act.put, List.setIfInBounds_toArray, List.set_cons_zero, List.set_cons_succ]
            refine wpAnyH_done (by kernel_rfl) ?_ _
            go_wp2
            go_step3
            have hk := Hk.out
            have ht5 : Turned (fun k => k = X) w4 ((w4.setCell ⟨X, 0, none⟩ (.int .i64 (metS p xs xb n (L + 1)))).setCell ⟨X, 1, none⟩ (.int .i64 (metB p xs xb n (L + 1)))).drew := by
              have h := two_put w4 X (.int .i64 (metS p xs xb n (L + 1))) (.int .i64 (metB p xs xb n (L + 1)))
              exact ⟨h.os, h.tape, h.output, h.size, h.block⟩
            exact ⟨B, X, L + 1, wayFrame _ rfl, by omega, hB, hX, Nat.lt_of_lt_of_le hXs4 ht5.size, Hb4.out.trans (ht5.below (B := w.heap.size) Hb4.out.size (by intro k hk; omega)), (ht5.block _ (by omega) (by omega)).trans HO4.out, Or.inl ⟨rfl, by omega, HW4.out.turned ht5 (by omega), HX4.out.put _ _⟩⟩
    · refine ⟨_, rfl, ?_⟩
      have HW := hideT hW
      have HO := hideT hO
      have Hb := hideT hb
      have Hk := hideT hk
      have HR := hideT hr
      have hL' : (L : Int) < 3 := by omega
      have hBX : B ≠ X := by omega
      obtain ⟨y0, _⟩ := HW.out (34 + L * 2) (by omega)
      rw [(wayV_met p xs xb n 2 o hL).1] at y0
      obtain ⟨y1, _⟩ := HW.out (34 + L * 2 + 1) (by omega)
      rw [(wayV_met p xs xb n 2 o hL).2] at y1
      clear hW hO hb hk hr
      obtain ⟨wd, hwd⟩ := Option.map_eq_some_iff.1 rowWay
      have HU := hideT hwd
      clear hwd
      by_cases hN : Nil (metS p xs xb n L) (metB p xs xb n L)
      · have HN := hideT hN
        rw [hN.1] at y0
        rw [hN.2] at y1
        clear hN
        have HRq : Hid (RowL w1 (X + 1) o (oldW p xs xb n (2 - L + 1))) := by
          have := HR.out
          rw [old_step p xs xb n hL]
          unfold one
          rw [if_pos HN.out, List.append_nil]
          exact this
        have HWq := HW
        have HOq := HO
        have Hbq := Hb
        have hXq := hXs
        clear HW HO Hb HR hXs
        by_cases hL0 : L = 0
        · subst hL0
          go_wp2_with (first
            | (refine wpList_load_mid rfl 98 (.tmp 7) rfl B 0 rfl ((List.range 41).map (wayV p xs xb n 2 3 o)) wd HWq.out.range HU.out.1 HU.out.2 (infoWayL _) ?_)
            | (refine wpList_store_row rfl 98 (.tmp 6) (.tmp 67) rfl (w.heap.size + 1) (wayF (wayV p xs xb n 2 3 o)) rfl rfl 98 wayZ HOq.out (infoWayF _) (by rw [wayF_size]; rfl) (wayV_one _ _ _ _ _ _ HRq.out.one) ?_)
            | fail)
          unfold hop
          dsimp only
          refine bodyPost_ret (v := .agg (wayF (wayV p xs xb n 2 3 o))) (results_cell_row (P := Try.prog) (ty := 98) Try.results72 _ _ (w.heap.size + 1) 98 (wayF (wayV p xs xb n 2 3 o)) (0, 0) _ rfl (setRow_heap _ _ _ _ _ _ HOq.out) HU.out.1 (by have := HU.out.2; cases wd <;> exact this) (infoWayF _)) rfl ⟨o, rfl, ?_, ?_⟩
          · exact (HRq.out.setRow (by omega) _).mono (by omega)
          · exact below_setRow Hbq.out (by omega) _
        · obtain ⟨M, rfl⟩ : ∃ M, L = M + 1 := ⟨L - 1, by omega⟩
          have hM : (0 : Int) < (M : Int) + 1 := by omega
          go_wp2
          go_step3
          have hk := Hk.out
          exact ⟨B, X, M, wayFrame _ rfl, by omega, hB, hX, hXq, Hbq.out, HOq.out, Or.inr ⟨rfl, by omega, o, HWq.out, by
            have := HRq.out
            rw [show 2 - (M + 1) + 1 = 2 - M by omega] at this
            exact this⟩⟩
      · have HN := hideT hN
        obtain ⟨oa, oc, rfl, _⟩ := owns_form HR.out
        have hz40 : w1.cell? ⟨B, 40, none⟩ = some (.slice oa (oldW p xs xb n (2 - L)).length oc) := (HW.out 40 (by omega)).1
        rcases not_nil_bool hN with e0 | ⟨e0, e1⟩
        all_goals
          clear hN
          go_upto_region 9 with fail
          have hC0 : Below w1.heap.size w1 (w1.alloc (.cells #[.int .i64 (metS p xs xb n L), .int .i64 (metB p xs xb n L)] 33)) := below_alloc _ _
          have hz41 : (w1.alloc (.cells #[.int .i64 (metS p xs xb n L), .int .i64 (metB p xs xb n L)] 33)).cell? ⟨B, 40, none⟩ = some (.slice oa (oldW p xs xb n (2 - L)).length oc) := ((HW.out.below hC0) 40 (by omega)).1
          have HC0 : Hid (Below w1.heap.size w1 (w1.alloc (.cells #[.int .i64 (metS p xs xb n L), .int .i64 (metB p xs xb n L)] 33)).drew) := hC0.drew
          clear hC0
          have Hr0 : Hid (RowL (w1.alloc (.cells #[.int .i64 (metS p xs xb n L), .int .i64 (metB p xs xb n L)] 33)).drew w1.heap.size (.slice (some ⟨w1.heap.size, 0, none⟩) 1 1) [(metS p xs xb n L, metB p xs xb n L)]) := World.ownsRow_lit (e := 33) (size := 2) w1 #[.int .i64 (metS p xs xb n L), .int .i64 (metB p xs xb n L)] 1 (Nat.le_refl _) (by unfold maxLen; omega) rfl
          go_region_law (refine step_rows rfl (.tmp 55) (.tmp 60) rfl (X + 1) w1.heap.size (.slice oa (oldW p xs xb n (2 - L)).length oc) (oldW p xs xb n (2 - L)) (by simp [Act.eval]) (HR.out.below HC0.out) (some ⟨w1.heap.size, 0, none⟩) 1 1 [(metS p xs xb n L, metB p xs xb n L)] (by simp [Act.eval]) rfl Hr0.out (by have := old_length p xs xb n (2 - L); simp; omega) (by have := HC0.out.size; omega) ?_; intro v3 w3 hr3 hg3; obtain ⟨va, vc, rfl, _⟩ := owns_form hr3; have hT3 : Turned (fun k => X < k) w1 w3 := (Turned.of_below HC0.out).trans ⟨hg3.os, hg3.tape, hg3.output, hg3.size, fun k hk hne => hg3.block k hk (fun e => hne (by have := (HR.out.lt e.symm).1; omega))⟩; obtain ⟨k0, k0f⟩ := (HW.out.turned hT3 (by omega)) 40 (by omega); have HT3 := hideT hT3; have HR3 := hideT hr3; clear hT3 hr3 hg3)
          all_goals
            have hlen : (oldW p xs xb n (2 - L) ++ [(metS p xs xb n L, metB p xs xb n L)]).length = (oldW p xs xb n (2 - L)).length + 1 := by simp
            have hT4 : Turned (fun k => X < k ∨ k = B) w1 (w3.setCell ⟨B, 40, none⟩ (.slice va ((oldW p xs xb n (2 - L)).length + 1) vc)) := Turned.setCell (S := fun k => X < k ∨ k = B) (HT3.out.mono (fun k hk => Or.inl hk)) (p := ⟨B, 40, none⟩) (Or.inr rfl) _
            have HWq := hideT (way_old (.slice va ((oldW p xs xb n (2 - L)).length + 1) vc) (HW.out.turned HT3.out (by omega)))
            have HRq : Hid (RowL (w3.setCell ⟨B, 40, none⟩ (.slice va ((oldW p xs xb n (2 - L)).length + 1) vc)) (X + 1) (.slice va ((oldW p xs xb n (2 - L)).length + 1) vc) (oldW p xs xb n (2 - L + 1))) := by
              have := HR3.out.put (b := B) (o := 40) (by omega) (.slice va ((oldW p xs xb n (2 - L)).length + 1) vc)
              rw [hlen] at this
              rw [old_step p xs xb n hL]
              unfold one
              rw [if_neg HN.out]
              exact this
            have HOq := hideT ((hT4.block _ (by omega) (by omega)).trans HO.out)
            have Hbq := hideT (Hb.out.trans (hT4.below (B := w.heap.size) Hb.out.size (by intro k hk; omega)))
            have hXq := Nat.lt_of_lt_of_le hXs hT4.size
            clear hT4 HR3 HT3 HC0 Hr0 hz41 hz40 HW HO Hb HR hXs k0 k0f hlen y0 y1
            generalize w3.setCell ⟨B, 40, none⟩ (.slice va ((oldW p xs xb n (2 - L)).length + 1) vc) = w4 at HWq HRq HOq Hbq hXq ⊢
            generalize Value.slice va ((oldW p xs xb n (2 - L)).length + 1) vc = oq at HWq HRq ⊢
            by_cases hL0 : L = 0
            · subst hL0
              go_wp2_with (first
                | (refine wpList_load_mid rfl 98 (.tmp 7) rfl B 0 rfl ((List.range 41).map (wayV p xs xb n 2 3 oq)) wd HWq.out.range HU.out.1 HU.out.2 (infoWayL _) ?_)
                | (refine wpList_store_row rfl 98 (.tmp 6) (.tmp 67) rfl (w.heap.size + 1) (wayF (wayV p xs xb n 2 3 oq)) rfl rfl 98 wayZ HOq.out (infoWayF _) (by rw [wayF_size]; rfl) (wayV_one _ _ _ _ _ _ HRq.out.one) ?_)
                | fail)
              unfold hop
              dsimp only
              refine bodyPost_ret (v := .agg (wayF (wayV p xs xb n 2 3 oq))) (results_cell_row (P := Try.prog) (ty := 98) Try.results72 _ _ (w.heap.size + 1) 98 (wayF (wayV p xs xb n 2 3 oq)) (0, 0) _ rfl (setRow_heap _ _ _ _ _ _ HOq.out) HU.out.1 (by have := HU.out.2; cases wd <;> exact this) (infoWayF _)) rfl ⟨oq, rfl, ?_, ?_⟩
              · exact (HRq.out.setRow (by omega) _).mono (by omega)
              · exact below_setRow Hbq.out (by omega) _
            · obtain ⟨M, rfl⟩ : ∃ M, L = M + 1 := ⟨L - 1, by omega⟩
              have hM : (0 : Int) < (M : Int) + 1 := by omega
              go_wp2
              go_step3
              have hk := Hk.out
              exact ⟨B, X, M, wayFrame _ rfl, by omega, hB, hX, hXq, Hbq.out, HOq.out, Or.inr ⟨rfl, by omega, oq, HWq.out, by
                have := HRq.out
                rw [show 2 - (M + 1) + 1 = 2 - M by omega] at this
                exact this⟩⟩
  · intro enter
    go_upto_region 1 with fail
    generalize (w.alloc (.cells #[.int .i64 xs, .int .i64 xb] 33)).alloc (.cells #[.int .i64 0, .int .i64 0, .int .i64 0, .int .i64 0, .int .i64 0, .int .i64 0, .int .i64 0, .int .i64 0, .int .i64 0, .int .i64 0, .int .i64 0, .int .i64 0, .int .i64 0, .int .i64 0, .int .i64 0, .int .i64 0, .int .i64 0, .int .i64 0, .int .i64 0, .int .i64 0, .int .i64 0, .int .i64 0, .int .i64 0, .int .i64 0, .int .i64 0, .int .i64 0, .int .i64 0, .int .i64 0, .int .i64 0, .int .i64 0, .int .i64 0, .int .i64 0, .int .i64 0, .int .i64 0, .int .i64 0, .int .i64 0, .int .i64 0, .int .i64 0, .int .i64 0, .int .i64 0, .slice none 0 0] 98) = W at HR0 HO0 hbW hzW ⊢
    have hal := below_alloc W (.cells (wayC n) 98)
    have HR1 := hideT (HR0.out.below hal)
    have HW1 := hideT (way_new W n)
    have HO1 := hideT ((hal.block _ (by omega)).trans HO0.out)
    have hB1 := below_next hbW hal
    have hz1 : (W.alloc (.cells (wayC n) 98)).heap.size = w.heap.size + 3 := by rw [World.size_alloc, hzW]
    obtain ⟨⟨x0, x1⟩, ⟨x2, x3⟩⟩ := HR1.out
    have HzW := hideT hzW
    clear hal HR0 HO0 hbW hzW
    go_wp2_with (first
      | (refine wpList_store_row rfl 98 (.tmp 7) (.tmp 15) rfl W.heap.size (wayC n) rfl rfl 98 wayZ (heap_alloc_last _ _) (infoWayC n) rfl (wayC_one n) ?_; rw [World.setRow_alloc_new])
      | fail)
    go_step3
    rename_i K hK
    refine hK _ _ (enter 0 _ _ _ rfl ?_)
    clear hK
    have hzW := HzW.out
    have hal2 := below_alloc (W.alloc (.cells (wayC n) 98)) (.cells #[.int .i64 xs, .int .i64 xb] 33)
    refine ⟨W.heap.size, w.heap.size + 3, 0, wayFrame _ rfl, by omega, by omega, by omega, by rw [World.size_alloc, hz1]; omega, below_next hB1 hal2, ?_, Or.inl ⟨rfl, by omega, ?_, ?_⟩⟩
    · exact (hal2.block _ (by omega)).trans HO1.out
    · exact (HW1.out.below hal2).congr fun i hi => way_zero p xs xb n hi
    · have := Box2.new (W.alloc (.cells (wayC n) 98)) (.int .i64 xs) (.int .i64 xb) 33
      rw [hz1] at this
      exact this

end Go.Proofs.Ytikhipekmlhibaa

namespace Go.Proofs.Ytikhipekmlhibaa
open Go.RowKit
set_option linter.unusedVariables false

open Classical in
/-- How many of the first k slots are free. -/
noncomputable def roomN (f : Nat → SlotD) : Nat → Nat
  | 0 => 0
  | k + 1 => roomN f k + (if Free (f k) then 1 else 0)

theorem roomN_yes {f : Nat → SlotD} {k : Nat} (h : Free (f k)) : roomN f (k + 1) = roomN f k + 1 := by simp [roomN, h]
theorem roomN_no {f : Nat → SlotD} {k : Nat} (h : ¬ Free (f k)) : roomN f (k + 1) = roomN f k := by simp [roomN, h]
theorem roomN_le (f : Nat → SlotD) : ∀ k, roomN f k ≤ k
  | 0 => Nat.le_refl _
  | k + 1 => by
    have := roomN_le f k
    by_cases h : Free (f k)
    · rw [roomN_yes h]; omega
    · rw [roomN_no h]; omega

open Classical in
/-- What PoolRoom tells. -/
noncomputable def roomP (p : PoolD) : Int := if Right p then (roomN p.s p.n : Int) else 0

end Go.Proofs.Ytikhipekmlhibaa

namespace Go.Proofs.Ytikhipekmlhibaa
open Go.RowKit
set_option linter.unusedVariables false

theorem set_here (p : PoolD) (i : Nat) (s : SlotD) : (setS p i s).s i = s := if_pos rfl
theorem set_there (p : PoolD) {i j : Nat} (s : SlotD) (h : j ≠ i) : (setS p i s).s j = p.s j := if_neg h

theorem points_set {p : PoolD} {i : Nat} {s : SlotD} {xs xb : Int} (hi : Free (p.s i)) (h : Points p xs xb) : Points (setS p i s) xs xb := by
  obtain ⟨h1, h2, h3, h4⟩ := h
  refine ⟨h1, h2, h3, ?_⟩
  have hne : xs.toNat ≠ i := fun e => by
    rw [e] at h4
    have := hi.1
    omega
  rw [set_there p s hne]
  exact h4

theorem fits_set {p : PoolD} {i : Nat} {s t : SlotD} (hi : Free (p.s i)) (h : Fits p t) : Fits (setS p i s) t := by
  refine ⟨h.1, ?_⟩
  rcases h.2 with h2 | h2
  · exact Or.inl h2
  · refine Or.inr ⟨h2.1, h2.2.1, fun m hm => ?_⟩
    rcases h2.2.2 m hm with h3 | h3
    · exact Or.inl h3
    · exact Or.inr ⟨points_set hi h3.1, h3.2⟩

theorem right_set {p : PoolD} {i : Nat} {s : SlotD} (hR : Right p) (hi : First p.n p.s i) (hs : Fits p s) : Right (setS p i s) := by
  refine ⟨hR.1, fun j hj => ?_, fun j hj => ?_⟩
  · by_cases e : j = i
    · rw [e, set_here]
      exact Or.inr (fits_set hi.2.1 hs)
    · rw [set_there p s e]
      rcases hR.2.1 j hj with h | h
      · exact Or.inl h
      · exact Or.inr (fits_set hi.2.1 h)
  · obtain ⟨h1, h2, h3, h4⟩ := hR.2.2 j hj
    refine ⟨h1, h2, ?_, h4⟩
    have hne : (p.h j).toNat ≠ i := fun e => h3 (by rw [e]; exact hi.2.1)
    show ¬ Free ((setS p i s).s (p.h j).toNat)
    rw [set_there p s hne]
    exact h3

theorem fits_not_free {p : PoolD} {s : SlotD} (h : Fits p s) : ¬ Free s := fun hf => by
  have := hf.1
  have := h.1.1
  omega

theorem room_set {p : PoolD} {i : Nat} {s : SlotD} (hi : Free (p.s i)) (hs : ¬ Free s) : ∀ n, roomN (setS p i s).s n + (if i < n then 1 else 0) = roomN p.s n
  | 0 => rfl
  | n + 1 => by
    have ih := room_set hi hs n
    by_cases e : n = i
    · subst e
      rw [if_pos (by omega)]
      rw [if_neg (by omega)] at ih
      rw [roomN_no (by rw [set_here]; exact hs), roomN_yes hi]
      omega
    · have hsn : (setS p i s).s n = p.s n := set_there p s e
      have hif : (if i < n + 1 then 1 else 0) = (if i < n then 1 else 0) := by
        by_cases e2 : i < n
        · rw [if_pos e2, if_pos (by omega)]
        · rw [if_neg e2, if_neg (by omega)]
      rw [hif]
      by_cases hf : Free (p.s n)
      · rw [roomN_yes (by rw [hsn]; exact hf), roomN_yes hf]
        omega
      · rw [roomN_no (by rw [hsn]; exact hf), roomN_no hf]
        exact ih

theorem roomP_set {p : PoolD} {i : Nat} {s : SlotD} (hR : Right p) (hi : First p.n p.s i) (hs : Fits p s) : roomP (setS p i s) = roomP p - 1 := by
  have h := room_set (p := p) (i := i) (s := s) hi.2.1 (fits_not_free hs) p.n
  rw [if_pos hi.1] at h
  have e1 : roomP (setS p i s) = (roomN (setS p i s).s p.n : Int) := if_pos (right_set hR hi hs)
  have e2 : roomP p = (roomN p.s p.n : Int) := if_pos hR
  rw [e1, e2]
  omega

end Go.Proofs.Ytikhipekmlhibaa
