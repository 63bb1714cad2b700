/- What FnTree asks of the answers of TreeWrite and TreeTrim (no law is proved here). -/
import Derived.Test.YtikhipekmlhibaaG32
import Derived.Test.YtikhipekmlhibaaG2
import Derived.Test.YtikhipekmlhibaaG1
import Derived.Deep.RegionHeld3
import Derived.Deep.QuietTactic
import Derived.BigQuiet
namespace Go.Proofs.Ytikhipekmlhibaa
open Go Go.RowKit
set_option linter.unusedVariables false

theorem lwD_same {p q : PoolD} {xs xb ys yb : Int} {k : Nat} (hE : Ext p q) (hT : TreeR p xs xb) (hk : k < 64) (h1 : pageS q ys yb k = pageS p xs xb k) (h2 : pageB q ys yb k = pageB p xs xb k) : lwD p xs xb k = lwD q ys yb k := by
  unfold lwD
  rw [h1, h2]
  by_cases hn : Nil (pageS p xs xb k) (pageB p xs xb k)
  · rw [if_pos hn, if_pos hn]
  · rw [if_neg hn, if_neg hn, hE.at ((page_ok hT hk).resolve_left hn).1]
theorem New.same {p q : PoolD} {xs xb b ys yb ms mb gs gb : Int} {n : Nat} (h : New p xs xb n b q ys yb ms mb gs gb) (hT : TreeR p xs xb) : ∀ k : Nat, k < 64 → (k : Int) ≠ (n : Int) → lwD p xs xb k = lwD q ys yb k := fun k hk hne => by
  have hp := h.pages hT hk
  rw [if_neg (by omega), if_neg (by omega)] at hp
  exact lwD_same h.ext hT hk hp.1 hp.2
theorem New.still {p q : PoolD} {xs xb b ys yb ms mb gs gb : Int} {n : Nat} (h : New p xs xb n b q ys yb ms mb gs gb) (hT : TreeR p xs xb) : TreeR q xs xb ∧ ∀ k : Nat, k < 64 → (k : Int) ≠ -1 → lwD p xs xb k = lwD q xs xb k :=
  ⟨⟨h.right, h.ext.ok hT.2⟩, fun k hk _ => lwD_same h.ext hT hk (h.ext.pages hT hk).1 (h.ext.pages hT hk).2⟩
theorem New.gone' {p q : PoolD} {xs xb b ys yb ms mb gs gb : Int} {n : Nat} (h : New p xs xb n b q ys yb ms mb gs gb) (hT : TreeR p xs xb) (hn : n < 64) : (∀ z, z ∈ treeL p xs xb → z ∉ treeL q ys yb → z ∈ oldW p xs xb n 3) ∧ ((treeL p xs xb).filter (fun z => decide (z ∉ treeL q ys yb))).length = (oldW p xs xb n 3).length :=
  ⟨fun z hz hx => (h.gone hT hn hz).1 hx, h.count hT hn⟩
/-- What is asked of an answer of TreeWrite with the code 0. -/
theorem write_facts {p : PoolD} {xs xb page b : Int} {d : ByteArray} (hc : (writeT p xs xb page d b).code = 0) :
    TreeR p xs xb ∧ TreeR (writeT p xs xb page d b).pool (writeT p xs xb page d b).rs (writeT p xs xb page d b).rb ∧ TreeR (writeT p xs xb page d b).pool xs xb ∧ (∀ e, ReadIs (writeT p xs xb page d b).pool (writeT p xs xb page d b).rs (writeT p xs xb page d b).rb page e → e = d) ∧
    (∀ k : Nat, k < 64 → (k : Int) ≠ page → lwD p xs xb k = lwD (writeT p xs xb page d b).pool (writeT p xs xb page d b).rs (writeT p xs xb page d b).rb k) ∧ (∀ k : Nat, k < 64 → (k : Int) ≠ -1 → lwD p xs xb k = lwD (writeT p xs xb page d b).pool xs xb k) ∧
    (∀ z, z ∈ treeL p xs xb → z ∉ treeL (writeT p xs xb page d b).pool (writeT p xs xb page d b).rs (writeT p xs xb page d b).rb → z ∈ (writeT p xs xb page d b).old) ∧ ((treeL p xs xb).filter (fun z => decide (z ∉ treeL (writeT p xs xb page d b).pool (writeT p xs xb page d b).rs (writeT p xs xb page d b).rb))).length = (writeT p xs xb page d b).old.length := by
  obtain ⟨hT, n, hn, rfl, hd, ho, ms, mb, gs, gb, hN, hg, hgd⟩ := write_new hc
  have hok := hN.ok hT hn
  rw [ho]
  refine ⟨hT, hok, (hN.still hT).1, fun e he => ?_, hN.same hT, (hN.still hT).2, (hN.gone' hT hn).1, (hN.gone' hT hn).2⟩
  have hp := hN.pages hT hn
  rw [if_pos rfl, if_pos rfl] at hp
  have h1 := (he.1 ⟨hok, page_no hn⟩).2
  rw [Int.toNat_natCast, hp.1, hp.2] at h1
  rw [h1 hg, hgd]
/-- And of one of TreeTrim. -/
theorem trim_facts {p : PoolD} {xs xb page b : Int} (hc : (trimT p xs xb page b).code = 0) :
    TreeR p xs xb ∧ TreeR (trimT p xs xb page b).pool (trimT p xs xb page b).rs (trimT p xs xb page b).rb ∧ (∀ e, ReadIs (trimT p xs xb page b).pool (trimT p xs xb page b).rs (trimT p xs xb page b).rb page e → e = zero16) ∧
    (∀ k : Nat, k < 64 → (k : Int) ≠ page → lwD p xs xb k = lwD (trimT p xs xb page b).pool (trimT p xs xb page b).rs (trimT p xs xb page b).rb k) ∧
    (∀ z, z ∈ treeL p xs xb → z ∉ treeL (trimT p xs xb page b).pool (trimT p xs xb page b).rs (trimT p xs xb page b).rb → z ∈ (trimT p xs xb page b).old) ∧ ((treeL p xs xb).filter (fun z => decide (z ∉ treeL (trimT p xs xb page b).pool (trimT p xs xb page b).rs (trimT p xs xb page b).rb))).length = (trimT p xs xb page b).old.length := by
  obtain ⟨hT, n, hn, rfl, ho, ms, mb, hN⟩ := trim_new hc
  have hok := hN.ok hT hn
  rw [ho]
  refine ⟨hT, hok, fun e he => ?_, hN.same hT, (hN.gone' hT hn).1, (hN.gone' hT hn).2⟩
  have hp := hN.pages hT hn
  rw [if_pos rfl, if_pos rfl] at hp
  have h1 := (he.1 ⟨hok, page_no hn⟩).1
  rw [Int.toNat_natCast, hp.1, hp.2] at h1
  exact h1 ⟨rfl, rfl⟩

end Go.Proofs.Ytikhipekmlhibaa

namespace Go.Proofs.Ytikhipekmlhibaa
open Go.RowKit
set_option linter.unusedVariables false

theorem hideL {P : Prop} (h : P) : Hid P := h

theorem PtrsAt.cells {w : World} {lo hi : Nat} {a : Option Addr} {n c : Nat} {f g : Nat → Int} (h : PtrsAt w lo hi (.slice a n c) n f g) {k : Nat} (hk : k < n) : ∃ b off, a = some ⟨b, off, none⟩ ∧ w.cell? ⟨b, off + k * 2, none⟩ = some (.int .i64 (f k)) ∧ w.cell? ⟨b, off + k * 2 + 1, none⟩ = some (.int .i64 (g k)) := by
  obtain ⟨_, a2, c2, hv, _, hx⟩ := h
  simp only [Value.slice.injEq, true_and] at hv
  obtain ⟨rfl, rfl⟩ := hv
  obtain ⟨b, off, ha, _, _, h3⟩ := hx (by omega)
  exact ⟨b, off, ha, (h3 k hk).1, (h3 k hk).2⟩

set_option maxRecDepth 20000 in
set_option maxHeartbeats 2000000 in
theorem lwSlot_same (v0 v1 v2 u0 u1 u2 : Value) (lo hi lo' hi' : Nat) (s : SlotD) (w : World) (h1 : SlotAt w lo hi v0 v1 v2 s) (h2 : SlotAt w lo' hi' u0 u1 u2 s) :
    Calls Try.prog 12 #[.agg #[v0, v1, v2], .agg #[u0, u1, u2]] w fun e w' => e = .returned (.bool true) ∧ Below w.heap.size w w' := by
  have H1 := hideL h1.2.1
  have H2 := hideL h2.2.1
  obtain ⟨rfl, ⟨m1, ka, kc, rfl, mk, _⟩, rfl, _⟩ := h1
  obtain ⟨rfl, ⟨_, kb, kd, rfl, mk', _⟩, rfl, _⟩ := h2
  unfold maxLen at m1
  have e0 : (s.birth != s.birth) = false := by simp
  have e1 : (s.data.toList != s.data.toList) = false := by simp
  have e2 : (((s.kn : Nat) : Int) != ((s.kn : Nat) : Int)) = false := by simp
  have ha := below_next (below_alloc w (.cells #[.int .i64 s.birth, .slice ka s.kn kc, .string s.data] 29)) (below_alloc _ (.cells #[.int .i64 s.birth, .slice kb s.kn kd, .string s.data] 29))
  have HA := hideL ((Box3.new w (.int .i64 s.birth) (.slice ka s.kn kc) (.string s.data) 29).below (below_alloc _ (.cells #[.int .i64 s.birth, .slice kb s.kn kd, .string s.data] 29)))
  have hb := Box3.new (w.alloc (.cells #[.int .i64 s.birth, .slice ka s.kn kc, .string s.data] 29)) (.int .i64 s.birth) (.slice kb s.kn kd) (.string s.data) 29
  rw [World.size_alloc] at hb
  have HB := hideL hb
  clear hb
  go_enter Try.func12, Try.ntmps12
  go_wp2
  go_loopw [5] (fun i wr => ∃ k : Nat, k ≤ s.kn ∧ i = .int .i64 k ∧ Box3 wr w.heap.size (.int .i64 s.birth) (.slice ka s.kn kc) (.string s.data) ∧ Box3 wr (w.heap.size + 1) (.int .i64 s.birth) (.slice kb s.kn kd) (.string s.data) ∧ Below w.heap.size w wr) (fun i _ => s.kn - (intOf i).toNat)
  case atStart => exact ⟨0, Nat.zero_le _, rfl, HA.out, HB.out, ha⟩
  case round =>
    obtain ⟨k, hk, rfl, hA, hB, hb⟩ := hrel
    have HA1 := hideL hA
    have HB1 := hideL hB
    clear hA hB
    obtain ⟨⟨x0, x1⟩, ⟨x2, x3⟩, ⟨x4, x5⟩⟩ := HA1.out
    obtain ⟨⟨y0, y1⟩, ⟨y2, y3⟩, ⟨y4, y5⟩⟩ := HB1.out
    by_cases hlt : k < s.kn
    · have hlt' : (k : Int) < (s.kn : Int) := by omega
      obtain ⟨b, off, rfl, q0, q1⟩ := (H1.out.below hb).cells hlt
      obtain ⟨b', off', rfl, q2, q3⟩ := (H2.out.below hb).cells hlt
      go_wp2
      go_quiet (fail)
      go_wp2
      go_roundw
      case rel => exact ⟨k + 1, by omega, by go_num, HA1.out.below (below_drewN (Below.refl _ _) _), HB1.out.below (below_drewN (Below.refl _ _) _), below_drewN hb _⟩
      case measure => simp [intOf]; omega
    · obtain rfl : k = s.kn := by omega
      go_wp2
      go_ret
      exact ⟨rfl, hb⟩

theorem IntsAt.cells {w : World} {lo hi : Nat} {a : Option Addr} {n c : Nat} {f : Nat → Int} (h : IntsAt w lo hi (.slice a n c) n f) {k : Nat} (hk : k < n) : ∃ b off, a = some ⟨b, off, none⟩ ∧ w.cell? ⟨b, off + k, none⟩ = some (.int .i64 (f k)) := by
  obtain ⟨_, a2, c2, hv, _, hx⟩ := h
  simp only [Value.slice.injEq, true_and] at hv
  obtain ⟨rfl, rfl⟩ := hv
  obtain ⟨b, off, ha, _, _, h3⟩ := hx (by omega)
  exact ⟨b, off, ha, h3 k hk⟩

set_option maxRecDepth 20000 in
set_option maxHeartbeats 4000000 in
theorem lwPool_same (v0 v1 u0 u1 : Value) (lo hi lo' hi' : Nat) (p : PoolD) (w : World) (h1 : PoolAt w lo hi v0 v1 p) (h2 : PoolAt w lo' hi' u0 u1 p) :
    Calls Try.prog 9 #[.agg #[v0, v1], .agg #[u0, u1]] w fun e w' => e = .returned (.bool true) ∧ Below w.heap.size w w' := by
  have H1 := hideL h1
  have H2 := hideL h2
  obtain ⟨⟨m1, a, c, rfl, mc, _⟩, ⟨m2, a', c', rfl, mc', _⟩⟩ := h1
  obtain ⟨⟨_, d, g, rfl, md, _⟩, ⟨_, d', g', rfl, md', _⟩⟩ := h2
  unfold maxLen at m1 m2
  have e1 : (((p.n : Nat) : Int) != ((p.n : Nat) : Int)) = false := by simp
  have e2 : (((p.hn : Nat) : Int) != ((p.hn : Nat) : Int)) = false := by simp
  have ha := below_next (below_alloc w (.cells #[.slice a p.n c, .slice a' p.hn c'] 26)) (below_alloc _ (.cells #[.slice d p.n g, .slice d' p.hn g'] 26))
  have HA := hideL ((Box2.new w (.slice a p.n c) (.slice a' p.hn c') 26).below (below_alloc _ (.cells #[.slice d p.n g, .slice d' p.hn g'] 26)))
  have hb := Box2.new (w.alloc (.cells #[.slice a p.n c, .slice a' p.hn c'] 26)) (.slice d p.n g) (.slice d' p.hn g') 26
  rw [World.size_alloc] at hb
  have HB := hideL hb
  clear hb
  go_enter Try.func9, Try.ntmps9
  go_wp2
  go_loopw [5] (fun i wr => ∃ k : Nat, k ≤ p.n ∧ i = .int .i64 k ∧ Box2 wr w.heap.size (.slice a p.n c) (.slice a' p.hn c') ∧ Box2 wr (w.heap.size + 1) (.slice d p.n g) (.slice d' p.hn g') ∧ Below w.heap.size w wr) (fun i _ => p.n - (intOf i).toNat)
  case atStart => exact ⟨0, Nat.zero_le _, rfl, HA.out, HB.out, ha⟩
  case round =>
    obtain ⟨k, hk, rfl, hA, hB, hb⟩ := hrel
    have HA1 := hideL hA
    have HB1 := hideL hB
    clear hA hB
    obtain ⟨⟨x0, x1⟩, ⟨x2, x3⟩⟩ := HA1.out
    obtain ⟨⟨y0, y1⟩, ⟨y2, y3⟩⟩ := HB1.out
    by_cases hlt : k < p.n
    · have hlt' : (k : Int) < (p.n : Int) := by omega
      obtain ⟨b, off, ka, kc, rfl, hs⟩ := (H1.out.1.below hb).cells hlt
      obtain ⟨b', off', kb, kd, rfl, hs'⟩ := (H2.out.1.below hb).cells hlt
      have Hs := hideL hs
      have Hs' := hideL hs'
      obtain ⟨q0, q1, q2, _⟩ := hs
      obtain ⟨r0, r1, r2, _⟩ := hs'
      go_wp2_with fail
      go_region_held3 (fun w' => w'.cell? ⟨w.heap.size, 0, none⟩ = some (.slice (some ⟨b, off, none⟩) p.n c) ∧ w'.cell? ⟨w.heap.size + 1, 0, none⟩ = some (.slice (some ⟨b', off', none⟩) p.n g) ∧ w'.cell? ⟨b, off + k * 3, none⟩ = some (.int .i64 (p.s k).birth) ∧ w'.cell? ⟨b, off + k * 3 + 1, none⟩ = some (.slice ka (p.s k).kn kc) ∧ w'.cell? ⟨b, off + k * 3 + 2, none⟩ = some (.string (p.s k).data) ∧ w'.cell? ⟨b', off' + k * 3, none⟩ = some (.int .i64 (p.s k).birth) ∧ w'.cell? ⟨b', off' + k * 3 + 1, none⟩ = some (.slice kb (p.s k).kn kd) ∧ w'.cell? ⟨b', off' + k * 3 + 2, none⟩ = some (.string (p.s k).data)) (go_keep)
        (first
          | (go_at_call 12; refine (lwSlot_same _ _ _ _ _ _ lo hi lo' hi' (p.s k) _ ?_ ?_).mono ?_; (exact Hs.out.slot.below (Below.refl _ _).drew); (exact Hs'.out.slot.below (Below.refl _ _).drew); rintro e w1 ⟨rfl, hb1⟩; have hb1' := below_undrew hb1; have z0 := (HA1.out.below hb1').1.1; have z1 := (HB1.out.below hb1').1.1; have z2 := (Hs.out.below hb1').c0; have z3 := (Hs.out.below hb1').c1; have z4 := (Hs.out.below hb1').c2; have z5 := (Hs'.out.below hb1').c0; have z6 := (Hs'.out.below hb1').c1; have z7 := (Hs'.out.below hb1').c2))
      have HA2 := hideL (HA1.out.below hb1')
      have HB2 := hideL (HB1.out.below hb1')
      have hbn := below_next hb hb1'
      clear hb1 hb1' z0 z1 z2 z3 z4 z5 z6 z7 q0 q1 q2 r0 r1 r2 x0 x1 x2 x3 y0 y1 y2 y3 HA1 HB1 Hs Hs'
      go_wp2
      go_roundw
      case rel => exact ⟨k + 1, by omega, by go_num, HA2.out, HB2.out, hbn⟩
      case measure => simp [intOf]; omega
    · obtain rfl : k = p.n := by omega
      go_wp2
      go_loopw [6] (fun i wx => ∃ j : Nat, j ≤ p.hn ∧ i = .int .i64 j ∧ Box2 wx w.heap.size (.slice a p.n c) (.slice a' p.hn c') ∧ Box2 wx (w.heap.size + 1) (.slice d p.n g) (.slice d' p.hn g') ∧ Below w.heap.size w wx) (fun i _ => p.hn - (intOf i).toNat)
      case atStart => exact ⟨0, Nat.zero_le _, rfl, HA1.out, HB1.out, hb⟩
      case round =>
        clear x0 x1 x2 x3 y0 y1 y2 y3 HA1 HB1 hb
        obtain ⟨j, hj, rfl, hA, hB, hb⟩ := hrel
        have HA1 := hideL hA
        have HB1 := hideL hB
        clear hA hB
        obtain ⟨⟨x0, x1⟩, ⟨x2, x3⟩⟩ := HA1.out
        obtain ⟨⟨y0, y1⟩, ⟨y2, y3⟩⟩ := HB1.out
        by_cases hlt2 : j < p.hn
        · have hlt2' : (j : Int) < (p.hn : Int) := by omega
          obtain ⟨b, off, rfl, q0⟩ := (H1.out.2.below hb).cells hlt2
          obtain ⟨b', off', rfl, q1⟩ := (H2.out.2.below hb).cells hlt2
          have e3 : (p.h j != p.h j) = false := by simp
          go_wp2
          go_quiet (fail)
          go_wp2
          go_roundw
          case rel => exact ⟨j + 1, by omega, by go_num, HA1.out.below (below_drewN (Below.refl _ _) _), HB1.out.below (below_drewN (Below.refl _ _) _), below_drewN hb _⟩
          case measure => simp [intOf]; omega
        · obtain rfl : j = p.hn := by omega
          go_wp2
          go_ret
          exact ⟨rfl, hb⟩

end Go.Proofs.Ytikhipekmlhibaa
