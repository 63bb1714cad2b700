/- What the draws' source leaves: its numbers are below what was asked, it turns its own variable alone. -/
import Derived.Test.YtckamdnichangaaFrame
import Derived.Deep.RegionHeld3
import Derived.Deep.QuietTactic
import Derived.BigQuiet
import Derived.Deep.DeepCutAuto
namespace Go.Proofs.Ytckamdnichangaa
open Go.RowKit
set_option linter.unusedVariables false

/-- Bytes to read, in blocks ahead of B. -/
def BytesAt (w : World) (B : Nat) (a : Option Addr) (n : Nat) : Prop :=
  0 < n → ∃ b off, a = some ⟨b, off, none⟩ ∧ b < B ∧ ∀ i, i < n → ∃ x : Int, w.cell? ⟨b, off + i, none⟩ = some (.int .u8 x) ∧ 0 ≤ x ∧ x < 256

/-- A source of draws in the block B. -/
structure SrcAt (w : World) (B : Nat) (a : Option Addr) (n c : Nat) (at' : Nat) (mix size : Int) : Prop where
  c0 : Cell w B 0 (.slice a n c)
  c1 : Cell w B 1 (.int .i64 (at' : Int))
  c2 : Cell w B 2 (.int .u64 mix)
  c3 : Cell w B 3 (.int .i64 size)
  bytes : BytesAt w B a n
  len : n ≤ maxLen ∧ n ≤ c
  pos : at' ≤ n
  sized : 0 ≤ size ∧ size ≤ 12

theorem BytesAt.turned {w w' : World} {B n : Nat} {a : Option Addr} (h : BytesAt w B a n) (t : Turned (fun k => k = B) w w') : BytesAt w' B a n := fun hn => by
  obtain ⟨b, off, ha, hb, hc⟩ := h hn
  refine ⟨b, off, ha, hb, fun i hi => ?_⟩
  obtain ⟨x, hx, h0, h1⟩ := hc i hi
  exact ⟨x, (t.cell (lt_of_cell hx) (by omega)).trans hx, h0, h1⟩

theorem SrcAt.drewN {w : World} {B n c at' : Nat} {a : Option Addr} {mix size : Int} (h : SrcAt w B a n c at' mix size) (k : Nat) : SrcAt (w.drewN k) B a n c at' mix size := ⟨h.c0, h.c1, h.c2, h.c3, h.bytes, h.len, h.pos, h.sized⟩
theorem SrcAt.step {w : World} {B n c at' : Nat} {a : Option Addr} {mix size : Int} (h : SrcAt w B a n c at' mix size) (hlt : at' < n) : SrcAt (w.setCell ⟨B, 1, none⟩ (.int .i64 ((at' : Int) + 1))) B a n c (at' + 1) mix size :=
  ⟨h.c0.other _ (Or.inr (by omega)), h.c1.set _, h.c2.other _ (Or.inr (by omega)), h.c3.other _ (Or.inr (by omega)), h.bytes.turned (Turned.put _ _ _ _), h.len, hlt, h.sized⟩
theorem SrcAt.mixed {w : World} {B n c at' : Nat} {a : Option Addr} {mix size : Int} (h : SrcAt w B a n c at' mix size) (m : Int) : SrcAt (w.setCell ⟨B, 2, none⟩ (.int .u64 m)) B a n c at' m size :=
  ⟨h.c0.other _ (Or.inr (by omega)), h.c1.other _ (Or.inr (by omega)), h.c2.set _, h.c3.other _ (Or.inr (by omega)), h.bytes.turned (Turned.put _ _ _ _), h.len, h.pos, h.sized⟩

theorem SrcAt.drew {w : World} {B n c at' : Nat} {a : Option Addr} {mix size : Int} (h : SrcAt w B a n c at' mix size) : SrcAt w.drew B a n c at' mix size := ⟨h.c0, h.c1, h.c2, h.c3, h.bytes, h.len, h.pos, h.sized⟩
/-- Behind one turn of the mix. -/
theorem src_turn {w w1 : World} {B n c at' : Nat} {a : Option Addr} {mix size : Int} (h : SrcAt w1 B a n c at' mix size) (t : Turned (fun k => k = B) w w1) (m : Int) : SrcAt (w1.setCell ⟨B, 2, none⟩ (.int .u64 m)).drew B a n c at' m size ∧ Turned (fun k => k = B) w (w1.setCell ⟨B, 2, none⟩ (.int .u64 m)).drew :=
  ⟨(h.mixed m).drew, (t.trans (Turned.put _ _ _ _)).trans (Turned.of_below (Below.refl _ _).drew)⟩

theorem wrap64_small {n : Int} (h0 : 0 ≤ n) (h1 : n < 9223372036854775808) : wrap64 n = n := by
  simp only [wrap64]
  omega

theorem hideS {P : Prop} (h : P) : Hid P := h

set_option maxRecDepth 20000 in
set_option maxHeartbeats 4000000 in
theorem srcN_any (B n c at' : Nat) (a : Option Addr) (mix size most : Int) (w : World) (h : SrcAt w B a n c at' mix size) (hm : most ≤ 1000000) :
    Calls Try.prog 66 #[.pointer (some ⟨B, 0, none⟩), .int .i64 most] w fun e w' => (∃ r : Int, e = .returned (.int .i64 r) ∧ 0 ≤ r ∧ (r < most ∨ r = 0)) ∧ (∃ at2 mix2, SrcAt w' B a n c at2 mix2 size) ∧ Turned (fun k => k = B) w w' := by
  have Hsrc := hideS h
  obtain ⟨⟨x0, x1⟩, ⟨x2, x3⟩, ⟨x4, x5⟩, ⟨x6, x7⟩, hby, hl, hp, hs⟩ := h
  have Hby : Hid (BytesAt w B a n) := hby
  have hl1 : n ≤ 2 ^ 63 - 1 := hl.1
  clear hby
  go_enter Try.func66, Try.ntmps66
  by_cases h1 : most ≤ 1
  · go_wp2
    go_ret
    exact ⟨⟨0, rfl, by omega, Or.inr rfl⟩, ⟨_, _, Hsrc.out⟩, Turned.refl _ _⟩
  · go_upto_region 4 with fail
    go_quiet (fail)
    have Hw := hideS (Hsrc.out.drewN nq)
    have Ht := hideS (Turned.of_below (S := fun k => k = B) (below_drewN (Below.refl w.heap.size w) nq))
    go_upto_if 17 with fail
    go_cut [5] (fun v wx => ∃ (x : Int) (at2 : Nat), v = .int .u64 x ∧ 0 ≤ x ∧ x < 256 ∧ SrcAt wx B a n c at2 mix size ∧ Turned (fun k => k = B) w wx)
    case first =>
      by_cases h2 : at' < n
      · have h2' : (at' : Int) < (n : Int) := by omega
        obtain ⟨b, off, rfl, hbB, hcell⟩ := Hby.out (by omega)
        obtain ⟨x, hx, hx0, hx1⟩ := hcell at' h2
        clear hcell
        have n0 : b ≠ B := by omega
        go_wp2
        go_quiet (fail)
        go_wp2
        go_meet
        case rel => exact ⟨x, at' + 1, rfl, hx0, hx1, (Hsrc.out.drewN _).step h2, (Turned.of_below (below_drewN (Below.refl _ _) _)).trans (Turned.put _ _ _ _)⟩
      · have h2' : ¬ (at' : Int) < (n : Int) := by omega
        go_wp2
        go_meet
        case rel => exact ⟨0, at', rfl, by omega, by omega, Hw.out, Ht.out⟩
    case rest =>
      obtain ⟨x, at2, rfl, hx0, hx1, hsrc, ht⟩ := hcut
      have Hs1 := hideS hsrc
      clear x0 x1 x2 x3 x4 x5 x6 x7 Hsrc
      obtain ⟨⟨x0, x1⟩, ⟨x2, x3⟩, ⟨x4, x5⟩, ⟨x6, x7⟩, _⟩ := hsrc
      go_wp2
      go_region
      have h7 := src_turn Hs1.out ht (bits BinOp.xor IntKind.u64 mix (IntKind.u64.wrap (mix * 8192)))
      generalize bits BinOp.xor IntKind.u64 mix (IntKind.u64.wrap (mix * 8192)) = m1 at h7 ⊢
      generalize (wc.setCell ⟨B, 2, none⟩ (.int .u64 m1)).drew = w7 at h7 ⊢
      clear x0 x1 x2 x3 x4 x5 x6 x7 Hs1 ht
      obtain ⟨hs7, ht7⟩ := h7
      have Hs7 := hideS hs7
      obtain ⟨⟨x0, x1⟩, ⟨x2, x3⟩, ⟨x4, x5⟩, ⟨x6, x7⟩, _⟩ := hs7
      go_wp2
      go_region
      have h8 := src_turn Hs7.out ht7 (bits BinOp.xor IntKind.u64 m1 (m1 / 128))
      generalize bits BinOp.xor IntKind.u64 m1 (m1 / 128) = m2 at h8 ⊢
      generalize (w7.setCell ⟨B, 2, none⟩ (.int .u64 m2)).drew = w8 at h8 ⊢
      clear x0 x1 x2 x3 x4 x5 x6 x7 Hs7 ht7
      obtain ⟨hs8, ht8⟩ := h8
      have Hs8 := hideS hs8
      obtain ⟨⟨x0, x1⟩, ⟨x2, x3⟩, ⟨x4, x5⟩, ⟨x6, x7⟩, _⟩ := hs8
      go_wp2
      go_region
      have h9 := src_turn Hs8.out ht8 (bits BinOp.xor IntKind.u64 m2 (IntKind.u64.wrap (m2 * 131072)))
      generalize bits BinOp.xor IntKind.u64 m2 (IntKind.u64.wrap (m2 * 131072)) = m3 at h9 ⊢
      generalize (w8.setCell ⟨B, 2, none⟩ (.int .u64 m3)).drew = w9 at h9 ⊢
      clear x0 x1 x2 x3 x4 x5 x6 x7 Hs8 ht8
      obtain ⟨hs9, ht9⟩ := h9
      have Hs9 := hideS hs9
      obtain ⟨⟨x0, x1⟩, ⟨x2, x3⟩, ⟨x4, x5⟩, ⟨x6, x7⟩, _⟩ := hs9
      go_wp2
      go_ret
      have hy : 0 ≤ IntKind.u64.wrap (x + m3 / 1048576) := wrap_u64_nonneg _
      have hr0 : 0 ≤ (IntKind.u64.wrap (x + m3 / 1048576)).tmod most := Int.tmod_nonneg _ hy
      have hr1 : (IntKind.u64.wrap (x + m3 / 1048576)).tmod most < most := Int.tmod_lt_of_pos _ (by omega)
      have hw : wrap64 ((IntKind.u64.wrap (x + m3 / 1048576)).tmod most) = (IntKind.u64.wrap (x + m3 / 1048576)).tmod most := wrap64_small hr0 (by omega)
      exact ⟨⟨_, rfl, by rw [hw]; exact hr0, Or.inl (by rw [hw]; exact hr1)⟩, ⟨_, _, Hs9.out⟩, ht9⟩

end Go.Proofs.Ytckamdnichangaa
