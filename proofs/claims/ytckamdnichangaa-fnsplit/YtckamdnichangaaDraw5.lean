/- What the draws' l01Source leaves. -/
import Derived.Test.YtckamdnichangaaDraw4
namespace Go.Proofs.Ytckamdnichangaa
open Go.RowKit
set_option linter.unusedVariables false

theorem SrcAt.below {w w' : World} {B n c at' : Nat} {a : Option Addr} {mix size : Int} (h : SrcAt w B a n c at' mix size) (t : Below w.heap.size w w') : SrcAt w' B a n c at' mix size :=
  ⟨h.c0.below t, h.c1.below t, h.c2.below t, h.c3.below t, fun hn => by
    obtain ⟨b, off, ha, hb, hc⟩ := h.bytes hn
    refine ⟨b, off, ha, hb, fun i hi => ?_⟩
    obtain ⟨x, hx, h0, h1⟩ := hc i hi
    exact ⟨x, (t.cell (lt_of_cell hx)).trans hx, h0, h1⟩, h.len, h.pos, h.sized⟩
theorem SrcAt.resize {w : World} {B n c at' : Nat} {a : Option Addr} {mix size : Int} (h : SrcAt w B a n c at' mix size) (m : Int) (hm : 0 ≤ m ∧ m ≤ 12) : SrcAt (w.setCell ⟨B, 3, none⟩ (.int .i64 m)) B a n c at' mix m :=
  ⟨h.c0.other _ (Or.inr (by omega)), h.c1.other _ (Or.inr (by omega)), h.c2.other _ (Or.inr (by omega)), h.c3.set _, h.bytes.turned (Turned.put _ _ _ _), h.len, h.pos, hm⟩

theorem SrcAt.resize2 {w : World} {B n c at' : Nat} {a : Option Addr} {mix size : Int} (h : SrcAt w B a n c at' mix size) (u : Value) (m : Int) (hm : 0 ≤ m ∧ m ≤ 12) : SrcAt ((w.setCell ⟨B, 3, none⟩ u).setCell ⟨B, 3, none⟩ (.int .i64 m)) B a n c at' mix m :=
  ⟨(h.c0.other _ (Or.inr (by omega))).other _ (Or.inr (by omega)), (h.c1.other _ (Or.inr (by omega))).other _ (Or.inr (by omega)), (h.c2.other _ (Or.inr (by omega))).other _ (Or.inr (by omega)), (h.c3.set _).set _, (h.bytes.turned (Turned.put _ _ _ _)).turned (Turned.put _ _ _ _), h.len, h.pos, hm⟩

set_option maxRecDepth 20000 in
set_option maxHeartbeats 2000000 in
theorem source_any (a : Option Addr) (n c : Nat) (w : World) (hb : BytesAt w w.heap.size a n) (hn : n ≤ 1048576) (hnc : n ≤ c) :
    Calls Try.prog 39 #[.slice a n c] w fun e w' => (∃ B, e = .returned (.pointer (some ⟨B, 0, none⟩)) ∧ Src w' B ∧ w.heap.size ≤ B) ∧ Below w.heap.size w w' := by
  have Hb := hideS hb
  have hblk : (w.alloc (.cells #[.slice a n c, .int .i64 0, .int .u64 88172645463325252, .int .i64 0] 115)).heap[w.heap.size]? = some (.cells #[.slice a n c, .int .i64 0, .int .u64 88172645463325252, .int .i64 0] 115) := heap_alloc_new _ _
  have ha := below_alloc w (.cells #[.slice a n c, .int .i64 0, .int .u64 88172645463325252, .int .i64 0] 115)
  have H0 : Hid (SrcAt (w.alloc (.cells #[.slice a n c, .int .i64 0, .int .u64 88172645463325252, .int .i64 0] 115)) w.heap.size a n c 0 88172645463325252 0) := by
    refine ⟨cell_of_block hblk rfl, cell_of_block hblk rfl, cell_of_block hblk rfl, cell_of_block hblk rfl, fun hn => ?_, ⟨by unfold maxLen; omega, hnc⟩, Nat.zero_le _, by omega⟩
    obtain ⟨b, off, ha', hb', hc⟩ := Hb.out hn
    refine ⟨b, off, ha', hb', fun i hi => ?_⟩
    obtain ⟨x, hx, h0, h1⟩ := hc i hi
    exact ⟨x, (ha.cell (lt_of_cell hx)).trans hx, h0, h1⟩
  clear hblk hb
  go_enter Try.func39, Try.ntmps39
  go_wp2
  go_loopw [4] (fun i wr => ∃ (k : Nat) (mix : Int), k ≤ n ∧ k ≤ 64 ∧ i = .int .i64 k ∧ SrcAt wr w.heap.size a n c 0 mix 0 ∧ Below w.heap.size w wr) (fun i _ => n - (intOf i).toNat)
  case atStart => exact ⟨0, _, Nat.zero_le _, by omega, rfl, H0.out, ha⟩
  case round =>
    obtain ⟨k, mix, hk, hk64, rfl, hs, hb⟩ := hrel
    have Hs := hideS hs
    obtain ⟨⟨x0, x1⟩, ⟨x2, x3⟩, ⟨x4, x5⟩, ⟨x6, x7⟩, hby, _⟩ := hs
    by_cases hlt : k < n ∧ k < 64
    · obtain ⟨hl1, hl2⟩ := hlt
      have hl1' : (k : Int) < (n : Int) := by omega
      have hl2' : (k : Int) < 64 := by omega
      obtain ⟨b, off, rfl, hbB, hc⟩ := hby (by omega)
      obtain ⟨x, hx, hx0, hx1⟩ := hc k hl1
      clear hc
      go_wp2
      go_region
      go_wp2
      go_roundw
      case rel => exact ⟨k + 1, _, by omega, by omega, by go_num, (Hs.out.mixed _).drew, (hb.setCell (Nat.le_refl _) _).drew⟩
      case measure => simp [intOf]; omega
    · have hq0 : 0 ≤ ((n : Int) / 20) := by omega
      have Hend : Hid (∀ wx, Below w.heap.size w wx → (∃ mix size, SrcAt wx w.heap.size a n c 0 mix size) → (∃ B, Ending.returned (.pointer (some ⟨w.heap.size, 0, none⟩)) = .returned (.pointer (some ⟨B, 0, none⟩)) ∧ Src wx B ∧ w.heap.size ≤ B) ∧ Below w.heap.size w wx) := fun wx hbx ⟨mix, size, h⟩ => ⟨⟨_, rfl, ⟨_, _, _, _, _, _, h⟩, Nat.le_refl _⟩, hbx⟩
      have hdone : k = n ∨ (k = 64 ∧ 64 < n) := by omega
      clear hlt hby
      rcases hdone with rfl | ⟨rfl, hd⟩
      · go_wp2
        all_goals
          go_ret
          first
            | exact Hend.out _ ((hb.setCell (Nat.le_refl _) _).setCell (Nat.le_refl _) _) ⟨_, _, Hs.out.resize2 _ _ ⟨by omega, by omega⟩⟩
            | exact Hend.out _ (hb.setCell (Nat.le_refl _) _) ⟨_, _, Hs.out.resize _ ⟨by omega, by omega⟩⟩
      · have hd' : (64 : Int) < (n : Int) := by omega
        go_wp2
        all_goals
          go_ret
          first
            | exact Hend.out _ ((hb.setCell (Nat.le_refl _) _).setCell (Nat.le_refl _) _) ⟨_, _, Hs.out.resize2 _ _ ⟨by omega, by omega⟩⟩
            | exact Hend.out _ (hb.setCell (Nat.le_refl _) _) ⟨_, _, Hs.out.resize _ ⟨by omega, by omega⟩⟩

end Go.Proofs.Ytckamdnichangaa
