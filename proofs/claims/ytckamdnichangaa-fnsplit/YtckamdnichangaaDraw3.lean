/- What the draws' l01Data leaves. -/
import Derived.Test.YtckamdnichangaaDraw2
import Derived.Laws.BytesArg
namespace Go.Proofs.Ytckamdnichangaa
open Go.RowKit
set_option linter.unusedVariables false

theorem infoU8 : (Try.prog.info? 5).map (fun i => (i.zero, i.size, i.bytes)) = some (some (.int .u8 0), 1, 1) := by kernel_rfl

set_option maxRecDepth 20000 in
set_option maxHeartbeats 1000000 in
theorem data_any (B : Nat) (w : World) (h : Src w B) :
    Calls Try.prog 63 #[.pointer (some ⟨B, 0, none⟩)] w fun e w' => (∃ d : ByteArray, e = .returned (.string d) ∧ d.size = 16) ∧ Src w' B ∧ Turned (fun k => k = B) w w' := by
  have hB := h.lt
  have hmk := make_zeros 22 5 (.int .u8 0) 1 1 (by kernel_rfl) infoU8 rfl 16 (by omega) (by omega)
  have hmk' : ∀ w, (Instr.makeSlice 22 (.int .i64 16) (.int .i64 16)).run Try.prog w = .ok (.slice (some ⟨w.heap.size, 0, none⟩) 16 16) (w.alloc (.cells (zeros #[.int .u8 0] 16) 5)) := hmk
  clear hmk
  have ha := below_alloc w (.cells (zeros #[.int .u8 0] 16) 5)
  have Hc : Hid (∀ i, i < 16 → Cell (w.alloc (.cells (zeros #[.int .u8 0] 16) 5)) w.heap.size i (.int .u8 0)) := fun i hi => by
    have := new_cell w #[.int .u8 0] 16 i 0 5 hi (by simp)
    simpa using this
  go_enter Try.func63, Try.ntmps63
  go_wp2_with fail
  refine (n_any B 256 _ (h.below ha) (by omega)).mono ?_
  rintro e w1 ⟨⟨r, rfl, h0, h1⟩, hs, ht⟩
  have Hc1 : Hid (∀ i, i < 16 → Cell w1 w.heap.size i (.int .u8 0)) := fun i hi => (Hc.out i hi).turned ht (by omega)
  have Ht1 := hideS ((Turned.of_below (S := fun k => k = B) ha).trans ht)
  have Hs1 := hideS hs
  obtain ⟨x0, x1⟩ := Hc1.out 0 (by omega)
  clear hs ht h ha Hc hmk'
  go_wp2_with fail
  have Hc2 : Hid (Cell (w1.setCell ⟨w.heap.size, 0, none⟩ (.int .u8 r)) w.heap.size 0 (.int .u8 r) ∧ ∀ i, 0 < i → i < 16 → Cell (w1.setCell ⟨w.heap.size, 0, none⟩ (.int .u8 r)) w.heap.size i (.int .u8 0)) := ⟨(Hc1.out 0 (by omega)).set _, fun i h0 hi => (Hc1.out i hi).other _ (Or.inr (by omega))⟩
  have t1 := Turned.put w1 w.heap.size 0 (.int .u8 r)
  refine (n_any B 3 _ (Hs1.out.turned t1 (fun k hk => by omega)) (by omega)).mono ?_
  rintro e w2 ⟨⟨r2, rfl, h20, h21⟩, hs2, ht2⟩
  have Hd0 := hideS (Hc2.out.1.turned ht2 (by omega))
  have Hd : Hid (∀ i, 0 < i → i < 16 → Cell w2 w.heap.size i (.int .u8 0)) := fun i h0 hi => (Hc2.out.2 i h0 hi).turned ht2 (by omega)
  have Hs2 := hideS hs2
  have Ht2 : Hid (Turned (fun k => k = B) w w2) := by
    refine ⟨ht2.os.trans (t1.os.trans Ht1.out.os), ht2.tape.trans (t1.tape.trans Ht1.out.tape), ht2.output.trans (t1.output.trans Ht1.out.output), Nat.le_trans Ht1.out.size (Nat.le_trans t1.size ht2.size), fun k hk hne => ?_⟩
    exact (ht2.block k (by have := Ht1.out.size; have := t1.size; omega) hne).trans ((t1.block k (by have := Ht1.out.size; omega) (by omega)).trans (Ht1.out.block k hk hne))
  have hconv : ∀ y, (convert 22 9 (.slice (some ⟨w.heap.size, 0, none⟩) 16 16)).run Try.prog (w2.setCell ⟨w.heap.size, 15, none⟩ (.int .u8 y)) = .ok (.string (strOfNums [r, 0, 0, 0, 0, 0, 0, 0, 0, 0, 0, 0, 0, 0, 0, y])) (w2.setCell ⟨w.heap.size, 15, none⟩ (.int .u8 y)) := fun y =>
    run_convert_bytes_arg (P := Try.prog) _ 22 5 (by kernel_rfl) (by kernel_rfl) w.heap.size 0 16 16 [r, 0, 0, 0, 0, 0, 0, 0, 0, 0, 0, 0, 0, 0, 0, y] rfl (fun i hi => by
      have e0 := (Hd0.out.other (b' := w.heap.size) (o' := 15) (.int .u8 y) (Or.inr (by omega))).1
      have e15 := ((Hd.out 15 (by omega) (by omega)).set (.int .u8 y)).1
      have ei : ∀ j, 0 < j → j < 15 → (w2.setCell ⟨w.heap.size, 15, none⟩ (.int .u8 y)).cell? ⟨w.heap.size, j, none⟩ = some (.int .u8 0) := fun j h0 hj => ((Hd.out j h0 (by omega)).other (b' := w.heap.size) (o' := 15) (.int .u8 y) (Or.inr (by omega))).1
      rw [Nat.zero_add]
      rcases i with _ | _ | _ | _ | _ | _ | _ | _ | _ | _ | _ | _ | _ | _ | _ | _ | k
      all_goals first | exact e0 | exact e15 | exact ei _ (by omega) (by omega) | omega) 9 (by kernel_rfl)
  obtain ⟨x2, x3⟩ := Hd.out 15 (by omega) (by omega)
  have hsz : ∀ y, (strOfNums [r, 0, 0, 0, 0, 0, 0, 0, 0, 0, 0, 0, 0, 0, 0, y]).size = 16 := fun y => rfl
  clear hs2 ht2 t1 Hc1 Hc2 Hs1 Ht1 x0 x1
  go_wp2
  go_ret
  refine ⟨⟨_, rfl, hsz _⟩, Hs2.out.turned (Turned.put _ _ _ _) (fun k hk => by omega), ?_⟩
  have t2 := Turned.put w2 w.heap.size 15 (.int .u8 (97 + r2))
  refine ⟨t2.os.trans Ht2.out.os, t2.tape.trans Ht2.out.tape, t2.output.trans Ht2.out.output, Nat.le_trans Ht2.out.size t2.size, fun k hk hne => ?_⟩
  exact (t2.block k (by have := Ht2.out.size; omega) (by omega)).trans (Ht2.out.block k hk hne)

end Go.Proofs.Ytckamdnichangaa
