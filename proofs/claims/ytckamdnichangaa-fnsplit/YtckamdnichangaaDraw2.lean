/- What the draws' source leaves, more of it: one, edge, l01Data, l01Ptr, l01Source. -/
import Derived.Test.YtckamdnichangaaDraw
import Derived.Test.YtckamdnichangaaSpecRight
namespace Go.Proofs.Ytckamdnichangaa
open Go.RowKit
set_option linter.unusedVariables false

/-- A source of draws in the block B, wherever it stands. -/
def Src (w : World) (B : Nat) : Prop := ∃ a n c at' mix size, SrcAt w B a n c at' mix size

theorem Src.lt {w : World} {B : Nat} (h : Src w B) : B < w.heap.size := by
  obtain ⟨a, n, c, at', mix, size, h⟩ := h
  exact h.c0.lt
theorem Src.turned {S : Nat → Prop} {w w' : World} {B : Nat} (h : Src w B) (t : Turned S w w') (hs : ∀ k, S k → B < k) : Src w' B := by
  obtain ⟨a, n, c, at', mix, size, h⟩ := h
  have hB : ¬ S B := fun hx => by have := hs B hx; omega
  refine ⟨a, n, c, at', mix, size, h.c0.turned t hB, h.c1.turned t hB, h.c2.turned t hB, h.c3.turned t hB, fun hn => ?_, h.len, h.pos, h.sized⟩
  obtain ⟨b, off, ha, hb, hc⟩ := h.bytes hn
  refine ⟨b, off, ha, hb, fun i hi => ?_⟩
  obtain ⟨x, hx, h0, h1⟩ := hc i hi
  exact ⟨x, (t.cell (lt_of_cell hx) (fun e => by have := hs b e; omega)).trans hx, h0, h1⟩
theorem Src.below {w w' : World} {B : Nat} (h : Src w B) (t : Below w.heap.size w w') : Src w' B := h.turned (Turned.of_below (S := fun _ => False) t) (fun k hk => hk.elim)

theorem n_any (B : Nat) (most : Int) (w : World) (h : Src w B) (hm : most ≤ 1000000) :
    Calls Try.prog 66 #[.pointer (some ⟨B, 0, none⟩), .int .i64 most] w fun e w' => (∃ r : Int, e = .returned (.int .i64 r) ∧ 0 ≤ r ∧ (r < most ∨ r = 0)) ∧ Src w' B ∧ Turned (fun k => k = B) w w' := by
  obtain ⟨a, n, c, at', mix, size, h⟩ := h
  refine (srcN_any B n c at' a mix size most w h hm).mono ?_
  rintro e w' ⟨h1, ⟨at2, mix2, h2⟩, h3⟩
  exact ⟨h1, ⟨a, n, c, at2, mix2, size, h2⟩, h3⟩

set_option maxRecDepth 20000 in
set_option maxHeartbeats 400000 in
theorem one_any (B : Nat) (most : Int) (w : World) (h : Src w B) (hm : most ≤ 1000000) :
    Calls Try.prog 64 #[.pointer (some ⟨B, 0, none⟩), .int .i64 most] w fun e w' => (∃ b : Bool, e = .returned (.bool b)) ∧ Src w' B ∧ Turned (fun k => k = B) w w' := by
  go_enter Try.func64, Try.ntmps64
  go_wp2_with fail
  refine (n_any B most _ h hm).mono ?_
  rintro e w1 ⟨⟨r, rfl, h0, h1⟩, hs, ht⟩
  have Hs := hideS hs
  clear hs h
  go_wp2
  go_ret
  exact ⟨⟨_, rfl⟩, Hs.out, ht⟩

def edges : Array Value := #[.int .i64 0, .int .i64 1, .int .i64 (-1), .int .i64 2, .int .i64 1000, .int .i64 1001, .int .i64 2147483648, .int .i64 2147483647, .int .i64 (-2147483648), .int .i64 4611686018427387904, .int .i64 9223372036854775807, .int .i64 (-9223372036854775808), .int .i64 1000000, .int .i64 1000001]
theorem edges_at {k : Nat} (h : k < 14) : ∃ y : Int, edges[k]? = some (.int .i64 y) := by
  rcases k with _ | _ | _ | _ | _ | _ | _ | _ | _ | _ | _ | _ | _ | _ | k
  all_goals first | exact ⟨_, rfl⟩ | omega

set_option maxRecDepth 20000 in
set_option maxHeartbeats 1000000 in
theorem edge_any (B : Nat) (w : World) (h : Src w B) :
    Calls Try.prog 87 #[.pointer (some ⟨B, 0, none⟩)] w fun e w' => (∃ r : Int, e = .returned (.int .i64 r)) ∧ Src w' B ∧ Turned (fun k => k = B) w w' := by
  have hB := h.lt
  go_enter Try.func87, Try.ntmps87
  go_wp2_with fail
  have ha := below_alloc w (.cells edges 2)
  refine (n_any B 14 _ (h.below ha) (by omega)).mono ?_
  rintro e w1 ⟨⟨r, rfl, h0, h1⟩, hs, ht⟩
  obtain ⟨k, rfl⟩ := Int.eq_ofNat_of_zero_le h0
  have hk : k < 14 := by omega
  obtain ⟨y, hy⟩ := edges_at hk
  have hc : w1.cell? ⟨w.heap.size, k, none⟩ = some (.int .i64 y) := ((cell_of_block (i := k) (heap_alloc_new w (.cells edges 2)) hy).turned ht (by omega)).1
  have hk' : (k : Int) < 14 := by omega
  have Hs := hideS hs
  have Ht := hideS ((Turned.of_below (S := fun k => k = B) ha).trans ht)
  clear hs ht h ha hy h1
  go_wp2
  go_ret
  exact ⟨⟨_, rfl⟩, Hs.out, Ht.out⟩

end Go.Proofs.Ytckamdnichangaa
