/- A variable of twelve cells (no law is proved here). -/
import Derived.Test.YtebegmdbpapfgabGreatG1
import Derived.Test.YtebegmdbpapfgabGreatG5
import Derived.Test.YtebegmdbpapfgabGreatG3
import Derived.RegionTactic
import Derived.ChangeAlike
import Derived.BigRegion
import Derived.Laws.CopyOwn
import Derived.Deep.RegionLaw
import Derived.Deep.WholeRow
namespace Go.Proofs.YtebegmdbpapfgabGreat
open Go.RowKit
set_option linter.unusedVariables false

/-- A variable of 12 cells. -/
def Box12 (w : World) (b : Nat) (v0 v1 v2 v3 v4 v5 v6 v7 v8 v9 v10 v11 : Value) : Prop := Cell w b 0 v0 ∧ Cell w b 1 v1 ∧ Cell w b 2 v2 ∧ Cell w b 3 v3 ∧ Cell w b 4 v4 ∧ Cell w b 5 v5 ∧ Cell w b 6 v6 ∧ Cell w b 7 v7 ∧ Cell w b 8 v8 ∧ Cell w b 9 v9 ∧ Cell w b 10 v10 ∧ Cell w b 11 v11
theorem Box12.below {w w' : World} {b : Nat} {v0 v1 v2 v3 v4 v5 v6 v7 v8 v9 v10 v11 : Value} (h : Box12 w b v0 v1 v2 v3 v4 v5 v6 v7 v8 v9 v10 v11) (t : Below w.heap.size w w') : Box12 w' b v0 v1 v2 v3 v4 v5 v6 v7 v8 v9 v10 v11 := ⟨h.1.below t, h.2.1.below t, h.2.2.1.below t, h.2.2.2.1.below t, h.2.2.2.2.1.below t, h.2.2.2.2.2.1.below t, h.2.2.2.2.2.2.1.below t, h.2.2.2.2.2.2.2.1.below t, h.2.2.2.2.2.2.2.2.1.below t, h.2.2.2.2.2.2.2.2.2.1.below t, h.2.2.2.2.2.2.2.2.2.2.1.below t, h.2.2.2.2.2.2.2.2.2.2.2.below t⟩
theorem Box12.turned {S : Nat → Prop} {w w' : World} {b : Nat} {v0 v1 v2 v3 v4 v5 v6 v7 v8 v9 v10 v11 : Value} (h : Box12 w b v0 v1 v2 v3 v4 v5 v6 v7 v8 v9 v10 v11) (t : Turned S w w') (hs : ¬ S b) : Box12 w' b v0 v1 v2 v3 v4 v5 v6 v7 v8 v9 v10 v11 := ⟨h.1.turned t hs, h.2.1.turned t hs, h.2.2.1.turned t hs, h.2.2.2.1.turned t hs, h.2.2.2.2.1.turned t hs, h.2.2.2.2.2.1.turned t hs, h.2.2.2.2.2.2.1.turned t hs, h.2.2.2.2.2.2.2.1.turned t hs, h.2.2.2.2.2.2.2.2.1.turned t hs, h.2.2.2.2.2.2.2.2.2.1.turned t hs, h.2.2.2.2.2.2.2.2.2.2.1.turned t hs, h.2.2.2.2.2.2.2.2.2.2.2.turned t hs⟩
theorem Box12.new (w : World) (v0 v1 v2 v3 v4 v5 v6 v7 v8 v9 v10 v11 : Value) (t : TypeId) : Box12 (w.alloc (.cells #[v0, v1, v2, v3, v4, v5, v6, v7, v8, v9, v10, v11] t)) w.heap.size v0 v1 v2 v3 v4 v5 v6 v7 v8 v9 v10 v11 := by
  have hb : (w.alloc (.cells #[v0, v1, v2, v3, v4, v5, v6, v7, v8, v9, v10, v11] t)).heap[w.heap.size]? = some (.cells #[v0, v1, v2, v3, v4, v5, v6, v7, v8, v9, v10, v11] t) := heap_alloc_new _ _
  exact ⟨cell_of_block hb rfl, cell_of_block hb rfl, cell_of_block hb rfl, cell_of_block hb rfl, cell_of_block hb rfl, cell_of_block hb rfl, cell_of_block hb rfl, cell_of_block hb rfl, cell_of_block hb rfl, cell_of_block hb rfl, cell_of_block hb rfl, cell_of_block hb rfl⟩
abbrev put12 (w : World) (b : Nat) (u0 u1 u2 u3 u4 u5 u6 u7 u8 u9 u10 u11 : Value) : World := (((((((((((w.setCell ⟨b, 0, none⟩ u0).setCell ⟨b, 1, none⟩ u1).setCell ⟨b, 2, none⟩ u2).setCell ⟨b, 3, none⟩ u3).setCell ⟨b, 4, none⟩ u4).setCell ⟨b, 5, none⟩ u5).setCell ⟨b, 6, none⟩ u6).setCell ⟨b, 7, none⟩ u7).setCell ⟨b, 8, none⟩ u8).setCell ⟨b, 9, none⟩ u9).setCell ⟨b, 10, none⟩ u10).setCell ⟨b, 11, none⟩ u11
theorem Box12.put {w : World} {b : Nat} {v0 v1 v2 v3 v4 v5 v6 v7 v8 v9 v10 v11 : Value} (h : Box12 w b v0 v1 v2 v3 v4 v5 v6 v7 v8 v9 v10 v11) (u0 u1 u2 u3 u4 u5 u6 u7 u8 u9 u10 u11 : Value) : Box12 (put12 w b u0 u1 u2 u3 u4 u5 u6 u7 u8 u9 u10 u11) b u0 u1 u2 u3 u4 u5 u6 u7 u8 u9 u10 u11 := by
  obtain ⟨h0, h1, h2, h3, h4, h5, h6, h7, h8, h9, h10, h11⟩ := h
  refine ⟨?_, ?_, ?_, ?_, ?_, ?_, ?_, ?_, ?_, ?_, ?_, ?_⟩
  · exact (((((((((((h0.set _).other _ (Or.inr (by omega))).other _ (Or.inr (by omega))).other _ (Or.inr (by omega))).other _ (Or.inr (by omega))).other _ (Or.inr (by omega))).other _ (Or.inr (by omega))).other _ (Or.inr (by omega))).other _ (Or.inr (by omega))).other _ (Or.inr (by omega))).other _ (Or.inr (by omega))).other _ (Or.inr (by omega))
  · exact (((((((((((h1.other _ (Or.inr (by omega))).set _).other _ (Or.inr (by omega))).other _ (Or.inr (by omega))).other _ (Or.inr (by omega))).other _ (Or.inr (by omega))).other _ (Or.inr (by omega))).other _ (Or.inr (by omega))).other _ (Or.inr (by omega))).other _ (Or.inr (by omega))).other _ (Or.inr (by omega))).other _ (Or.inr (by omega))
  · exact (((((((((((h2.other _ (Or.inr (by omega))).other _ (Or.inr (by omega))).set _).other _ (Or.inr (by omega))).other _ (Or.inr (by omega))).other _ (Or.inr (by omega))).other _ (Or.inr (by omega))).other _ (Or.inr (by omega))).other _ (Or.inr (by omega))).other _ (Or.inr (by omega))).other _ (Or.inr (by omega))).other _ (Or.inr (by omega))
  · exact (((((((((((h3.other _ (Or.inr (by omega))).other _ (Or.inr (by omega))).other _ (Or.inr (by omega))).set _).other _ (Or.inr (by omega))).other _ (Or.inr (by omega))).other _ (Or.inr (by omega))).other _ (Or.inr (by omega))).other _ (Or.inr (by omega))).other _ (Or.inr (by omega))).other _ (Or.inr (by omega))).other _ (Or.inr (by omega))
  · exact (((((((((((h4.other _ (Or.inr (by omega))).other _ (Or.inr (by omega))).other _ (Or.inr (by omega))).other _ (Or.inr (by omega))).set _).other _ (Or.inr (by omega))).other _ (Or.inr (by omega))).other _ (Or.inr (by omega))).other _ (Or.inr (by omega))).other _ (Or.inr (by omega))).other _ (Or.inr (by omega))).other _ (Or.inr (by omega))
  · exact (((((((((((h5.other _ (Or.inr (by omega))).other _ (Or.inr (by omega))).other _ (Or.inr (by omega))).other _ (Or.inr (by omega))).other _ (Or.inr (by omega))).set _).other _ (Or.inr (by omega))).other _ (Or.inr (by omega))).other _ (Or.inr (by omega))).other _ (Or.inr (by omega))).other _ (Or.inr (by omega))).other _ (Or.inr (by omega))
  · exact (((((((((((h6.other _ (Or.inr (by omega))).other _ (Or.inr (by omega))).other _ (Or.inr (by omega))).other _ (Or.inr (by omega))).other _ (Or.inr (by omega))).other _ (Or.inr (by omega))).set _).other _ (Or.inr (by omega))).other _ (Or.inr (by omega))).other _ (Or.inr (by omega))).other _ (Or.inr (by omega))).other _ (Or.inr (by omega))
  · exact (((((((((((h7.other _ (Or.inr (by omega))).other _ (Or.inr (by omega))).other _ (Or.inr (by omega))).other _ (Or.inr (by omega))).other _ (Or.inr (by omega))).other _ (Or.inr (by omega))).other _ (Or.inr (by omega))).set _).other _ (Or.inr (by omega))).other _ (Or.inr (by omega))).other _ (Or.inr (by omega))).other _ (Or.inr (by omega))
  · exact (((((((((((h8.other _ (Or.inr (by omega))).other _ (Or.inr (by omega))).other _ (Or.inr (by omega))).other _ (Or.inr (by omega))).other _ (Or.inr (by omega))).other _ (Or.inr (by omega))).other _ (Or.inr (by omega))).other _ (Or.inr (by omega))).set _).other _ (Or.inr (by omega))).other _ (Or.inr (by omega))).other _ (Or.inr (by omega))
  · exact (((((((((((h9.other _ (Or.inr (by omega))).other _ (Or.inr (by omega))).other _ (Or.inr (by omega))).other _ (Or.inr (by omega))).other _ (Or.inr (by omega))).other _ (Or.inr (by omega))).other _ (Or.inr (by omega))).other _ (Or.inr (by omega))).other _ (Or.inr (by omega))).set _).other _ (Or.inr (by omega))).other _ (Or.inr (by omega))
  · exact (((((((((((h10.other _ (Or.inr (by omega))).other _ (Or.inr (by omega))).other _ (Or.inr (by omega))).other _ (Or.inr (by omega))).other _ (Or.inr (by omega))).other _ (Or.inr (by omega))).other _ (Or.inr (by omega))).other _ (Or.inr (by omega))).other _ (Or.inr (by omega))).other _ (Or.inr (by omega))).set _).other _ (Or.inr (by omega))
  · exact (((((((((((h11.other _ (Or.inr (by omega))).other _ (Or.inr (by omega))).other _ (Or.inr (by omega))).other _ (Or.inr (by omega))).other _ (Or.inr (by omega))).other _ (Or.inr (by omega))).other _ (Or.inr (by omega))).other _ (Or.inr (by omega))).other _ (Or.inr (by omega))).other _ (Or.inr (by omega))).other _ (Or.inr (by omega))).set _
theorem Turned.put12 (w : World) (b : Nat) (u0 u1 u2 u3 u4 u5 u6 u7 u8 u9 u10 u11 : Value) : Turned (fun k => k = b) w (put12 w b u0 u1 u2 u3 u4 u5 u6 u7 u8 u9 u10 u11) :=
  (((((((((((Turned.put w b 0 u0).trans (Turned.put _ b 1 u1)).trans (Turned.put _ b 2 u2)).trans (Turned.put _ b 3 u3)).trans (Turned.put _ b 4 u4)).trans (Turned.put _ b 5 u5)).trans (Turned.put _ b 6 u6)).trans (Turned.put _ b 7 u7)).trans (Turned.put _ b 8 u8)).trans (Turned.put _ b 9 u9)).trans (Turned.put _ b 10 u10)).trans (Turned.put _ b 11 u11)

theorem Box12.put12a {w : World} {b : Nat} {v0 v1 v2 v3 v4 v5 v6 v7 v8 v9 v10 v11 : Value} (h : Box12 w b v0 v1 v2 v3 v4 v5 v6 v7 v8 v9 v10 v11) (u0 u1 u2 u3 u4 u5 : Value) : Box12 ((((((w.setCell ⟨b, 0, none⟩ u0).setCell ⟨b, 1, none⟩ u1).setCell ⟨b, 2, none⟩ u2).setCell ⟨b, 3, none⟩ u3).setCell ⟨b, 4, none⟩ u4).setCell ⟨b, 5, none⟩ u5) b u0 u1 u2 u3 u4 u5 v6 v7 v8 v9 v10 v11 := by
  obtain ⟨h0, h1, h2, h3, h4, h5, h6, h7, h8, h9, h10, h11⟩ := h
  refine ⟨?_, ?_, ?_, ?_, ?_, ?_, ?_, ?_, ?_, ?_, ?_, ?_⟩
  · exact (((((h0.set _).other _ (Or.inr (by omega))).other _ (Or.inr (by omega))).other _ (Or.inr (by omega))).other _ (Or.inr (by omega))).other _ (Or.inr (by omega))
  · exact (((((h1.other _ (Or.inr (by omega))).set _).other _ (Or.inr (by omega))).other _ (Or.inr (by omega))).other _ (Or.inr (by omega))).other _ (Or.inr (by omega))
  · exact (((((h2.other _ (Or.inr (by omega))).other _ (Or.inr (by omega))).set _).other _ (Or.inr (by omega))).other _ (Or.inr (by omega))).other _ (Or.inr (by omega))
  · exact (((((h3.other _ (Or.inr (by omega))).other _ (Or.inr (by omega))).other _ (Or.inr (by omega))).set _).other _ (Or.inr (by omega))).other _ (Or.inr (by omega))
  · exact (((((h4.other _ (Or.inr (by omega))).other _ (Or.inr (by omega))).other _ (Or.inr (by omega))).other _ (Or.inr (by omega))).set _).other _ (Or.inr (by omega))
  · exact (((((h5.other _ (Or.inr (by omega))).other _ (Or.inr (by omega))).other _ (Or.inr (by omega))).other _ (Or.inr (by omega))).other _ (Or.inr (by omega))).set _
  · exact (((((h6.other _ (Or.inr (by omega))).other _ (Or.inr (by omega))).other _ (Or.inr (by omega))).other _ (Or.inr (by omega))).other _ (Or.inr (by omega))).other _ (Or.inr (by omega))
  · exact (((((h7.other _ (Or.inr (by omega))).other _ (Or.inr (by omega))).other _ (Or.inr (by omega))).other _ (Or.inr (by omega))).other _ (Or.inr (by omega))).other _ (Or.inr (by omega))
  · exact (((((h8.other _ (Or.inr (by omega))).other _ (Or.inr (by omega))).other _ (Or.inr (by omega))).other _ (Or.inr (by omega))).other _ (Or.inr (by omega))).other _ (Or.inr (by omega))
  · exact (((((h9.other _ (Or.inr (by omega))).other _ (Or.inr (by omega))).other _ (Or.inr (by omega))).other _ (Or.inr (by omega))).other _ (Or.inr (by omega))).other _ (Or.inr (by omega))
  · exact (((((h10.other _ (Or.inr (by omega))).other _ (Or.inr (by omega))).other _ (Or.inr (by omega))).other _ (Or.inr (by omega))).other _ (Or.inr (by omega))).other _ (Or.inr (by omega))
  · exact (((((h11.other _ (Or.inr (by omega))).other _ (Or.inr (by omega))).other _ (Or.inr (by omega))).other _ (Or.inr (by omega))).other _ (Or.inr (by omega))).other _ (Or.inr (by omega))
theorem Turned.put12a (w : World) (b : Nat) (u0 u1 u2 u3 u4 u5 : Value) : Turned (fun k => k = b) w ((((((w.setCell ⟨b, 0, none⟩ u0).setCell ⟨b, 1, none⟩ u1).setCell ⟨b, 2, none⟩ u2).setCell ⟨b, 3, none⟩ u3).setCell ⟨b, 4, none⟩ u4).setCell ⟨b, 5, none⟩ u5) :=
  (((((Turned.put w b 0 u0).trans (Turned.put _ b 1 u1)).trans (Turned.put _ b 2 u2)).trans (Turned.put _ b 3 u3)).trans (Turned.put _ b 4 u4)).trans (Turned.put _ b 5 u5)

theorem Box12.put12b {w : World} {b : Nat} {v0 v1 v2 v3 v4 v5 v6 v7 v8 v9 v10 v11 : Value} (h : Box12 w b v0 v1 v2 v3 v4 v5 v6 v7 v8 v9 v10 v11) (u6 u7 u8 u9 u10 u11 : Value) : Box12 ((((((w.setCell ⟨b, 6, none⟩ u6).setCell ⟨b, 7, none⟩ u7).setCell ⟨b, 8, none⟩ u8).setCell ⟨b, 9, none⟩ u9).setCell ⟨b, 10, none⟩ u10).setCell ⟨b, 11, none⟩ u11) b v0 v1 v2 v3 v4 v5 u6 u7 u8 u9 u10 u11 := by
  obtain ⟨h0, h1, h2, h3, h4, h5, h6, h7, h8, h9, h10, h11⟩ := h
  refine ⟨?_, ?_, ?_, ?_, ?_, ?_, ?_, ?_, ?_, ?_, ?_, ?_⟩
  · exact (((((h0.other _ (Or.inr (by omega))).other _ (Or.inr (by omega))).other _ (Or.inr (by omega))).other _ (Or.inr (by omega))).other _ (Or.inr (by omega))).other _ (Or.inr (by omega))
  · exact (((((h1.other _ (Or.inr (by omega))).other _ (Or.inr (by omega))).other _ (Or.inr (by omega))).other _ (Or.inr (by omega))).other _ (Or.inr (by omega))).other _ (Or.inr (by omega))
  · exact (((((h2.other _ (Or.inr (by omega))).other _ (Or.inr (by omega))).other _ (Or.inr (by omega))).other _ (Or.inr (by omega))).other _ (Or.inr (by omega))).other _ (Or.inr (by omega))
  · exact (((((h3.other _ (Or.inr (by omega))).other _ (Or.inr (by omega))).other _ (Or.inr (by omega))).other _ (Or.inr (by omega))).other _ (Or.inr (by omega))).other _ (Or.inr (by omega))
  · exact (((((h4.other _ (Or.inr (by omega))).other _ (Or.inr (by omega))).other _ (Or.inr (by omega))).other _ (Or.inr (by omega))).other _ (Or.inr (by omega))).other _ (Or.inr (by omega))
  · exact (((((h5.other _ (Or.inr (by omega))).other _ (Or.inr (by omega))).other _ (Or.inr (by omega))).other _ (Or.inr (by omega))).other _ (Or.inr (by omega))).other _ (Or.inr (by omega))
  · exact (((((h6.set _).other _ (Or.inr (by omega))).other _ (Or.inr (by omega))).other _ (Or.inr (by omega))).other _ (Or.inr (by omega))).other _ (Or.inr (by omega))
  · exact (((((h7.other _ (Or.inr (by omega))).set _).other _ (Or.inr (by omega))).other _ (Or.inr (by omega))).other _ (Or.inr (by omega))).other _ (Or.inr (by omega))
  · exact (((((h8.other _ (Or.inr (by omega))).other _ (Or.inr (by omega))).set _).other _ (Or.inr (by omega))).other _ (Or.inr (by omega))).other _ (Or.inr (by omega))
  · exact (((((h9.other _ (Or.inr (by omega))).other _ (Or.inr (by omega))).other _ (Or.inr (by omega))).set _).other _ (Or.inr (by omega))).other _ (Or.inr (by omega))
  · exact (((((h10.other _ (Or.inr (by omega))).other _ (Or.inr (by omega))).other _ (Or.inr (by omega))).other _ (Or.inr (by omega))).set _).other _ (Or.inr (by omega))
  · exact (((((h11.other _ (Or.inr (by omega))).other _ (Or.inr (by omega))).other _ (Or.inr (by omega))).other _ (Or.inr (by omega))).other _ (Or.inr (by omega))).set _
theorem Turned.put12b (w : World) (b : Nat) (u6 u7 u8 u9 u10 u11 : Value) : Turned (fun k => k = b) w ((((((w.setCell ⟨b, 6, none⟩ u6).setCell ⟨b, 7, none⟩ u7).setCell ⟨b, 8, none⟩ u8).setCell ⟨b, 9, none⟩ u9).setCell ⟨b, 10, none⟩ u10).setCell ⟨b, 11, none⟩ u11) :=
  (((((Turned.put w b 6 u6).trans (Turned.put _ b 7 u7)).trans (Turned.put _ b 8 u8)).trans (Turned.put _ b 9 u9)).trans (Turned.put _ b 10 u10)).trans (Turned.put _ b 11 u11)

end Go.Proofs.YtebegmdbpapfgabGreat

namespace Go.Proofs.YtebegmdbpapfgabGreat
open Go.RowKit Go.Maps
set_option linter.unusedVariables false
set_option maxRecDepth 20000 in
set_option maxHeartbeats 400000 in
theorem pairOf_any (v0 v1 v2 v3 u0 u1 u2 u3 : Value) (lo hi : Nat) (S : StoreD) (w : World) (h : StoreAt w lo hi v0 v1 v2 v3 u0 u1 u2 u3 S) :
    Calls Tryz.prog 14 #[storeV v0 v1 v2 v3 u0 u1 u2 u3 S] w fun e w' => e = .returned (storeV v0 v1 v2 v3 u0 u1 u2 u3 S) ∧ Below w.heap.size w w' := by
  obtain ⟨s0a, t0a, s0b, t0b, s0c, t0c, s0d, t0d, rfl, rfl, rfl, rfl⟩ := h.live.form
  obtain ⟨s1a, t1a, s1b, t1b, s1c, t1c, s1d, t1d, rfl, rfl, rfl, rfl⟩ := h.safe.form
  clear h
  have ha := below_alloc w (.cells #[.slice s0a S.live.pool.n t0a, .slice s0b S.live.pool.hn t0b, .int .i64 S.live.time, .int .i64 S.live.next, .slice s0c S.live.sn t0c, .slice s0d S.live.pn t0d, .slice s1a S.safe.pool.n t1a, .slice s1b S.safe.pool.hn t1b, .int .i64 S.safe.time, .int .i64 S.safe.next, .slice s1c S.safe.sn t1c, .slice s1d S.safe.pn t1d] 42)
  have hb := below_alloc (w.alloc (.cells #[.slice s0a S.live.pool.n t0a, .slice s0b S.live.pool.hn t0b, .int .i64 S.live.time, .int .i64 S.live.next, .slice s0c S.live.sn t0c, .slice s0d S.live.pn t0d, .slice s1a S.safe.pool.n t1a, .slice s1b S.safe.pool.hn t1b, .int .i64 S.safe.time, .int .i64 S.safe.next, .slice s1c S.safe.sn t1c, .slice s1d S.safe.pn t1d] 42)) (.cells #[.slice s0a S.live.pool.n t0a, .slice s0b S.live.pool.hn t0b, .int .i64 S.live.time, .int .i64 S.live.next, .slice s0c S.live.sn t0c, .slice s0d S.live.pn t0d, .slice s1a S.safe.pool.n t1a, .slice s1b S.safe.pool.hn t1b, .int .i64 S.safe.time, .int .i64 S.safe.next, .slice s1c S.safe.sn t1c, .slice s1d S.safe.pn t1d] 58)
  obtain ⟨⟨x0, -⟩, ⟨x1, -⟩, ⟨x2, -⟩, ⟨x3, -⟩, ⟨x4, -⟩, ⟨x5, -⟩, ⟨x6, -⟩, ⟨x7, -⟩, ⟨x8, -⟩, ⟨x9, -⟩, ⟨x10, -⟩, ⟨x11, -⟩⟩ := Box12.new w (.slice s0a S.live.pool.n t0a) (.slice s0b S.live.pool.hn t0b) (.int .i64 S.live.time) (.int .i64 S.live.next) (.slice s0c S.live.sn t0c) (.slice s0d S.live.pn t0d) (.slice s1a S.safe.pool.n t1a) (.slice s1b S.safe.pool.hn t1b) (.int .i64 S.safe.time) (.int .i64 S.safe.next) (.slice s1c S.safe.sn t1c) (.slice s1d S.safe.pn t1d) 42
  have hy := Box12.new (w.alloc (.cells #[.slice s0a S.live.pool.n t0a, .slice s0b S.live.pool.hn t0b, .int .i64 S.live.time, .int .i64 S.live.next, .slice s0c S.live.sn t0c, .slice s0d S.live.pn t0d, .slice s1a S.safe.pool.n t1a, .slice s1b S.safe.pool.hn t1b, .int .i64 S.safe.time, .int .i64 S.safe.next, .slice s1c S.safe.sn t1c, .slice s1d S.safe.pn t1d] 42)) (.slice s0a S.live.pool.n t0a) (.slice s0b S.live.pool.hn t0b) (.int .i64 S.live.time) (.int .i64 S.live.next) (.slice s0c S.live.sn t0c) (.slice s0d S.live.pn t0d) (.slice s1a S.safe.pool.n t1a) (.slice s1b S.safe.pool.hn t1b) (.int .i64 S.safe.time) (.int .i64 S.safe.next) (.slice s1c S.safe.sn t1c) (.slice s1d S.safe.pn t1d) 58
  rw [World.size_alloc] at hy
  have HR := hy
  clear hy
  go_enter Tryz.func14, Tryz.ntmps14
  go_wp2
  refine bodyPost_ret (v := .agg #[.slice s0a S.live.pool.n t0a, .slice s0b S.live.pool.hn t0b, .int .i64 S.live.time, .int .i64 S.live.next, .slice s0c S.live.sn t0c, .slice s0d S.live.pn t0d, .slice s1a S.safe.pool.n t1a, .slice s1b S.safe.pool.hn t1b, .int .i64 S.safe.time, .int .i64 S.safe.next, .slice s1c S.safe.sn t1c, .slice s1d S.safe.pn t1d]) (by simp [results, Tryz.results14, go_sem, HR.1.1, HR.2.1.1, HR.2.2.1.1, HR.2.2.2.1.1, HR.2.2.2.2.1.1, HR.2.2.2.2.2.1.1, HR.2.2.2.2.2.2.1.1, HR.2.2.2.2.2.2.2.1.1, HR.2.2.2.2.2.2.2.2.1.1, HR.2.2.2.2.2.2.2.2.2.1.1, HR.2.2.2.2.2.2.2.2.2.2.1.1, HR.2.2.2.2.2.2.2.2.2.2.2.1]) rfl ⟨rfl, ?_⟩
  exact below_next ha hb

end Go.Proofs.YtebegmdbpapfgabGreat

namespace Go.Proofs.YtebegmdbpapfgabGreat
open Go.RowKit
set_option linter.unusedVariables false

/-- A root and a time: those of the snapshot of an id, or none and 0. -/
def AheadIs (W : WorldD) (x s b t : Int) : Prop := (∃ k, x ≠ 0 ∧ SnapNo W x k ∧ s = (W.snaps k).rs ∧ b = (W.snaps k).rb ∧ t = (W.snaps k).time) ∨ ((x = 0 ∨ ∀ k, k < W.pn → (W.snaps k).id ≠ x) ∧ s = 0 ∧ b = 0 ∧ t = 0)

set_option maxRecDepth 20000 in
set_option maxHeartbeats 2000000 in
theorem l04Ahead_any (v0 v1 v2 v3 : Value) (lo hi : Nat) (W : WorldD) (x : Int) (w : World) (h : WorldAt w lo hi v0 v1 v2 v3 W) :
    Calls Tryz.prog 50 #[worldV v0 v1 v2 v3 W, .int .i64 x] w fun e w' => ∃ s b t : Int, e = .returned (.tuple #[.agg #[.int .i64 s, .int .i64 b], .int .i64 t]) ∧ AheadIs W x s b t ∧ Below w.heap.size w w' := by
  have Hp := hideW h
  obtain ⟨m1, a, c, rfl, mc, _⟩ := id h.snaps
  unfold maxLen at m1
  clear h
  have ha := below_alloc w (.cells #[v0, v1, .int .i64 W.time, .int .i64 W.next, v2, .slice a W.pn c] 40)
  have hB := Box6.new w v0 v1 (.int .i64 W.time) (.int .i64 W.next) v2 (.slice a W.pn c) 40
  have ha2 := below_alloc (w.alloc (.cells #[v0, v1, .int .i64 W.time, .int .i64 W.next, v2, .slice a W.pn c] 40)) (.cells #[.int .i64 0, .int .i64 0] 68)
  have hR := Box2.new (w.alloc (.cells #[v0, v1, .int .i64 W.time, .int .i64 W.next, v2, .slice a W.pn c] 40)) (.int .i64 0) (.int .i64 0) 68
  have hB2 := hB.below ha2
  have hb2 := below_next ha ha2
  have hsz : (w.alloc (.cells #[v0, v1, .int .i64 W.time, .int .i64 W.next, v2, .slice a W.pn c] 40)).heap.size = w.heap.size + 1 := World.size_alloc _ _
  rw [hsz] at hR
  clear ha ha2 hB
  go_enter Tryz.func50, Tryz.ntmps50
  go_wp2_with fail
  generalize ((w.alloc (.cells #[v0, v1, .int .i64 W.time, .int .i64 W.next, v2, .slice a W.pn c] 40)).alloc (.cells #[.int .i64 0, .int .i64 0] 68)) = W0 at hR hB2 hb2 ⊢
  refine (l04Snap_any v0 v1 v2 _ lo hi W x W0 (Hp.out.below hb2)).mono ?_
  rintro e w1 ⟨r, rfl, hF, hb1⟩
  have hR1 := hR.below hb1
  have hX1 := hB2.below hb1
  have hbw := below_next hb2 hb1
  clear hR hB2 hb2 hb1 hsz
  have HR := hideW hR1
  have HX := hideW hX1
  clear hR1 hX1
  obtain ⟨⟨y0, y1⟩, ⟨y2, y3⟩⟩ := HR.out
  obtain ⟨⟨x0, x1⟩, ⟨x2, x3⟩, ⟨x4, x5⟩, ⟨x6, x7⟩, ⟨x8, x9⟩, ⟨x10, x11⟩⟩ := HX.out
  by_cases hx : x = 0
  · subst hx
    clear hF
    go_wp2
    refine bodyPost_ret (v := .tuple #[.agg #[.int .i64 0, .int .i64 0], .int .i64 0]) (by simp [results, Tryz.results50, go_sem, y0, y2]) rfl ⟨0, 0, 0, rfl, Or.inr ⟨Or.inl rfl, rfl, rfl, rfl⟩, ?_⟩
    exact (hbw.setCell (by show w.heap.size ≤ w.heap.size + 1; omega) _).setCell (by show w.heap.size ≤ w.heap.size + 1; omega) _
  · have Hx := hideW hx
    have f0 : (x == 0) = false := by simp [hx]
    clear hx
    rcases hF with ⟨k, hk, hi', hm, rfl⟩ | ⟨hn, rfl⟩
    · obtain ⟨b, off, vd, rfl, hs⟩ := (Hp.out.snaps.below hbw).cells hk
      have q4 := hs.c4
      have q5 := hs.c5
      have q6 := hs.c6
      have hk' : (k : Int) < (W.pn : Int) := by omega
      have hlt : b < w.heap.size := by
        obtain ⟨b2, off2, vd2, e2, hs2⟩ := Hp.out.snaps.cells hk
        cases e2
        exact lt_of_cell hs2.c0
      have hne : b ≠ w.heap.size + 1 := by omega
      have hne2 : w.heap.size ≠ w.heap.size + 1 := by omega
      have Hk := hideW (And.intro hi' hm)
      clear hs hi' hm hlt
      have hge : w.heap.size ≤ w.heap.size + 1 := by omega
      generalize w.heap.size + 1 = R at *
      go_wp2
      go_region
      go_wp2
      refine bodyPost_ret (v := .tuple #[.agg #[.int .i64 (W.snaps k).rs, .int .i64 (W.snaps k).rb], .int .i64 (W.snaps k).time]) (by simp [results, Tryz.results50, go_sem, y0, y2]) rfl ⟨_, _, _, rfl, Or.inl ⟨k, Hx.out, ⟨hk, Hk.out.1, Hk.out.2⟩, rfl, rfl, rfl⟩, ?_⟩
      exact ((hbw.setCell hge _).setCell hge _).drew
    · have Hn := hideW hn
      clear hn
      go_wp2
      refine bodyPost_ret (v := .tuple #[.agg #[.int .i64 0, .int .i64 0], .int .i64 0]) (by simp [results, Tryz.results50, go_sem, y0, y2]) rfl ⟨0, 0, 0, rfl, Or.inr ⟨Or.inr Hn.out, rfl, rfl, rfl⟩, ?_⟩
      exact (hbw.setCell (by show w.heap.size ≤ w.heap.size + 1; omega) _).setCell (by show w.heap.size ≤ w.heap.size + 1; omega) _

end Go.Proofs.YtebegmdbpapfgabGreat

namespace Go.Proofs.YtebegmdbpapfgabGreat
open Go.RowKit
set_option linter.unusedVariables false

theorem run_copy_sized {P : Program} (w : World) (dT sT ty elem : TypeId) (size g o dLen dCap : Nat) (a : Addr) (sLen sCap : Nat) (cur : Array Value) (t : TypeId) (cs : List Value)
    (hu : P.underlying dT = some (.slice elem)) (hs : (P.info? elem).map (·.size) = some size)
    (hg : w.heap[g]? = some (.cells cur t (0, 0))) (hn : cs.length = Nat.min sLen dLen * size)
    (hsrc : ∀ j v, cs[j]? = some v → w.cell? (a.add j) = some v) (hfit : o + cs.length ≤ cur.size) (h1 : ∀ v ∈ cs, v.oneCell' = true) :
    (Builtin.copy_ #[dT, sT] ty #[.slice (some ⟨g, o, none⟩) dLen dCap, .slice (some a) sLen sCap]).run P w =
      .ok (goInt (Nat.min sLen dLen)) (w.setRow g (cur.toList.take o ++ cs ++ cur.toList.drop (o + cs.length)).toArray) := by
  have hl := run_loadCells_list (P := P) w a cs hsrc
  have hst := run_storeCells_at P g o t cs 0 cur w hg (by simpa using hfit) h1
  cases hq : P.info? elem with
  | none => simp [hq] at hs
  | some i =>
    have hi : i.size = size := by simpa [hq] using hs
    have e : Nat.min sLen dLen * i.size = cs.length := by rw [hi, hn]
    simp [Builtin.copy_, run_underlying hu, Builtin.lenOf, Builtin.firstCells, sizeOf, typeInfo, hq, e, hl, hst]

theorem run_copy_zero {P : Program} (w : World) (dT sT ty elem : TypeId) (size : Nat) (d a : Option Addr) (dLen dCap sCap : Nat)
    (hu : P.underlying dT = some (.slice elem)) (hs : (P.info? elem).map (·.size) = some size) :
    (Builtin.copy_ #[dT, sT] ty #[.slice d dLen dCap, .slice a 0 sCap]).run P w = .ok (goInt 0) w := by
  cases hq : P.info? elem with
  | none => simp [hq] at hs
  | some i =>
    cases a with
    | none => cases d <;> simp [Builtin.copy_, run_underlying hu, Builtin.lenOf, Builtin.firstCells, sizeOf, typeInfo, hq, storeCells]
    | some a => cases d <;> simp [Builtin.copy_, run_underlying hu, Builtin.lenOf, Builtin.firstCells, sizeOf, typeInfo, hq, storeCells, loadCells, loadCellsFrom]

/-- The number in the cell j of the array of a slot's Kids. -/
def kidCell (s : SlotD) (j : Nat) : Int := if j / 2 < s.kn then (if j % 2 = 0 then s.ks (j / 2) else s.kb (j / 2)) else 0
/-- An array of sixteen numbers. -/
def arr16 (f : Nat → Int) : Array Value := ((List.range 16).map fun j => Value.int .i64 (f j)).toArray
def kidsA (s : SlotD) : Array Value := arr16 (kidCell s)

theorem arr16_size (f : Nat → Int) : (arr16 f).size = 16 := by simp [arr16]
theorem arr16_at (f : Nat → Int) {j : Nat} (h : j < 16) : (arr16 f)[j]? = some (.int .i64 (f j)) := by simp [arr16, h]
theorem arr16_one (f : Nat → Int) : (arr16 f).all (·.oneCell') = true := by
  unfold arr16
  rw [Array.all_eq_true_iff_forall_mem]
  intro v hv
  simp at hv
  obtain ⟨j, _, rfl⟩ := hv
  rfl
theorem arr16_ext {f g : Nat → Int} (h : ∀ j, j < 16 → f j = g j) : arr16 f = arr16 g := by
  unfold arr16
  congr 1
  apply List.map_congr_left
  intro j hj
  rw [h j (by simpa using hj)]

theorem infoArr : (Tryz.prog.info? 160).map (·.size) = some 16 := by kernel_rfl
theorem infoPtrSize : (Tryz.prog.info? 68).map (·.size) = some 2 := by kernel_rfl
theorem arrU : Tryz.prog.underlying 160 = some (.array 8 68) := by kernel_rfl

theorem three_alloc (w : World) (o1 o2 o3 : Obj) : (((w.alloc o1).alloc o2).alloc o3).heap[w.heap.size + 1]? = some o2 ∧ (((w.alloc o1).alloc o2).alloc o3).heap[w.heap.size + 1 + 1]? = some o3 ∧ w.heap.size + 1 + 1 < (((w.alloc o1).alloc o2).alloc o3).heap.size := by
  refine ⟨?_, ?_, by simp⟩
  · rw [Below.heap_alloc _ _ _ (by simp)]
    have := heap_alloc_last (w.alloc o1) o2
    rw [World.size_alloc] at this
    exact this
  · have := heap_alloc_last ((w.alloc o1).alloc o2) o3
    rw [World.size_alloc, World.size_alloc] at this
    exact this

theorem Turned.setRow (w : World) (g : Nat) (cs : Array Value) : Turned (fun k => k = g) w (w.setRow g cs) :=
  ⟨rfl, rfl, rfl, by simp [World.setRow], fun k _ hs => setRow_other w g k cs hs⟩

/-- 'copy' of a slot's Kids (eight, or none) into an array of eight, as one step of a region that draws. -/
theorem step_copy_kids {ops : Array Oper} {o : Oper} {a : Act} {w : World} {K : Act → World → Prop} {Q : Exit → Act → World → Prop} {E : Prop} (hgd : o.guard = none) (d s : Operand)
    (ho : o.op = .call { callee := .builtin .copy, args := #[d, s], argTypes := #[48, 48] })
    (g : Nat) (ka : Option Addr) (kc : Nat) (sl : SlotD) (hd : a.eval d = .slice (some ⟨g, 0, none⟩) 8 8) (hs : a.eval s = .slice ka sl.kn kc)
    (hg : w.heap[g]? = some (.cells (arr16 fun _ => 0) 160 (0, 0))) (hk : sl.kn = 0 ∨ (sl.kn = 8 ∧ ∃ b off, ka = some ⟨b, off, none⟩ ∧ ∀ i, i < sl.kn → w.cell? ⟨b, off + i * 2, none⟩ = some (.int .i64 (sl.ks i)) ∧ w.cell? ⟨b, off + i * 2 + 1, none⟩ = some (.int .i64 (sl.kb i))))
    (h : ∀ w' v, Hid (w'.heap[g]? = some (.cells (kidsA sl) 160 (0, 0))) → Turned (fun k => k = g) w w' → K (a.put o.dst v) w') :
    if Region.wanted o (yielded ops a.tmps) = true then Oper.wp Tryz.prog o a w K Q else E := by
  have hw : Region.wanted o (yielded ops a.tmps) = true := by simp [Region.wanted, hgd]
  rw [if_pos hw]
  have hu : Tryz.prog.underlying 48 = some (.slice 68) := by kernel_rfl
  rcases hk with hk | ⟨hk, b, off, rfl, hc⟩
  · rw [hk] at hs
    have hrun := run_copy_zero (P := Tryz.prog) w 48 48 o.type 68 2 (some ⟨g, 0, none⟩) ka 8 8 kc hu infoPtrSize
    unfold Oper.wp
    simp [execOp, ho, resolve, invoke, builtin, hd, hs, hrun, Result.andThen]
    refine h _ _ ?_ (Turned.refl _ _)
    show _ = _
    rw [hg]
    have : kidsA sl = arr16 (fun _ => 0) := arr16_ext fun j _ => by unfold kidCell; rw [if_neg (by omega)]
    rw [this]
  · rw [hk] at hs
    have hrun := run_copy_sized (P := Tryz.prog) w 48 48 o.type 68 2 g 0 8 8 ⟨b, off, none⟩ 8 kc (arr16 fun _ => 0) 160 (kidsA sl).toList hu infoPtrSize hg (by simp [kidsA, arr16]) (fun j v hj => by
        have hj16 : j < 16 := by
          have := (List.getElem?_eq_some_iff.1 hj).1
          simpa [kidsA, arr16_size] using this
        have e : (kidsA sl).toList[j]? = some (.int .i64 (kidCell sl j)) := by rw [Array.getElem?_toList]; exact arr16_at (kidCell sl) hj16
        rw [e] at hj
        simp only [Option.some.injEq] at hj
        subst hj
        have hadd : (⟨b, off, none⟩ : Addr).add j = ⟨b, off + j, none⟩ := by unfold Addr.add; split <;> simp_all
        rw [hadd]
        unfold kidCell
        rw [if_pos (by omega)]
        have hcj := hc (j / 2) (by omega)
        split
        · rw [show off + j = off + j / 2 * 2 by omega]; exact hcj.1
        · rw [show off + j = off + j / 2 * 2 + 1 by omega]; exact hcj.2) (by simp [kidsA, arr16]) (fun v hv => (Array.all_eq_true_iff_forall_mem.1 (arr16_one _)) v (by simpa [kidsA] using hv))
    unfold Oper.wp
    simp [execOp, ho, resolve, invoke, builtin, hd, hs, hrun, Result.andThen]
    refine h _ _ ?_ (Turned.setRow _ _ _)
    show _ = _
    rw [setRow_heap w g _ _ 160 (0, 0) hg]
    have e0 : ((arr16 fun _ => 0).toList.drop 16) = [] := List.drop_eq_nil_of_le (by simp [arr16])
    simp [kidsA, arr16_size, e0]

set_option maxRecDepth 20000 in
set_option maxHeartbeats 400000 in
theorem kidsOf_any (v0 v1 v2 : Value) (lo hi : Nat) (s : SlotD) (w : World) (h1 : SlotAt w lo hi v0 v1 v2 s) (hk : s.kn = 0 ∨ s.kn = 8) :
    Calls Tryz.prog 124 #[.agg #[v0, v1, v2]] w fun e w' => e = .returned (.agg (kidsA s)) ∧ Below w.heap.size w w' := by
  obtain ⟨rfl, ⟨m1, a, c, rfl, mc, g1⟩, rfl, m2⟩ := h1
  unfold maxLen at m1 m2
  have G1 : Hid (0 < s.kn → ∃ b off, a = some ⟨b, off, none⟩ ∧ lo ≤ b ∧ b < hi ∧ ∀ i, i < s.kn → w.cell? ⟨b, off + i * 2, none⟩ = some (.int .i64 (s.ks i)) ∧ w.cell? ⟨b, off + i * 2 + 1, none⟩ = some (.int .i64 (s.kb i))) := g1
  have Hk : Hid (s.kn = 0 ∨ s.kn = 8) := hk
  clear g1 hk
  go_enter Tryz.func124, Tryz.ntmps124
  go_wp2_with fail
  obtain ⟨W, hW⟩ : ∃ W : World, W = ((w.alloc (.cells #[.int .i64 s.birth, .slice a s.kn c, .string s.data] 50)).alloc (.cells #[Value.int .i64 0, Value.int .i64 0, Value.int .i64 0, Value.int .i64 0, Value.int .i64 0, Value.int .i64 0, Value.int .i64 0, Value.int .i64 0, Value.int .i64 0, Value.int .i64 0, Value.int .i64 0, Value.int .i64 0, Value.int .i64 0, Value.int .i64 0, Value.int .i64 0, Value.int .i64 0] 160)).alloc (.cells #[Value.int .i64 0, Value.int .i64 0, Value.int .i64 0, Value.int .i64 0, Value.int .i64 0, Value.int .i64 0, Value.int .i64 0, Value.int .i64 0, Value.int .i64 0, Value.int .i64 0, Value.int .i64 0, Value.int .i64 0, Value.int .i64 0, Value.int .i64 0, Value.int .i64 0, Value.int .i64 0] 160) := ⟨_, rfl⟩
  have z16 : (#[Value.int .i64 0, Value.int .i64 0, Value.int .i64 0, Value.int .i64 0, Value.int .i64 0, Value.int .i64 0, Value.int .i64 0, Value.int .i64 0, Value.int .i64 0, Value.int .i64 0, Value.int .i64 0, Value.int .i64 0, Value.int .i64 0, Value.int .i64 0, Value.int .i64 0, Value.int .i64 0] : Array Value) = arr16 (fun _ => 0) := rfl
  have hb : Below w.heap.size w W := by rw [hW]; exact below_next (below_next (below_alloc _ _) (below_alloc _ _)) (below_alloc _ _)
  have Hx : Hid (Box3 W w.heap.size (.int .i64 s.birth) (.slice a s.kn c) (.string s.data)) := by rw [hW]; exact ((Box3.new w _ _ _ _).below (below_alloc _ _)).below (below_alloc _ _)
  have HRG := three_alloc w (.cells #[.int .i64 s.birth, .slice a s.kn c, .string s.data] 50) (.cells #[Value.int .i64 0, Value.int .i64 0, Value.int .i64 0, Value.int .i64 0, Value.int .i64 0, Value.int .i64 0, Value.int .i64 0, Value.int .i64 0, Value.int .i64 0, Value.int .i64 0, Value.int .i64 0, Value.int .i64 0, Value.int .i64 0, Value.int .i64 0, Value.int .i64 0, Value.int .i64 0] 160) (.cells #[Value.int .i64 0, Value.int .i64 0, Value.int .i64 0, Value.int .i64 0, Value.int .i64 0, Value.int .i64 0, Value.int .i64 0, Value.int .i64 0, Value.int .i64 0, Value.int .i64 0, Value.int .i64 0, Value.int .i64 0, Value.int .i64 0, Value.int .i64 0, Value.int .i64 0, Value.int .i64 0] 160)
  rw [← hW] at HRG
  have HR : Hid (W.heap[w.heap.size + 1]? = some (.cells (arr16 fun _ => 0) 160 (0, 0))) := HRG.1
  have HG : Hid (W.heap[w.heap.size + 1 + 1]? = some (.cells (arr16 fun _ => 0) 160 (0, 0))) := HRG.2.1
  have hsz : w.heap.size + 1 + 1 < W.heap.size := HRG.2.2
  clear HRG
  have HC : Hid (s.kn = 0 ∨ (s.kn = 8 ∧ ∃ b off, a = some ⟨b, off, none⟩ ∧ ∀ i, i < s.kn → W.cell? ⟨b, off + i * 2, none⟩ = some (.int .i64 (s.ks i)) ∧ W.cell? ⟨b, off + i * 2 + 1, none⟩ = some (.int .i64 (s.kb i)))) := by
    rcases Hk.out with h | h
    · exact Or.inl h
    · obtain ⟨b, off, ha, _, _, k1⟩ := G1.out (by omega)
      exact Or.inr ⟨h, b, off, ha, fun i hi => ⟨(hb.cell (lt_of_cell (k1 i hi).1)).trans (k1 i hi).1, (hb.cell (lt_of_cell (k1 i hi).2)).trans (k1 i hi).2⟩⟩
  rw [← hW]
  clear hW z16
  obtain ⟨⟨x0, x1⟩, ⟨x2, x3⟩, ⟨x4, x5⟩⟩ := Hx.out
  go_region_law (refine step_copy_kids rfl (.tmp 4) (.tmp 6) rfl (w.heap.size + 1 + 1) a c s (by simp [Act.eval]) (by simp [Act.eval]) HG.out HC.out ?_; intro w1 cv HG1 ht1)
  have hR1 : w1.heap[w.heap.size + 1]? = some (.cells (arr16 fun _ => 0) 160 (0, 0)) := (ht1.block _ (by show _ < W.heap.size; omega) (by omega)).trans HR.out
  have HR1 : Hid (w1.heap[w.heap.size + 1]? = some (.cells (arr16 fun _ => 0) 160 (0, 0))) := hR1
  have hb1 : Below w.heap.size w w1 := hb.drew.trans (ht1.below (by show _ ≤ W.heap.size; omega) (by intro k hk; omega))
  clear hR1 ht1 x0 x1 x2 x3 x4 x5
  have hi16 : (Tryz.prog.info? 160).map (·.size) = some (kidsA s).size := by rw [kidsA, arr16_size]; exact infoArr
  have Hi16 : Hid ((Tryz.prog.info? 160).map (·.size) = some (kidsA s).size) := hi16
  clear hi16
  go_wp2_with (first
    | (refine wpList_load_row rfl 160 (.tmp 3) rfl (w.heap.size + 1 + 1) rfl 160 (kidsA s) (0, 0) _ HG1.out arrU rfl Hi16.out ?_)
    | (refine wpList_store_row rfl 160 (.tmp 2) (.tmp 8) rfl (w.heap.size + 1) (kidsA s) rfl rfl 160 (arr16 fun _ => 0) HR1.out Hi16.out (by rw [kidsA, arr16_size, arr16_size]) (arr16_one _) ?_))
  refine bodyPost_ret (v := .agg (kidsA s)) (results_cell_row (P := Tryz.prog) (ty := 160) Tryz.results124 _ _ (w.heap.size + 1) 160 (kidsA s) (0, 0) _ rfl (setRow_heap _ _ _ _ _ _ HR1.out) arrU rfl Hi16.out) rfl ⟨rfl, ?_⟩
  exact below_setRow hb1 (by omega) _

def KidFound (n : Nat) (f : Nat → SlotD) (b ks kb rs rb : Int) : Prop :=
  ∃ ps pb, PtrOf n f ks ps pb ∧ (((PtrEq ks kb 0 0 ∨ b < pb) ∧ rs = 0 ∧ rb = 0) ∨ (¬ (PtrEq ks kb 0 0 ∨ b < pb) ∧ rs = ps ∧ rb = pb))

set_option maxRecDepth 20000 in
set_option maxHeartbeats 400000 in
theorem kidFound_any (v : Value) (n lo hi : Nat) (f : Nat → SlotD) (ks kb b : Int) (w : World) (h1 : SlotsAt w lo hi v n f) :
    Calls Tryz.prog 125 #[v, .agg #[.int .i64 ks, .int .i64 kb], .int .i64 b] w fun e w' => (∃ rs rb, e = .returned (.agg #[.int .i64 rs, .int .i64 rb]) ∧ KidFound n f b ks kb rs rb) ∧ Below w.heap.size w w' := by
  have Hi : Hid (SlotsAt w lo hi v n f) := h1
  obtain ⟨m1, a, c, rfl, mc, g1⟩ := h1
  clear g1
  have Hbw : Hid (Below w.heap.size w ((w.alloc (.cells #[.int .i64 ks, .int .i64 kb] 68)).alloc (.cells #[.int .i64 0, .int .i64 0] 68))) := below_next (below_alloc _ _) (below_alloc _ _)
  go_enter Tryz.func125, Tryz.ntmps125
  go_wp2_with fail
  refine (ptrOf_any _ n lo hi f _ _ (Hi.out.below Hbw.out)).mono ?_
  rintro e w1 ⟨⟨ps, pb, rfl, hp⟩, hb1⟩
  have Hp : Hid (PtrOf n f ks ps pb) := hp
  have HX : Hid (Box2 w1 w.heap.size (.int .i64 ks) (.int .i64 kb)) := ((Box2.new w _ _ _).below (below_alloc _ _)).below hb1
  have HR : Hid (Box2 w1 (w.heap.size + 1) (.int .i64 0) (.int .i64 0)) := by
    have := (Box2.new (w.alloc (.cells #[.int .i64 ks, .int .i64 kb] 68)) (.int .i64 0) (.int .i64 0) 68).below hb1
    rw [World.size_alloc] at this
    exact this
  have hbn := below_next Hbw.out hb1
  have hz : w.heap.size < w1.heap.size := HX.out.1.lt
  have hz1 : w.heap.size + 1 < w1.heap.size := HR.out.1.lt
  clear hp hb1
  obtain ⟨⟨x0, x1⟩, ⟨x2, x3⟩⟩ := HX.out
  obtain ⟨⟨y0, y1⟩, ⟨y2, y3⟩⟩ := HR.out
  have HY := fun u0 u1 => (HR.out.put u0 u1).below (below_alloc _ (.cells #[.int .i64 ps, .int .i64 pb] 68))
  have HYh : Hid (∀ u0 u1, Box2 (((w1.setCell ⟨w.heap.size + 1, 0, none⟩ u0).setCell ⟨w.heap.size + 1, 1, none⟩ u1).alloc (.cells #[.int .i64 ps, .int .i64 pb] 68)) (w.heap.size + 1) u0 u1) := HY
  clear HY
  have HBh : Hid (∀ u0 u1, Below w.heap.size w (((w1.setCell ⟨w.heap.size + 1, 0, none⟩ u0).setCell ⟨w.heap.size + 1, 1, none⟩ u1).alloc (.cells #[.int .i64 ps, .int .i64 pb] 68))) := fun u0 u1 => ((hbn.setCell (by show _ ≤ w.heap.size + 1; omega) _).setCell (by show _ ≤ w.heap.size + 1; omega) _).alloc (by simp; omega) _
  by_cases hnone : PtrEq ks kb 0 0
  · obtain ⟨rfl, rfl⟩ := hnone
    have HK : Hid (KidFound n f b 0 0 0 0) := ⟨ps, pb, Hp.out, Or.inl ⟨Or.inl ⟨rfl, rfl⟩, rfl, rfl⟩⟩
    go_wp2
    have hy := HYh.out (.int .i64 0) (.int .i64 0)
    refine bodyPost_ret (v := .agg #[.int .i64 0, .int .i64 0]) (by simp [results, Tryz.results125, go_sem, hy.1.1, hy.2.1]) rfl ⟨⟨_, _, rfl, HK.out⟩, HBh.out _ _⟩
  · have HN : Hid (¬ PtrEq ks kb 0 0) := hnone
    have e0 : (ks == 0) = false ∨ (ks == 0) = true ∧ (kb == 0) = false := by
      by_cases h : ks = 0
      · right
        refine ⟨by simp [h], ?_⟩
        have : kb ≠ 0 := fun h' => hnone ⟨h, h'⟩
        simp [this]
      · left; simp [h]
    clear hnone
    by_cases hlt : b < pb
    · have HK : Hid (KidFound n f b ks kb 0 0) := ⟨ps, pb, Hp.out, Or.inl ⟨Or.inr hlt, rfl, rfl⟩⟩
      have hy := HYh.out (.int .i64 0) (.int .i64 0)
      have Hy : Hid (Box2 (((w1.setCell ⟨w.heap.size + 1, 0, none⟩ (.int .i64 0)).setCell ⟨w.heap.size + 1, 1, none⟩ (.int .i64 0)).alloc (.cells #[.int .i64 ps, .int .i64 pb] 68)) (w.heap.size + 1) (.int .i64 0) (.int .i64 0)) := hy
      clear hy
      rcases e0 with e0 | ⟨e0, e1⟩
      all_goals
        go_wp2
        have hy := Hy.out
        refine bodyPost_ret (v := .agg #[.int .i64 0, .int .i64 0]) (by simp [results, Tryz.results125, go_sem, hy.1.1, hy.2.1]) rfl ⟨⟨_, _, rfl, HK.out⟩, HBh.out _ _⟩
    · have HK : Hid (KidFound n f b ks kb ps pb) := ⟨ps, pb, Hp.out, Or.inr ⟨fun h => by rcases h with h | h; exact HN.out h; exact hlt h, rfl, rfl⟩⟩
      rcases e0 with e0 | ⟨e0, e1⟩
      all_goals
        go_wp2
        have hy := HYh.out (.int .i64 ps) (.int .i64 pb)
        refine bodyPost_ret (v := .agg #[.int .i64 ps, .int .i64 pb]) (by simp [results, Tryz.results125, go_sem, hy.1.1, hy.2.1]) rfl ⟨⟨_, _, rfl, HK.out⟩, HBh.out _ _⟩

end Go.Proofs.YtebegmdbpapfgabGreat
