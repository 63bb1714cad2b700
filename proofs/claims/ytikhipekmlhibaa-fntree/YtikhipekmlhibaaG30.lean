/- What the draws DrawPoolTake, DrawPoolAt and DrawPoolHold leave. -/
import Derived.Test.YtikhipekmlhibaaG12
import Derived.Test.YtikhipekmlhibaaG29
import Derived.Test.YtikhipekmlhibaaG25
namespace Go.Proofs.Ytikhipekmlhibaa
open Go.RowKit
set_option linter.unusedVariables false

/-- The answer is a new pool and a new slot. -/
def NewPoolSlot (w : World) (e : Ending) (w' : World) : Prop :=
  ∃ q s v0 v1 kv kb, e = .returned (.tuple #[.agg #[v0, v1], .agg #[.int .i64 s.birth, kv, .string s.data]]) ∧ PoolOwn w' w.heap.size w'.heap.size v0 v1 q ∧ PtrsOwn w' kb kv s.kn s.ks s.kb ∧ (0 < s.kn → w.heap.size ≤ kb ∧ kb < w'.heap.size) ∧ PoolB 12 21 q ∧ SlotB s ∧ Below w.heap.size w w'

/-- The answer is a new pool and a pointer. -/
def NewPoolPtr (w : World) (e : Ending) (w' : World) : Prop :=
  ∃ q v0 v1 ps pb, e = .returned (.tuple #[.agg #[v0, v1], .agg #[.int .i64 ps, .int .i64 pb]]) ∧ PoolOwn w' w.heap.size w'.heap.size v0 v1 q ∧ PoolB 12 21 q ∧ Below w.heap.size w w'

theorem turned_new {w wx : World} {B : Nat} (h : Turned (fun k => k = B) w wx) {w0 : World} (hb : Below w0.heap.size w0 w) (hB : w0.heap.size ≤ B) : Below w0.heap.size w0 wx :=
  hb.trans (h.below hb.size (fun k hk => by omega))

set_option maxRecDepth 20000 in
set_option maxHeartbeats 2000000 in
theorem drawPoolTake_any (a : Option Addr) (n c : Nat) (w : World) (hb : BytesAt w w.heap.size a n) (hn : n ≤ 1048576) (hnc : n ≤ c) :
    Calls Try.prog 6 #[.slice a n c] w (NewPoolSlot w) := by
  have ha := below_next (below_alloc w (.cells #[.slice none 0 0, .slice none 0 0] 26)) (below_alloc _ (.cells #[.int .i64 0, .slice none 0 0, .string ⟨#[]⟩] 29))
  have HP := hide ((Box2.new w (.slice none 0 0) (.slice none 0 0) 26).below (below_alloc _ (.cells #[.int .i64 0, .slice none 0 0, .string ⟨#[]⟩] 29)))
  have hs := Box3.new (w.alloc (.cells #[.slice none 0 0, .slice none 0 0] 26)) (.int .i64 0) (.slice none 0 0) (.string ⟨#[]⟩) 29
  rw [World.size_alloc] at hs
  have HS := hide hs
  clear hs
  go_enter Try.func6, Try.ntmps6
  go_wp2_with fail
  generalize hW : (w.alloc (.cells #[.slice none 0 0, .slice none 0 0] 26)).alloc (.cells #[.int .i64 0, .slice none 0 0, .string ⟨#[]⟩] 29) = W at ha HP HS ⊢
  have hz : W.heap.size = w.heap.size + 2 := by rw [← hW, World.size_alloc, World.size_alloc]
  clear hW
  refine (source_any a n c W (fun h0 => by
    obtain ⟨b, off, e, hbb, hc⟩ := hb h0
    refine ⟨b, off, e, by omega, fun i hi => ?_⟩
    obtain ⟨x, hx, g0, g1⟩ := hc i hi
    exact ⟨x, (ha.cell (lt_of_cell hx)).trans hx, g0, g1⟩) hn hnc).mono ?_
  rintro e w1 ⟨⟨B, rfl, hs1, hB⟩, hb1⟩
  have Hs1 := hide hs1
  have HB1 := hide (below_next ha hb1)
  have HP1 := hide (HP.out.below hb1)
  have HS1 := hide (HS.out.below hb1)
  have hBl := hs1.lt
  clear hs1 hb1 HP HS ha hb
  go_wp2_with fail
  refine (pool_any B w1 Hs1.out).mono ?_
  rintro e w2 ⟨q, v0, v1, rfl, ho2, hq, hs2, ht2⟩
  obtain ⟨qa, qc, qa', qc', rfl, rfl⟩ := ho2.form
  have Hq := hide hq
  have hqn : q.n ≤ 12 := hq.2.1
  have hbx := below_alloc w2 (.cells #[.slice qa q.n qc, .slice qa' q.hn qc'] 26)
  have HX := hide (Box2.new w2 (.slice qa q.n qc) (.slice qa' q.hn qc') 26)
  have Ho := hide (ho2.below hbx)
  have Hs2 := hide (hs2.below hbx)
  have HB2 := hide (below_next (turned_new ht2 HB1.out (by omega)) hbx)
  have HP2 := hide ((HP1.out.turned ht2 (by omega)).below hbx)
  have HS2 := hide ((HS1.out.turned ht2 (by omega)).below hbx)
  have hz2 : w1.heap.size ≤ w2.heap.size := ht2.size
  have hz3 : (w2.alloc (.cells #[.slice qa q.n qc, .slice qa' q.hn qc'] 26)).heap.size = w2.heap.size + 1 := World.size_alloc _ _
  clear ho2 hs2 ht2 hbx Hs1 HB1 HP1 HS1 hq
  obtain ⟨⟨x0, x1⟩, ⟨x2, x3⟩⟩ := HX.out
  obtain ⟨⟨y0, y1⟩, ⟨y2, y3⟩⟩ := HP2.out
  obtain ⟨⟨z0, z1⟩, ⟨z2, z3⟩, ⟨z4, z5⟩⟩ := HS2.out
  go_wp2_with fail
  generalize w2.alloc (.cells #[.slice qa q.n qc, .slice qa' q.hn qc'] 26) = wx at HX Ho Hs2 HB2 HP2 HS2 hz3 x0 x1 x2 x3 y0 y1 y2 y3 z0 z1 z2 z3 z4 z5 ⊢
  go_region_with (first
    | (go_at_call 41
       refine (some_any B w1.heap.size w2.heap.size _ _ q _ ?_ ?_ hBl ?_ (by omega)).mono ?_
       (first | exact Hs2.out | exact Hs2.out.below (Below.refl _ _).drew)
       (first | exact Ho.out.at | exact Ho.out.at.below (Below.refl _ _).drew)
       (first | omega | (show w2.heap.size ≤ wx.heap.size; omega))
       rintro e w3 ⟨s, kv, kb, rfl, hks, hpl, hk9, hd17, hs3, ht3⟩
       obtain ⟨_, ka, kc, rfl, _⟩ := id hks
       replace hpl : 0 < s.kn → wx.heap.size ≤ kb ∧ kb < w3.heap.size := hpl
       have hT3 : Turned (fun k => k = B) wx w3 := (by first | exact ht3 | exact turned_undrew ht3)
       have hX3 := HX.out.turned hT3 (by omega)
       have k0 := hX3.1.1
       have k1 := hX3.2.1
       have hP3 := HP2.out.turned hT3 (by omega)
       have k2 := hP3.1.1
       have k3 := hP3.1.2
       have k4 := hP3.2.1
       have k5 := hP3.2.2
       have hS3 := HS2.out.turned hT3 (by omega)
       have k6 := hS3.1.1
       have k7 := hS3.1.2
       have k8 := hS3.2.1.1
       have k9 := hS3.2.1.2
       have k10 := hS3.2.2.1
       have k11 := hS3.2.2.2))
  all_goals
    have hz4 := hT3.size
    have ho3 := Ho.out.turned hT3 (fun k hk => by omega)
    have hb3 := turned_new hT3 HB2.out (by omega)
    have tA := put2_turned w3 w.heap.size (.slice qa q.n qc) (.slice qa' q.hn qc')
    have tB := put3_turned ((w3.setCell ⟨w.heap.size, 0, none⟩ (.slice qa q.n qc)).setCell ⟨w.heap.size, 1, none⟩ (.slice qa' q.hn qc')) (w.heap.size + 1) (.int .i64 s.birth) (.slice ka s.kn kc) (.string s.data)
    have hA := tA.size
    have hBz := tB.size
    have HPf := hide ((hP3.put (.slice qa q.n qc) (.slice qa' q.hn qc')).turned tB (by omega))
    have HSf := hide ((hS3.turned tA (by omega)).put (.int .i64 s.birth) (.slice ka s.kn kc) (.string s.data))
    have Hof := hide (((ho3.turned tA (fun k hk => by omega)).turned tB (fun k hk => by omega)).wide (lo' := w.heap.size) (hi' := (((((w3.setCell ⟨w.heap.size, 0, none⟩ (.slice qa q.n qc)).setCell ⟨w.heap.size, 1, none⟩ (.slice qa' q.hn qc')).setCell ⟨w.heap.size + 1, 0, none⟩ (.int .i64 s.birth)).setCell ⟨w.heap.size + 1, 1, none⟩ (.slice ka s.kn kc)).setCell ⟨w.heap.size + 1, 2, none⟩ (.string s.data)).heap.size) (by omega) (by omega))
    have Hkf := hide ((hks.turned tA (fun h0 e => by have := hpl h0; omega)).turned tB (fun h0 e => by have := hpl h0; omega))
    have Hbf := hide ((hb3.trans (tA.below (by have := hb3.size; omega) (fun k hk => by omega))).trans (tB.below (by have := hb3.size; omega) (fun k hk => by omega)))
    have Hpl := hide hpl
    clear ho3 hb3 tA tB hks hpl
    go_wp2
    exact bodyPost_ret (v := .tuple #[.agg #[.slice qa q.n qc, .slice qa' q.hn qc'], .agg #[.int .i64 s.birth, .slice ka s.kn kc, .string s.data]]) (by simp [results, Try.results6, go_sem, HPf.out.1.1, HPf.out.2.1, HSf.out.1.1, HSf.out.2.1.1, HSf.out.2.2.1]) rfl ⟨q, s, _, _, _, kb, rfl, Hof.out, Hkf.out, fun h0 => by have := Hpl.out h0; omega, Hq.out, ⟨hk9, hd17⟩, Hbf.out⟩

set_option maxRecDepth 20000 in
set_option maxHeartbeats 2000000 in
theorem drawPoolAt_any (a : Option Addr) (n c : Nat) (w : World) (hb : BytesAt w w.heap.size a n) (hn : n ≤ 1048576) (hnc : n ≤ c) :
    Calls Try.prog 55 #[.slice a n c] w (NewPoolPtr w) := by
  have ha := below_next (below_alloc w (.cells #[.slice none 0 0, .slice none 0 0] 26)) (below_alloc _ (.cells #[.int .i64 0, .int .i64 0] 33))
  have HP := hide ((Box2.new w (.slice none 0 0) (.slice none 0 0) 26).below (below_alloc _ (.cells #[.int .i64 0, .int .i64 0] 33)))
  have hs := Box2.new (w.alloc (.cells #[.slice none 0 0, .slice none 0 0] 26)) (.int .i64 0) (.int .i64 0) 33
  rw [World.size_alloc] at hs
  have HS := hide hs
  clear hs
  go_enter Try.func55, Try.ntmps55
  go_wp2_with fail
  generalize hW : (w.alloc (.cells #[.slice none 0 0, .slice none 0 0] 26)).alloc (.cells #[.int .i64 0, .int .i64 0] 33) = W at ha HP HS ⊢
  have hz : W.heap.size = w.heap.size + 2 := by rw [← hW, World.size_alloc, World.size_alloc]
  clear hW
  refine (source_any a n c W (fun h0 => by
    obtain ⟨b, off, e, hbb, hc⟩ := hb h0
    refine ⟨b, off, e, by omega, fun i hi => ?_⟩
    obtain ⟨x, hx, g0, g1⟩ := hc i hi
    exact ⟨x, (ha.cell (lt_of_cell hx)).trans hx, g0, g1⟩) hn hnc).mono ?_
  rintro e w1 ⟨⟨B, rfl, hs1, hB⟩, hb1⟩
  have Hs1 := hide hs1
  have HB1 := hide (below_next ha hb1)
  have HP1 := hide (HP.out.below hb1)
  have HS1 := hide (HS.out.below hb1)
  have hBl := hs1.lt
  clear hs1 hb1 HP HS ha hb
  go_wp2_with fail
  refine (pool_any B w1 Hs1.out).mono ?_
  rintro e w2 ⟨q, v0, v1, rfl, ho2, hq, hs2, ht2⟩
  obtain ⟨qa, qc, qa', qc', rfl, rfl⟩ := ho2.form
  have Hq := hide hq
  have hqn : q.n ≤ 12 := hq.2.1
  have hbx := below_alloc w2 (.cells #[.slice qa q.n qc, .slice qa' q.hn qc'] 26)
  have HX := hide (Box2.new w2 (.slice qa q.n qc) (.slice qa' q.hn qc') 26)
  have Ho := hide (ho2.below hbx)
  have Hs2 := hide (hs2.below hbx)
  have HB2 := hide (below_next (turned_new ht2 HB1.out (by omega)) hbx)
  have HP2 := hide ((HP1.out.turned ht2 (by omega)).below hbx)
  have HS2 := hide ((HS1.out.turned ht2 (by omega)).below hbx)
  have hz2 : w1.heap.size ≤ w2.heap.size := ht2.size
  have hz3 : (w2.alloc (.cells #[.slice qa q.n qc, .slice qa' q.hn qc'] 26)).heap.size = w2.heap.size + 1 := World.size_alloc _ _
  clear ho2 hs2 ht2 hbx Hs1 HB1 HP1 HS1 hq
  obtain ⟨⟨x0, x1⟩, ⟨x2, x3⟩⟩ := HX.out
  obtain ⟨⟨y0, y1⟩, ⟨y2, y3⟩⟩ := HP2.out
  obtain ⟨⟨z0, z1⟩, ⟨z2, z3⟩⟩ := HS2.out
  go_wp2_with fail
  generalize w2.alloc (.cells #[.slice qa q.n qc, .slice qa' q.hn qc'] 26) = wx at HX Ho Hs2 HB2 HP2 HS2 hz3 x0 x1 x2 x3 y0 y1 y2 y3 z0 z1 z2 z3 ⊢
  go_region_with (first
    | (go_at_call 97
       refine (ptr_any B w1.heap.size w2.heap.size _ _ q _ ?_ ?_ hBl ?_ (by omega)).mono ?_
       (first | exact Hs2.out | exact Hs2.out.below (Below.refl _ _).drew)
       (first | exact Ho.out.at | exact Ho.out.at.below (Below.refl _ _).drew)
       (first | omega | (show w2.heap.size ≤ wx.heap.size; omega))
       rintro e w3 ⟨⟨ps, pb, rfl⟩, hs3, ht3⟩
       have hT3 : Turned (fun k => k = B) wx w3 := (by first | exact ht3 | exact turned_undrew ht3)
       have hX3 := HX.out.turned hT3 (by omega)
       have k0 := hX3.1.1
       have k1 := hX3.2.1
       have hP3 := HP2.out.turned hT3 (by omega)
       have k2 := hP3.1.1
       have k3 := hP3.1.2
       have k4 := hP3.2.1
       have k5 := hP3.2.2
       have hS3 := HS2.out.turned hT3 (by omega)
       have k6 := hS3.1.1
       have k7 := hS3.1.2
       have k8 := hS3.2.1
       have k9 := hS3.2.2))
  all_goals
    have hz4 := hT3.size
    have ho3 := Ho.out.turned hT3 (fun k hk => by omega)
    have hb3 := turned_new hT3 HB2.out (by omega)
    have tA := put2_turned w3 w.heap.size (.slice qa q.n qc) (.slice qa' q.hn qc')
    have tB := put2_turned ((w3.setCell ⟨w.heap.size, 0, none⟩ (.slice qa q.n qc)).setCell ⟨w.heap.size, 1, none⟩ (.slice qa' q.hn qc')) (w.heap.size + 1) (.int .i64 ps) (.int .i64 pb)
    have hA := tA.size
    have hBz := tB.size
    have HPf := hide ((hP3.put (.slice qa q.n qc) (.slice qa' q.hn qc')).turned tB (by omega))
    have HSf := hide ((hS3.turned tA (by omega)).put (.int .i64 ps) (.int .i64 pb))
    have Hof := hide (((ho3.turned tA (fun k hk => by omega)).turned tB (fun k hk => by omega)).wide (lo' := w.heap.size) (hi' := ((((w3.setCell ⟨w.heap.size, 0, none⟩ (.slice qa q.n qc)).setCell ⟨w.heap.size, 1, none⟩ (.slice qa' q.hn qc')).setCell ⟨w.heap.size + 1, 0, none⟩ (.int .i64 ps)).setCell ⟨w.heap.size + 1, 1, none⟩ (.int .i64 pb)).heap.size) (by omega) (by omega))
    have Hbf := hide ((hb3.trans (tA.below (by have := hb3.size; omega) (fun k hk => by omega))).trans (tB.below (by have := hb3.size; omega) (fun k hk => by omega)))
    clear ho3 hb3 tA tB
    go_wp2
    exact bodyPost_ret (v := .tuple #[.agg #[.slice qa q.n qc, .slice qa' q.hn qc'], .agg #[.int .i64 ps, .int .i64 pb]]) (by simp [results, Try.results55, go_sem, HPf.out.1.1, HPf.out.2.1, HSf.out.1.1, HSf.out.2.1]) rfl ⟨q, _, _, ps, pb, rfl, Hof.out, Hq.out, Hbf.out⟩

set_option maxRecDepth 20000 in
set_option maxHeartbeats 2000000 in
theorem drawPoolHold_any (a : Option Addr) (n c : Nat) (w : World) (hb : BytesAt w w.heap.size a n) (hn : n ≤ 1048576) (hnc : n ≤ c) :
    Calls Try.prog 15 #[.slice a n c] w (NewPoolPtr w) := by
  have ha := below_next (below_alloc w (.cells #[.slice none 0 0, .slice none 0 0] 26)) (below_alloc _ (.cells #[.int .i64 0, .int .i64 0] 33))
  have HP := hide ((Box2.new w (.slice none 0 0) (.slice none 0 0) 26).below (below_alloc _ (.cells #[.int .i64 0, .int .i64 0] 33)))
  have hs := Box2.new (w.alloc (.cells #[.slice none 0 0, .slice none 0 0] 26)) (.int .i64 0) (.int .i64 0) 33
  rw [World.size_alloc] at hs
  have HS := hide hs
  clear hs
  go_enter Try.func15, Try.ntmps15
  go_wp2_with fail
  generalize hW : (w.alloc (.cells #[.slice none 0 0, .slice none 0 0] 26)).alloc (.cells #[.int .i64 0, .int .i64 0] 33) = W at ha HP HS ⊢
  have hz : W.heap.size = w.heap.size + 2 := by rw [← hW, World.size_alloc, World.size_alloc]
  clear hW
  refine (drawPoolAt_any a n c W (fun h0 => by
    obtain ⟨b, off, e, hbb, hc⟩ := hb h0
    refine ⟨b, off, e, by omega, fun i hi => ?_⟩
    obtain ⟨x, hx, g0, g1⟩ := hc i hi
    exact ⟨x, (ha.cell (lt_of_cell hx)).trans hx, g0, g1⟩) hn hnc).mono ?_
  rintro e w3 ⟨q, v0, v1, ps, pb, rfl, ho, hq, hb3⟩
  obtain ⟨qa, qc, qa', qc', rfl, rfl⟩ := ho.form
  have hP3 := HP.out.below hb3
  have hS3 := HS.out.below hb3
  have hz3 := hb3.size
  have tA := put2_turned w3 w.heap.size (.slice qa q.n qc) (.slice qa' q.hn qc')
  have tB := put2_turned ((w3.setCell ⟨w.heap.size, 0, none⟩ (.slice qa q.n qc)).setCell ⟨w.heap.size, 1, none⟩ (.slice qa' q.hn qc')) (w.heap.size + 1) (.int .i64 ps) (.int .i64 pb)
  have hA := tA.size
  have hBz := tB.size
  have HPf := hide ((hP3.put (.slice qa q.n qc) (.slice qa' q.hn qc')).turned tB (by omega))
  have HSf := hide ((hS3.turned tA (by omega)).put (.int .i64 ps) (.int .i64 pb))
  have Hof := hide (((ho.turned tA (fun k hk => by omega)).turned tB (fun k hk => by omega)).wide (lo' := w.heap.size) (hi' := ((((w3.setCell ⟨w.heap.size, 0, none⟩ (.slice qa q.n qc)).setCell ⟨w.heap.size, 1, none⟩ (.slice qa' q.hn qc')).setCell ⟨w.heap.size + 1, 0, none⟩ (.int .i64 ps)).setCell ⟨w.heap.size + 1, 1, none⟩ (.int .i64 pb)).heap.size) (by omega) (by omega))
  have hbw := below_next ha hb3
  have Hbf := hide ((hbw.trans (tA.below (by have := hbw.size; omega) (fun k hk => by omega))).trans (tB.below (by have := hbw.size; omega) (fun k hk => by omega)))
  have Hq := hide hq
  clear tA tB hbw ho hq
  obtain ⟨⟨y0, y1⟩, ⟨y2, y3⟩⟩ := hP3
  obtain ⟨⟨z0, z1⟩, ⟨z2, z3⟩⟩ := hS3
  go_wp2
  exact bodyPost_ret (v := .tuple #[.agg #[.slice qa q.n qc, .slice qa' q.hn qc'], .agg #[.int .i64 ps, .int .i64 pb]]) (by simp [results, Try.results15, go_sem, HPf.out.1.1, HPf.out.2.1, HSf.out.1.1, HSf.out.2.1]) rfl ⟨q, _, _, ps, pb, rfl, Hof.out, Hq.out, Hbf.out⟩

end Go.Proofs.Ytikhipekmlhibaa

namespace Go.Proofs.Ytikhipekmlhibaa
open Go Go.RowKit
set_option linter.unusedVariables false

/-- The answer is a new pool, a pointer, a page's number and a birth; a text with these. -/
def NewTrimArgs (w : World) (e : Ending) (w' : World) : Prop :=
  ∃ q v0 v1 rs rb pg bt, e = .returned (.tuple #[.agg #[v0, v1], .agg #[.int .i64 rs, .int .i64 rb], .int .i64 pg, .int .i64 bt]) ∧ PoolOwn w' w.heap.size w'.heap.size v0 v1 q ∧ poolN q ≤ 5000 ∧ Below w.heap.size w w'
def NewWriteArgs (w : World) (e : Ending) (w' : World) : Prop :=
  ∃ q v0 v1 rs rb pg d bt, e = .returned (.tuple #[.agg #[v0, v1], .agg #[.int .i64 rs, .int .i64 rb], .int .i64 pg, .string d, .int .i64 bt]) ∧ PoolOwn w' w.heap.size w'.heap.size v0 v1 q ∧ poolN q ≤ 5000 ∧ Below w.heap.size w w'

set_option maxRecDepth 20000 in
set_option maxHeartbeats 4000000 in
theorem drawTreeTrim_any (a : Option Addr) (n c : Nat) (w : World) (hb : BytesAt w w.heap.size a n) (hn : n ≤ 1048576) (hnc : n ≤ c) :
    Calls Try.prog 28 #[.slice a n c] w (NewTrimArgs w) := by
  have ha := below_next (below_alloc w (.cells #[.slice none 0 0, .slice none 0 0] 26)) (below_alloc _ (.cells #[.int .i64 0, .int .i64 0] 33))
  have HP := hideT ((Box2.new w (.slice none 0 0) (.slice none 0 0) 26).below (below_alloc _ (.cells #[.int .i64 0, .int .i64 0] 33)))
  have hs := Box2.new (w.alloc (.cells #[.slice none 0 0, .slice none 0 0] 26)) (.int .i64 0) (.int .i64 0) 33
  rw [World.size_alloc] at hs
  have HS := hideT hs
  clear hs
  go_enter Try.func28, Try.ntmps28
  go_wp2_with fail
  generalize hW : (w.alloc (.cells #[.slice none 0 0, .slice none 0 0] 26)).alloc (.cells #[.int .i64 0, .int .i64 0] 33) = W at ha HP HS ⊢
  have hz : W.heap.size = w.heap.size + 2 := by rw [← hW, World.size_alloc, World.size_alloc]
  clear hW
  refine (source_any a n c W (fun h0 => by
    obtain ⟨b, off, e, hbb, hc⟩ := hb h0
    refine ⟨b, off, e, by omega, fun i hi => ?_⟩
    obtain ⟨x, hx, g0, g1⟩ := hc i hi
    exact ⟨x, (ha.cell (lt_of_cell hx)).trans hx, g0, g1⟩) hn hnc).mono ?_
  rintro e w1 ⟨⟨B, rfl, hs1, hB⟩, hb1⟩
  have Hs1 := hideT hs1
  have HB1 := hideT (below_next ha hb1)
  have HP1 := hideT (HP.out.below hb1)
  have HS1 := hideT (HS.out.below hb1)
  have hBl := hs1.lt
  clear hs1 hb1 HP HS ha hb
  go_wp2_with fail
  refine (tree_any B w1 Hs1.out).mono ?_
  rintro e w2 ⟨q, v0, v1, rs, rb, rfl, ho2, hqN, hs2, ht2⟩
  obtain ⟨qa, qc, qa', qc', rfl, rfl⟩ := ho2.form
  have b1 := below_alloc w2 (.cells #[.slice qa q.n qc, .slice qa' q.hn qc'] 26)
  have b2 := below_alloc (w2.alloc (.cells #[.slice qa q.n qc, .slice qa' q.hn qc'] 26)) (.cells #[.int .i64 rs, .int .i64 rb] 33)
  have hbx := below_next b1 b2
  have HX2 := hideT ((Box2.new w2 (.slice qa q.n qc) (.slice qa' q.hn qc') 26).below b2)
  have hy2 := Box2.new (w2.alloc (.cells #[.slice qa q.n qc, .slice qa' q.hn qc'] 26)) (.int .i64 rs) (.int .i64 rb) 33
  rw [World.size_alloc] at hy2
  have HY2 := hideT hy2
  have Ho2 := hideT (ho2.below hbx)
  have Hs2 := hideT (hs2.below hbx)
  have HB2 := hideT (below_next (turned_new ht2 HB1.out (by omega)) hbx)
  have HP2 := hideT ((HP1.out.turned ht2 (by omega)).below hbx)
  have HS2 := hideT ((HS1.out.turned ht2 (by omega)).below hbx)
  have hz2 : w1.heap.size ≤ w2.heap.size := ht2.size
  have hz3 : ((w2.alloc (.cells #[.slice qa q.n qc, .slice qa' q.hn qc'] 26)).alloc (.cells #[.int .i64 rs, .int .i64 rb] 33)).heap.size = w2.heap.size + 2 := by rw [World.size_alloc, World.size_alloc]
  clear ho2 hs2 ht2 b1 b2 hbx hy2 Hs1 HB1 HP1 HS1
  go_upto_region 3 with fail
  generalize (w2.alloc (.cells #[.slice qa q.n qc, .slice qa' q.hn qc'] 26)).alloc (.cells #[.int .i64 rs, .int .i64 rb] 33) = wx at HX2 HY2 Ho2 Hs2 HB2 HP2 HS2 hz3 ⊢
  go_wp2_with fail
  refine (number_any B wx Hs2.out).mono ?_
  rintro e w3 ⟨⟨pg, rfl⟩, hs3, ht3⟩
  have HX3 := hideT (HX2.out.turned ht3 (by omega))
  have HY3 := hideT (HY2.out.turned ht3 (by omega))
  have HP3 := hideT (HP2.out.turned ht3 (by omega))
  have HS3 := hideT (HS2.out.turned ht3 (by omega))
  have Ho3 := hideT (Ho2.out.turned ht3 (fun k hk => by omega))
  have HB3 := hideT (turned_new ht3 HB2.out (by omega))
  have Hs3 := hideT hs3
  have hzz3 := ht3.size
  clear hs3 ht3 HX2 HY2 HP2 HS2 Ho2 HB2 Hs2
  obtain ⟨⟨x0, x1⟩, ⟨x2, x3⟩⟩ := HX3.out
  obtain ⟨⟨v0, v1⟩, ⟨v2, v3⟩⟩ := HY3.out
  obtain ⟨⟨y0, y1⟩, ⟨y2, y3⟩⟩ := HP3.out
  obtain ⟨⟨z0, z1⟩, ⟨z2, z3⟩⟩ := HS3.out
  go_wp2_with fail
  go_region_with (first
    | (go_at_call 67
       refine (birth_any B _ ?_).mono ?_
       (first | exact Hs3.out | exact Hs3.out.below (Below.refl _ _).drew)
       rintro e w9 ⟨⟨bt, rfl⟩, hs9, ht9⟩
       have hT9 : Turned (fun k => k = B) w3 w9 := (by first | exact ht9 | exact turned_undrew ht9)
       have hX9 := HX3.out.turned hT9 (by omega)
       have k0 := hX9.1.1
       have k1 := hX9.2.1
       have hY9 := HY3.out.turned hT9 (by omega)
       have k10 := hY9.1.1
       have k11 := hY9.2.1
       have hP9 := HP3.out.turned hT9 (by omega)
       have k2 := hP9.1.1
       have k3 := hP9.1.2
       have k4 := hP9.2.1
       have k5 := hP9.2.2
       have hS9 := HS3.out.turned hT9 (by omega)
       have k6 := hS9.1.1
       have k7 := hS9.1.2
       have k8 := hS9.2.1
       have k9 := hS9.2.2))
  all_goals
    have hz9 := hT9.size
    have ho9 := Ho3.out.turned hT9 (fun k hk => by omega)
    have hb9 := turned_new hT9 HB3.out (by omega)
    have tA := put2_turned w9 w.heap.size (.slice qa q.n qc) (.slice qa' q.hn qc')
    have tB := put2_turned ((w9.setCell ⟨w.heap.size, 0, none⟩ (.slice qa q.n qc)).setCell ⟨w.heap.size, 1, none⟩ (.slice qa' q.hn qc')) (w.heap.size + 1) (.int .i64 rs) (.int .i64 rb)
    have hA := tA.size
    have hBz := tB.size
    have HPf := hideT ((hP9.put (.slice qa q.n qc) (.slice qa' q.hn qc')).turned tB (by omega))
    have HSf := hideT ((hS9.turned tA (by omega)).put (.int .i64 rs) (.int .i64 rb))
    have Hof := hideT (((ho9.turned tA (fun k hk => by omega)).turned tB (fun k hk => by omega)).wide (lo' := w.heap.size) (hi' := ((((w9.setCell ⟨w.heap.size, 0, none⟩ (.slice qa q.n qc)).setCell ⟨w.heap.size, 1, none⟩ (.slice qa' q.hn qc')).setCell ⟨w.heap.size + 1, 0, none⟩ (.int .i64 rs)).setCell ⟨w.heap.size + 1, 1, none⟩ (.int .i64 rb)).heap.size) (by omega) (by omega))
    have Hbf := hideT ((hb9.trans (tA.below (by have := hb9.size; omega) (fun k hk => by omega))).trans (tB.below (by have := hb9.size; omega) (fun k hk => by omega)))
    clear ho9 hb9 tA tB
    go_wp2
    exact bodyPost_ret (v := .tuple #[.agg #[.slice qa q.n qc, .slice qa' q.hn qc'], .agg #[.int .i64 rs, .int .i64 rb], .int .i64 pg, .int .i64 bt]) (by simp [results, Try.results28, go_sem, HPf.out.1.1, HPf.out.2.1, HSf.out.1.1, HSf.out.2.1]) rfl ⟨q, _, _, rs, rb, pg, bt, rfl, Hof.out, hqN, Hbf.out⟩

set_option maxRecDepth 20000 in
set_option maxHeartbeats 4000000 in
theorem drawTreeWrite_any (a : Option Addr) (n c : Nat) (w : World) (hb : BytesAt w w.heap.size a n) (hn : n ≤ 1048576) (hnc : n ≤ c) :
    Calls Try.prog 20 #[.slice a n c] w (NewWriteArgs w) := by
  have ha := below_next (below_alloc w (.cells #[.slice none 0 0, .slice none 0 0] 26)) (below_alloc _ (.cells #[.int .i64 0, .int .i64 0] 33))
  have HP := hideT ((Box2.new w (.slice none 0 0) (.slice none 0 0) 26).below (below_alloc _ (.cells #[.int .i64 0, .int .i64 0] 33)))
  have hs := Box2.new (w.alloc (.cells #[.slice none 0 0, .slice none 0 0] 26)) (.int .i64 0) (.int .i64 0) 33
  rw [World.size_alloc] at hs
  have HS := hideT hs
  clear hs
  go_enter Try.func20, Try.ntmps20
  go_wp2_with fail
  generalize hW : (w.alloc (.cells #[.slice none 0 0, .slice none 0 0] 26)).alloc (.cells #[.int .i64 0, .int .i64 0] 33) = W at ha HP HS ⊢
  have hz : W.heap.size = w.heap.size + 2 := by rw [← hW, World.size_alloc, World.size_alloc]
  clear hW
  refine (source_any a n c W (fun h0 => by
    obtain ⟨b, off, e, hbb, hc⟩ := hb h0
    refine ⟨b, off, e, by omega, fun i hi => ?_⟩
    obtain ⟨x, hx, g0, g1⟩ := hc i hi
    exact ⟨x, (ha.cell (lt_of_cell hx)).trans hx, g0, g1⟩) hn hnc).mono ?_
  rintro e w1 ⟨⟨B, rfl, hs1, hB⟩, hb1⟩
  have Hs1 := hideT hs1
  have HB1 := hideT (below_next ha hb1)
  have HP1 := hideT (HP.out.below hb1)
  have HS1 := hideT (HS.out.below hb1)
  have hBl := hs1.lt
  clear hs1 hb1 HP HS ha hb
  go_wp2_with fail
  refine (tree_any B w1 Hs1.out).mono ?_
  rintro e w2 ⟨q, v0, v1, rs, rb, rfl, ho2, hqN, hs2, ht2⟩
  obtain ⟨qa, qc, qa', qc', rfl, rfl⟩ := ho2.form
  have b1 := below_alloc w2 (.cells #[.slice qa q.n qc, .slice qa' q.hn qc'] 26)
  have b2 := below_alloc (w2.alloc (.cells #[.slice qa q.n qc, .slice qa' q.hn qc'] 26)) (.cells #[.int .i64 rs, .int .i64 rb] 33)
  have hbx := below_next b1 b2
  have HX2 := hideT ((Box2.new w2 (.slice qa q.n qc) (.slice qa' q.hn qc') 26).below b2)
  have hy2 := Box2.new (w2.alloc (.cells #[.slice qa q.n qc, .slice qa' q.hn qc'] 26)) (.int .i64 rs) (.int .i64 rb) 33
  rw [World.size_alloc] at hy2
  have HY2 := hideT hy2
  have Ho2 := hideT (ho2.below hbx)
  have Hs2 := hideT (hs2.below hbx)
  have HB2 := hideT (below_next (turned_new ht2 HB1.out (by omega)) hbx)
  have HP2 := hideT ((HP1.out.turned ht2 (by omega)).below hbx)
  have HS2 := hideT ((HS1.out.turned ht2 (by omega)).below hbx)
  have hz2 : w1.heap.size ≤ w2.heap.size := ht2.size
  have hz3 : ((w2.alloc (.cells #[.slice qa q.n qc, .slice qa' q.hn qc'] 26)).alloc (.cells #[.int .i64 rs, .int .i64 rb] 33)).heap.size = w2.heap.size + 2 := by rw [World.size_alloc, World.size_alloc]
  clear ho2 hs2 ht2 b1 b2 hbx hy2 Hs1 HB1 HP1 HS1
  go_upto_region 3 with fail
  generalize (w2.alloc (.cells #[.slice qa q.n qc, .slice qa' q.hn qc'] 26)).alloc (.cells #[.int .i64 rs, .int .i64 rb] 33) = wx at HX2 HY2 Ho2 Hs2 HB2 HP2 HS2 hz3 ⊢
  go_wp2_with fail
  refine (number_any B wx Hs2.out).mono ?_
  rintro e w3 ⟨⟨pg, rfl⟩, hs3, ht3⟩
  have HX3 := hideT (HX2.out.turned ht3 (by omega))
  have HY3 := hideT (HY2.out.turned ht3 (by omega))
  have HP3 := hideT (HP2.out.turned ht3 (by omega))
  have HS3 := hideT (HS2.out.turned ht3 (by omega))
  have Ho3 := hideT (Ho2.out.turned ht3 (fun k hk => by omega))
  have HB3 := hideT (turned_new ht3 HB2.out (by omega))
  have Hs3 := hideT hs3
  have hzz3 := ht3.size
  clear hs3 ht3 HX2 HY2 HP2 HS2 Ho2 HB2 Hs2
  go_wp2_with fail
  refine (data_any B w3 Hs3.out).mono ?_
  rintro e w4 ⟨⟨d, rfl, hd16⟩, hs4, ht4⟩
  have HX4 := hideT (HX3.out.turned ht4 (by omega))
  have HY4 := hideT (HY3.out.turned ht4 (by omega))
  have HP4 := hideT (HP3.out.turned ht4 (by omega))
  have HS4 := hideT (HS3.out.turned ht4 (by omega))
  have Ho4 := hideT (Ho3.out.turned ht4 (fun k hk => by omega))
  have HB4 := hideT (turned_new ht4 HB3.out (by omega))
  have Hs4 := hideT hs4
  have hzz4 := ht4.size
  clear hs4 ht4 HX3 HY3 HP3 HS3 Ho3 HB3 Hs3
  go_wp2_with fail
  refine (one_any B 15 w4 Hs4.out (by omega)).mono ?_
  rintro e w5 ⟨⟨t5, rfl⟩, hs5, ht5⟩
  have HX5 := hideT (HX4.out.turned ht5 (by omega))
  have HY5 := hideT (HY4.out.turned ht5 (by omega))
  have HP5 := hideT (HP4.out.turned ht5 (by omega))
  have HS5 := hideT (HS4.out.turned ht5 (by omega))
  have Ho5 := hideT (Ho4.out.turned ht5 (fun k hk => by omega))
  have HB5 := hideT (turned_new ht5 HB4.out (by omega))
  have Hs5 := hideT hs5
  have hzz5 := ht5.size
  clear hs5 ht5 HX4 HY4 HP4 HS4 Ho4 HB4 Hs4
  cases t5
  · obtain ⟨⟨x0, x1⟩, ⟨x2, x3⟩⟩ := HX5.out
    obtain ⟨⟨v0, v1⟩, ⟨v2, v3⟩⟩ := HY5.out
    obtain ⟨⟨y0, y1⟩, ⟨y2, y3⟩⟩ := HP5.out
    obtain ⟨⟨z0, z1⟩, ⟨z2, z3⟩⟩ := HS5.out
    go_wp2_with fail
    go_region_with (first
      | (go_at_call 67
         refine (birth_any B _ ?_).mono ?_
         (first | exact Hs5.out | exact Hs5.out.below (Below.refl _ _).drew)
         rintro e w9 ⟨⟨bt, rfl⟩, hs9, ht9⟩
         have hT9 : Turned (fun k => k = B) w5 w9 := (by first | exact ht9 | exact turned_undrew ht9)
         have hX9 := HX5.out.turned hT9 (by omega)
         have k0 := hX9.1.1
         have k1 := hX9.2.1
         have hY9 := HY5.out.turned hT9 (by omega)
         have k10 := hY9.1.1
         have k11 := hY9.2.1
         have hP9 := HP5.out.turned hT9 (by omega)
         have k2 := hP9.1.1
         have k3 := hP9.1.2
         have k4 := hP9.2.1
         have k5 := hP9.2.2
         have hS9 := HS5.out.turned hT9 (by omega)
         have k6 := hS9.1.1
         have k7 := hS9.1.2
         have k8 := hS9.2.1
         have k9 := hS9.2.2))
    all_goals
      have hz9 := hT9.size
      have ho9 := Ho5.out.turned hT9 (fun k hk => by omega)
      have hb9 := turned_new hT9 HB5.out (by omega)
      have tA := put2_turned w9 w.heap.size (.slice qa q.n qc) (.slice qa' q.hn qc')
      have tB := put2_turned ((w9.setCell ⟨w.heap.size, 0, none⟩ (.slice qa q.n qc)).setCell ⟨w.heap.size, 1, none⟩ (.slice qa' q.hn qc')) (w.heap.size + 1) (.int .i64 rs) (.int .i64 rb)
      have hA := tA.size
      have hBz := tB.size
      have HPf := hideT ((hP9.put (.slice qa q.n qc) (.slice qa' q.hn qc')).turned tB (by omega))
      have HSf := hideT ((hS9.turned tA (by omega)).put (.int .i64 rs) (.int .i64 rb))
      have Hof := hideT (((ho9.turned tA (fun k hk => by omega)).turned tB (fun k hk => by omega)).wide (lo' := w.heap.size) (hi' := ((((w9.setCell ⟨w.heap.size, 0, none⟩ (.slice qa q.n qc)).setCell ⟨w.heap.size, 1, none⟩ (.slice qa' q.hn qc')).setCell ⟨w.heap.size + 1, 0, none⟩ (.int .i64 rs)).setCell ⟨w.heap.size + 1, 1, none⟩ (.int .i64 rb)).heap.size) (by omega) (by omega))
      have Hbf := hideT ((hb9.trans (tA.below (by have := hb9.size; omega) (fun k hk => by omega))).trans (tB.below (by have := hb9.size; omega) (fun k hk => by omega)))
      clear ho9 hb9 tA tB
      go_wp2
      exact bodyPost_ret (v := .tuple #[.agg #[.slice qa q.n qc, .slice qa' q.hn qc'], .agg #[.int .i64 rs, .int .i64 rb], .int .i64 pg, .string d, .int .i64 bt]) (by simp [results, Try.results20, go_sem, HPf.out.1.1, HPf.out.2.1, HSf.out.1.1, HSf.out.2.1]) rfl ⟨q, _, _, rs, rb, pg, d, bt, rfl, Hof.out, hqN, Hbf.out⟩
  · go_wp2_with fail
    refine (n_any B 18 w5 Hs5.out (by omega)).mono ?_
    rintro e w6 ⟨⟨r6, rfl, h60, h61⟩, hs6, ht6⟩
    obtain ⟨m6, rfl⟩ := Int.eq_ofNat_of_zero_le h60
    have HX6 := hideT (HX5.out.turned ht6 (by omega))
    have HY6 := hideT (HY5.out.turned ht6 (by omega))
    have HP6 := hideT (HP5.out.turned ht6 (by omega))
    have HS6 := hideT (HS5.out.turned ht6 (by omega))
    have Ho6 := hideT (Ho5.out.turned ht6 (fun k hk => by omega))
    have HB6 := hideT (turned_new ht6 HB5.out (by omega))
    have Hs6 := hideT hs6
    have hzz6 := ht6.size
    clear hs6 ht6 HX5 HY5 HP5 HS5 Ho5 HB5 Hs5
    go_wp2_with fail
    refine (bytes_any B m6 w6 Hs6.out (by omega)).mono ?_
    rintro e w7 ⟨⟨d7, rfl⟩, hs7, ht7⟩
    have HX7 := hideT (HX6.out.turned ht7 (by omega))
    have HY7 := hideT (HY6.out.turned ht7 (by omega))
    have HP7 := hideT (HP6.out.turned ht7 (by omega))
    have HS7 := hideT (HS6.out.turned ht7 (by omega))
    have Ho7 := hideT (Ho6.out.turned ht7 (fun k hk => by omega))
    have HB7 := hideT (turned_new ht7 HB6.out (by omega))
    have Hs7 := hideT hs7
    have hzz7 := ht7.size
    clear hs7 ht7 HX6 HY6 HP6 HS6 Ho6 HB6 Hs6
    obtain ⟨⟨x0, x1⟩, ⟨x2, x3⟩⟩ := HX7.out
    obtain ⟨⟨v0, v1⟩, ⟨v2, v3⟩⟩ := HY7.out
    obtain ⟨⟨y0, y1⟩, ⟨y2, y3⟩⟩ := HP7.out
    obtain ⟨⟨z0, z1⟩, ⟨z2, z3⟩⟩ := HS7.out
    go_wp2_with fail
    go_region_with (first
      | (go_at_call 67
         refine (birth_any B _ ?_).mono ?_
         (first | exact Hs7.out | exact Hs7.out.below (Below.refl _ _).drew)
         rintro e w9 ⟨⟨bt, rfl⟩, hs9, ht9⟩
         have hT9 : Turned (fun k => k = B) w7 w9 := (by first | exact ht9 | exact turned_undrew ht9)
         have hX9 := HX7.out.turned hT9 (by omega)
         have k0 := hX9.1.1
         have k1 := hX9.2.1
         have hY9 := HY7.out.turned hT9 (by omega)
         have k10 := hY9.1.1
         have k11 := hY9.2.1
         have hP9 := HP7.out.turned hT9 (by omega)
         have k2 := hP9.1.1
         have k3 := hP9.1.2
         have k4 := hP9.2.1
         have k5 := hP9.2.2
         have hS9 := HS7.out.turned hT9 (by omega)
         have k6 := hS9.1.1
         have k7 := hS9.1.2
         have k8 := hS9.2.1
         have k9 := hS9.2.2))
    all_goals
      have hz9 := hT9.size
      have ho9 := Ho7.out.turned hT9 (fun k hk => by omega)
      have hb9 := turned_new hT9 HB7.out (by omega)
      have tA := put2_turned w9 w.heap.size (.slice qa q.n qc) (.slice qa' q.hn qc')
      have tB := put2_turned ((w9.setCell ⟨w.heap.size, 0, none⟩ (.slice qa q.n qc)).setCell ⟨w.heap.size, 1, none⟩ (.slice qa' q.hn qc')) (w.heap.size + 1) (.int .i64 rs) (.int .i64 rb)
      have hA := tA.size
      have hBz := tB.size
      have HPf := hideT ((hP9.put (.slice qa q.n qc) (.slice qa' q.hn qc')).turned tB (by omega))
      have HSf := hideT ((hS9.turned tA (by omega)).put (.int .i64 rs) (.int .i64 rb))
      have Hof := hideT (((ho9.turned tA (fun k hk => by omega)).turned tB (fun k hk => by omega)).wide (lo' := w.heap.size) (hi' := ((((w9.setCell ⟨w.heap.size, 0, none⟩ (.slice qa q.n qc)).setCell ⟨w.heap.size, 1, none⟩ (.slice qa' q.hn qc')).setCell ⟨w.heap.size + 1, 0, none⟩ (.int .i64 rs)).setCell ⟨w.heap.size + 1, 1, none⟩ (.int .i64 rb)).heap.size) (by omega) (by omega))
      have Hbf := hideT ((hb9.trans (tA.below (by have := hb9.size; omega) (fun k hk => by omega))).trans (tB.below (by have := hb9.size; omega) (fun k hk => by omega)))
      clear ho9 hb9 tA tB
      go_wp2
      exact bodyPost_ret (v := .tuple #[.agg #[.slice qa q.n qc, .slice qa' q.hn qc'], .agg #[.int .i64 rs, .int .i64 rb], .int .i64 pg, .string d7, .int .i64 bt]) (by simp [results, Try.results20, go_sem, HPf.out.1.1, HPf.out.2.1, HSf.out.1.1, HSf.out.2.1]) rfl ⟨q, _, _, rs, rb, pg, d7, bt, rfl, Hof.out, hqN, Hbf.out⟩

end Go.Proofs.Ytikhipekmlhibaa

namespace Go.Proofs.Ytikhipekmlhibaa
open Go Go.RowKit
set_option linter.unusedVariables false

theorem mem_slotsL {l : List (Int × Int)} {x : Int} : x ∈ slotsL l ↔ ∃ y, (x, y) ∈ l := by
  unfold slotsL
  rw [List.mem_map]
  constructor
  · rintro ⟨⟨a, b⟩, h, rfl⟩
    exact ⟨b, h⟩
  · rintro ⟨y, h⟩
    exact ⟨(x, y), h, rfl⟩
theorem mem_slots_one {xs xb x : Int} : x ∈ slotsL (one xs xb) ↔ x = xs ∧ ¬ Nil xs xb := by
  rw [mem_slotsL]
  constructor
  · rintro ⟨y, h⟩
    obtain ⟨e, hn⟩ := mem_one.1 h
    simp only [Prod.mk.injEq] at e
    exact ⟨e.1, hn⟩
  · rintro ⟨rfl, hn⟩
    exact ⟨xb, mem_one.2 ⟨rfl, hn⟩⟩
theorem mem_slots_kids {ks kb : Nat → Int} {k : Nat} {x : Int} : x ∈ slotsL (kidsUp ks kb k) ↔ ∃ i, i < k ∧ x = ks i ∧ ¬ Nil (ks i) (kb i) := by
  rw [mem_slotsL]
  constructor
  · rintro ⟨y, h⟩
    obtain ⟨i, hi, e, hn⟩ := mem_kidsUp.1 h
    simp only [Prod.mk.injEq] at e
    exact ⟨i, hi, e.1, hn⟩
  · rintro ⟨i, hi, rfl, hn⟩
    exact ⟨kb i, mem_kidsUp.2 ⟨i, hi, rfl, hn⟩⟩
theorem one_nodup (xs xb : Int) : (slotsL (one xs xb)).Nodup := by
  unfold one slotsL
  split <;> simp
theorem kidsUp_nodup {ks kb : Nat → Int} : ∀ {k : Nat}, (slotsL (kidsUp ks kb k)).Nodup ↔ ∀ i, i < k → ∀ j, j < i → ¬ Nil (ks i) (kb i) → ¬ Nil (ks j) (kb j) → ks j ≠ ks i
  | 0 => by simp [kidsUp, slotsL]
  | k + 1 => by
    rw [kidsUp, slotsL_append, List.nodup_append, kidsUp_nodup (k := k)]
    constructor
    · rintro ⟨h1, _, h2⟩ i hi j hj ni nj
      by_cases e : i = k
      · subst e
        exact h2 _ (mem_slots_kids.2 ⟨j, hj, rfl, nj⟩) _ (mem_slots_one.2 ⟨rfl, ni⟩)
      · exact h1 i (by omega) j hj ni nj
    · intro h
      refine ⟨fun i hi j hj => h i (by omega) j hj, one_nodup _ _, fun a ha b hb => ?_⟩
      obtain ⟨j, hj, rfl, nj⟩ := mem_slots_kids.1 ha
      obtain ⟨rfl, nk⟩ := mem_slots_one.1 hb
      exact h k (Nat.lt_succ_self k) j hj nk nj
theorem subUp_nodup {p : PoolD} {s : SlotD} : ∀ {k : Nat}, (slotsL (subUp p s k)).Nodup ↔ (∀ i, i < k → (slotsL (midL p (kidS s i) (kidB s i))).Nodup) ∧ ∀ i, i < k → ∀ j, j < i → ∀ x, x ∈ slotsL (midL p (kidS s j) (kidB s j)) → ∀ y, y ∈ slotsL (midL p (kidS s i) (kidB s i)) → x ≠ y
  | 0 => by simp [subUp, slotsL]
  | k + 1 => by
    rw [subUp, slotsL_append, List.nodup_append, subUp_nodup (k := k)]
    constructor
    · rintro ⟨⟨h1, h2⟩, h3, h4⟩
      refine ⟨fun i hi => ?_, fun i hi j hj x hx y hy => ?_⟩
      · by_cases e : i = k
        · subst e; exact h3
        · exact h1 i (by omega)
      · by_cases e : i = k
        · subst e
          obtain ⟨z, hz⟩ := mem_slotsL.1 hx
          exact h4 x (mem_slotsL.2 ⟨z, mem_subUp.2 ⟨j, hj, hz⟩⟩) y hy
        · exact h2 i (by omega) j hj x hx y hy
    · rintro ⟨h1, h2⟩
      refine ⟨⟨fun i hi => h1 i (by omega), fun i hi => h2 i (by omega)⟩, h1 k (Nat.lt_succ_self k), fun a ha b hb => ?_⟩
      obtain ⟨z, hz⟩ := mem_slotsL.1 ha
      obtain ⟨j, hj, hz2⟩ := mem_subUp.1 hz
      exact h2 k (Nat.lt_succ_self k) j hj a (mem_slotsL.2 ⟨z, hz2⟩) b hb

theorem node_page {p : PoolD} {x xb y yb : Int} (h : NodeAt p x xb) (h' : PageAt p y yb) : x ≠ y := fun e => by
  subst e
  have := h.2.1
  have := h'.2.1
  omega
theorem node_not_nil {p : PoolD} {x xb : Int} (h : NodeAt p x xb) : ¬ Nil x xb := fun e => by
  have := h.1.1
  have := e.2
  omega
theorem page_not_nil {p : PoolD} {x xb : Int} (h : PageAt p x xb) : ¬ Nil x xb := fun e => by
  have := h.1.1
  have := e.2
  omega
/-- A root is none of its nodes. -/
theorem root_node {p : PoolD} {rs : Int} (hT : TopOk p (p.s rs.toNat)) {i : Nat} (hi : i < 8) (hn : ¬ Nil (kidS (p.s rs.toNat) i) (kidB (p.s rs.toNat) i)) : kidS (p.s rs.toNat) i ≠ rs := fun e => by
  have h1 := (hT.1 i hi).resolve_left hn
  rw [e] at h1
  obtain ⟨j, hj, nj⟩ := hT.2
  have h2 := ((hT.1 j hj).resolve_left nj).1
  have h3 := (h1.2.1 j hj).resolve_left nj
  exact node_page h2 h3 rfl

/-- No two nodes are one, and no two pages. -/
def Apos (p : PoolD) (s : SlotD) : Prop :=
  (∀ i, i < 8 → ∀ j, j < 8 → ¬ Nil (kidS s i) (kidB s i) → ¬ Nil (kidS s j) (kidB s j) → kidS s j = kidS s i → j = i) ∧
  ∀ i, i < 8 → ∀ j, j < 8 → ∀ a, a < 8 → ∀ c, c < 8 → ¬ Nil (kidS s i) (kidB s i) → ¬ Nil (kidS s j) (kidB s j) →
    ¬ Nil (kidS (p.s (kidS s i).toNat) a) (kidB (p.s (kidS s i).toNat) a) → ¬ Nil (kidS (p.s (kidS s j).toNat) c) (kidB (p.s (kidS s j).toNat) c) →
    kidS (p.s (kidS s j).toNat) c = kidS (p.s (kidS s i).toNat) a → j = i ∧ c = a
theorem slots_mid {p : PoolD} {xs xb x : Int} : x ∈ slotsL (midL p xs xb) ↔ ¬ Nil xs xb ∧ (x = xs ∨ ∃ a, a < 8 ∧ x = kidS (p.s xs.toNat) a ∧ ¬ Nil (kidS (p.s xs.toNat) a) (kidB (p.s xs.toNat) a)) := by
  unfold midL
  by_cases h : Nil xs xb
  · rw [if_pos h]; simp [slotsL, h]
  · rw [if_neg h]
    show x ∈ xs :: slotsL (lowL (p.s xs.toNat)) ↔ _
    rw [List.mem_cons]
    unfold lowL
    rw [mem_slots_kids]
    exact ⟨fun hh => ⟨h, hh⟩, fun hh => hh.2⟩
theorem tree_nodup {p : PoolD} {rs rb : Int} (hN : NodeAt p rs rb) (hT : TopOk p (p.s rs.toNat)) : (slotsL (treeL p rs rb)).Nodup ↔ Apos p (p.s rs.toNat) := by
  have hz := node_not_nil hN
  have hnode : ∀ i, i < 8 → ¬ Nil (kidS (p.s rs.toNat) i) (kidB (p.s rs.toNat) i) → NodeAt p (kidS (p.s rs.toNat) i) (kidB (p.s rs.toNat) i) := fun i hi hn => ((hT.1 i hi).resolve_left hn).1
  have hpage : ∀ i, i < 8 → ¬ Nil (kidS (p.s rs.toNat) i) (kidB (p.s rs.toNat) i) → ∀ a, a < 8 → ¬ Nil (kidS (p.s (kidS (p.s rs.toNat) i).toNat) a) (kidB (p.s (kidS (p.s rs.toNat) i).toNat) a) → PageAt p (kidS (p.s (kidS (p.s rs.toNat) i).toNat) a) (kidB (p.s (kidS (p.s rs.toNat) i).toNat) a) := fun i hi hn a ha na => (((hT.1 i hi).resolve_left hn).2.1 a ha).resolve_left na
  unfold treeL
  rw [if_neg hz]
  show (rs :: slotsL (subUp p (p.s rs.toNat) 8)).Nodup ↔ _
  rw [List.nodup_cons, subUp_nodup]
  constructor
  · rintro ⟨_, h1, h2⟩
    refine ⟨fun i hi j hj ni nj e => ?_, fun i hi j hj a ha c hc ni nj na nc e => ?_⟩
    · rcases Nat.lt_trichotomy j i with h | h | h
      · exact absurd e (h2 i hi j h _ (slots_mid.2 ⟨nj, Or.inl rfl⟩) _ (slots_mid.2 ⟨ni, Or.inl rfl⟩))
      · exact h
      · exact absurd e.symm (h2 j hj i h _ (slots_mid.2 ⟨ni, Or.inl rfl⟩) _ (slots_mid.2 ⟨nj, Or.inl rfl⟩))
    · rcases Nat.lt_trichotomy j i with h | h | h
      · exact absurd e (h2 i hi j h _ (slots_mid.2 ⟨nj, Or.inr ⟨c, hc, rfl, nc⟩⟩) _ (slots_mid.2 ⟨ni, Or.inr ⟨a, ha, rfl, na⟩⟩))
      · subst h
        refine ⟨rfl, ?_⟩
        have h3 := h1 j hj
        unfold midL at h3
        rw [if_neg nj] at h3
        have h4 : (slotsL (lowL (p.s (kidS (p.s rs.toNat) j).toNat))).Nodup := (List.nodup_cons.1 h3).2
        unfold lowL at h4
        rw [kidsUp_nodup] at h4
        rcases Nat.lt_trichotomy c a with h | h | h
        · exact absurd e (h4 a ha c h na nc)
        · exact h
        · exact absurd e.symm (h4 c hc a h nc na)
      · exact absurd e.symm (h2 j hj i h _ (slots_mid.2 ⟨ni, Or.inr ⟨a, ha, rfl, na⟩⟩) _ (slots_mid.2 ⟨nj, Or.inr ⟨c, hc, rfl, nc⟩⟩))
  · rintro ⟨h1, h2⟩
    refine ⟨fun hm => ?_, fun i hi => ?_, fun i hi j hj x hx y hy e => ?_⟩
    · obtain ⟨z, hz⟩ := mem_slotsL.1 hm
      obtain ⟨i, hi, hx⟩ := mem_subUp.1 hz
      obtain ⟨ni, h | ⟨a, ha, h, na⟩⟩ := slots_mid.1 (mem_slotsL.2 ⟨z, hx⟩)
      · exact root_node hT hi ni h.symm
      · exact node_page hN (hpage i hi ni a ha na) h
    · by_cases ni : Nil (kidS (p.s rs.toNat) i) (kidB (p.s rs.toNat) i)
      · unfold midL
        rw [if_pos ni]
        simp [slotsL]
      · unfold midL
        rw [if_neg ni]
        show (kidS (p.s rs.toNat) i :: slotsL (lowL _)).Nodup
        rw [List.nodup_cons]
        unfold lowL
        refine ⟨fun hm => ?_, ?_⟩
        · obtain ⟨a, ha, h, na⟩ := mem_slots_kids.1 hm
          exact node_page (hnode i hi ni) (hpage i hi ni a ha na) h
        · rw [kidsUp_nodup]
          intro a ha c hc na nc e
          have := (h2 i hi i hi a ha c (by omega) ni ni na nc e).2
          omega
    · have hj8 : j < 8 := by omega
      subst e
      obtain ⟨nj, h | ⟨c, hc, h, nc⟩⟩ := slots_mid.1 hx
      · obtain ⟨ni, h' | ⟨a, ha, h', na⟩⟩ := slots_mid.1 hy
        · have := h1 i hi j hj8 ni nj (by rw [← h, ← h'])
          omega
        · exact node_page (hnode j hj8 nj) (hpage i hi ni a ha na) (h ▸ h')
      · obtain ⟨ni, h' | ⟨a, ha, h', na⟩⟩ := slots_mid.1 hy
        · exact node_page (hnode i hi ni) (hpage j hj8 nj c hc nc) (h' ▸ h)
        · have := (h2 i hi j hj8 a ha c hc ni nj na nc (by rw [← h, ← h'])).1
          omega

end Go.Proofs.Ytikhipekmlhibaa
