/- What the draws DrawPoolTake, DrawPoolAt and DrawPoolHold leave. -/
import Derived.Test.YtjbcjlednedboaaDraw9
namespace Go.Proofs.Ytjbcjlednedboaa
open Go.RowKit
set_option linter.unusedVariables false

/-- The answer is a new pool and a new slot. -/
def NewPoolSlot (w : World) (e : Ending) (w' : World) : Prop :=
  ∃ q s v0 v1 kv kb, e = .returned (.tuple #[.agg #[v0, v1], .agg #[.int .i64 s.birth, kv, .string s.data]]) ∧ PoolOwn w' w.heap.size w'.heap.size v0 v1 q ∧ PtrsOwn w' kb kv s.kn s.ks s.kb ∧ (0 < s.kn → w.heap.size ≤ kb ∧ kb < w'.heap.size) ∧ PoolB 12 21 q ∧ SlotB s ∧ Below w.heap.size w w'

/-- The answer is a new pool and a pointer. -/
def NewPoolPtr (w : World) (e : Ending) (w' : World) : Prop :=
  ∃ q v0 v1 ps pb, e = .returned (.tuple #[.agg #[v0, v1], .agg #[.int .i64 ps, .int .i64 pb]]) ∧ PoolOwn w' w.heap.size w'.heap.size v0 v1 q ∧ PoolB 12 21 q ∧ Below w.heap.size w w'

theorem turned_new {w wx : World} {B : Nat} (h : Turned (fun k => k = B) w wx) {w0 : World} (hb : Below w0.heap.size w0 w) (hB : w0.heap.size ≤ B) : Below w0.heap.size w0 wx :=
  hb.trans (h.below hb.size (fun k hk => by omega))

set_option maxRecDepth 20000 in
set_option maxHeartbeats 2000000 in
theorem drawPoolTake_any (a : Option Addr) (n c : Nat) (w : World) (hb : BytesAt w w.heap.size a n) (hn : n ≤ 1048576) (hnc : n ≤ c) :
    Calls Try.prog 5 #[.slice a n c] w (NewPoolSlot w) := by
  have ha := below_next (below_alloc w (.cells #[.slice none 0 0, .slice none 0 0] 26)) (below_alloc _ (.cells #[.int .i64 0, .slice none 0 0, .string ⟨#[]⟩] 29))
  have HP := hide ((Box2.new w (.slice none 0 0) (.slice none 0 0) 26).below (below_alloc _ (.cells #[.int .i64 0, .slice none 0 0, .string ⟨#[]⟩] 29)))
  have hs := Box3.new (w.alloc (.cells #[.slice none 0 0, .slice none 0 0] 26)) (.int .i64 0) (.slice none 0 0) (.string ⟨#[]⟩) 29
  rw [World.size_alloc] at hs
  have HS := hide hs
  clear hs
  go_enter Try.func5, Try.ntmps5
  go_wp2_with fail
  generalize hW : (w.alloc (.cells #[.slice none 0 0, .slice none 0 0] 26)).alloc (.cells #[.int .i64 0, .slice none 0 0, .string ⟨#[]⟩] 29) = W at ha HP HS ⊢
  have hz : W.heap.size = w.heap.size + 2 := by rw [← hW, World.size_alloc, World.size_alloc]
  clear hW
  refine (source_any a n c W (fun h0 => by
    obtain ⟨b, off, e, hbb, hc⟩ := hb h0
    refine ⟨b, off, e, by omega, fun i hi => ?_⟩
    obtain ⟨x, hx, g0, g1⟩ := hc i hi
    exact ⟨x, (ha.cell (lt_of_cell hx)).trans hx, g0, g1⟩) hn hnc).mono ?_
  rintro e w1 ⟨⟨B, rfl, hs1, hB⟩, hb1⟩
  have Hs1 := hide hs1
  have HB1 := hide (below_next ha hb1)
  have HP1 := hide (HP.out.below hb1)
  have HS1 := hide (HS.out.below hb1)
  have hBl := hs1.lt
  clear hs1 hb1 HP HS ha hb
  go_wp2_with fail
  refine (pool_any B w1 Hs1.out).mono ?_
  rintro e w2 ⟨q, v0, v1, rfl, ho2, hq, hs2, ht2⟩
  obtain ⟨qa, qc, qa', qc', rfl, rfl⟩ := ho2.form
  have Hq := hide hq
  have hqn : q.n ≤ 12 := hq.2.1
  have hbx := below_alloc w2 (.cells #[.slice qa q.n qc, .slice qa' q.hn qc'] 26)
  have HX := hide (Box2.new w2 (.slice qa q.n qc) (.slice qa' q.hn qc') 26)
  have Ho := hide (ho2.below hbx)
  have Hs2 := hide (hs2.below hbx)
  have HB2 := hide (below_next (turned_new ht2 HB1.out (by omega)) hbx)
  have HP2 := hide ((HP1.out.turned ht2 (by omega)).below hbx)
  have HS2 := hide ((HS1.out.turned ht2 (by omega)).below hbx)
  have hz2 : w1.heap.size ≤ w2.heap.size := ht2.size
  have hz3 : (w2.alloc (.cells #[.slice qa q.n qc, .slice qa' q.hn qc'] 26)).heap.size = w2.heap.size + 1 := World.size_alloc _ _
  clear ho2 hs2 ht2 hbx Hs1 HB1 HP1 HS1 hq
  obtain ⟨⟨x0, x1⟩, ⟨x2, x3⟩⟩ := HX.out
  obtain ⟨⟨y0, y1⟩, ⟨y2, y3⟩⟩ := HP2.out
  obtain ⟨⟨z0, z1⟩, ⟨z2, z3⟩, ⟨z4, z5⟩⟩ := HS2.out
  go_wp2_with fail
  generalize w2.alloc (.cells #[.slice qa q.n qc, .slice qa' q.hn qc'] 26) = wx at HX Ho Hs2 HB2 HP2 HS2 hz3 x0 x1 x2 x3 y0 y1 y2 y3 z0 z1 z2 z3 z4 z5 ⊢
  go_region_with (first
    | (go_at_call 33
       refine (some_any B w1.heap.size w2.heap.size _ _ q _ ?_ ?_ hBl ?_ (by omega)).mono ?_
       (first | exact Hs2.out | exact Hs2.out.below (Below.refl _ _).drew)
       (first | exact Ho.out.at | exact Ho.out.at.below (Below.refl _ _).drew)
       (first | omega | (show w2.heap.size ≤ wx.heap.size; omega))
       rintro e w3 ⟨s, kv, kb, rfl, hks, hpl, hk9, hd17, hs3, ht3⟩
       obtain ⟨_, ka, kc, rfl, _⟩ := id hks
       replace hpl : 0 < s.kn → wx.heap.size ≤ kb ∧ kb < w3.heap.size := hpl
       have hT3 : Turned (fun k => k = B) wx w3 := (by first | exact ht3 | exact turned_undrew ht3)
       have hX3 := HX.out.turned hT3 (by omega)
       have k0 := hX3.1.1
       have k1 := hX3.2.1
       have hP3 := HP2.out.turned hT3 (by omega)
       have k2 := hP3.1.1
       have k3 := hP3.1.2
       have k4 := hP3.2.1
       have k5 := hP3.2.2
       have hS3 := HS2.out.turned hT3 (by omega)
       have k6 := hS3.1.1
       have k7 := hS3.1.2
       have k8 := hS3.2.1.1
       have k9 := hS3.2.1.2
       have k10 := hS3.2.2.1
       have k11 := hS3.2.2.2))
  all_goals
    have hz4 := hT3.size
    have ho3 := Ho.out.turned hT3 (fun k hk => by omega)
    have hb3 := turned_new hT3 HB2.out (by omega)
    have tA := put2_turned w3 w.heap.size (.slice qa q.n qc) (.slice qa' q.hn qc')
    have tB := put3_turned ((w3.setCell ⟨w.heap.size, 0, none⟩ (.slice qa q.n qc)).setCell ⟨w.heap.size, 1, none⟩ (.slice qa' q.hn qc')) (w.heap.size + 1) (.int .i64 s.birth) (.slice ka s.kn kc) (.string s.data)
    have hA := tA.size
    have hBz := tB.size
    have HPf := hide ((hP3.put (.slice qa q.n qc) (.slice qa' q.hn qc')).turned tB (by omega))
    have HSf := hide ((hS3.turned tA (by omega)).put (.int .i64 s.birth) (.slice ka s.kn kc) (.string s.data))
    have Hof := hide (((ho3.turned tA (fun k hk => by omega)).turned tB (fun k hk => by omega)).wide (lo' := w.heap.size) (hi' := (((((w3.setCell ⟨w.heap.size, 0, none⟩ (.slice qa q.n qc)).setCell ⟨w.heap.size, 1, none⟩ (.slice qa' q.hn qc')).setCell ⟨w.heap.size + 1, 0, none⟩ (.int .i64 s.birth)).setCell ⟨w.heap.size + 1, 1, none⟩ (.slice ka s.kn kc)).setCell ⟨w.heap.size + 1, 2, none⟩ (.string s.data)).heap.size) (by omega) (by omega))
    have Hkf := hide ((hks.turned tA (fun h0 e => by have := hpl h0; omega)).turned tB (fun h0 e => by have := hpl h0; omega))
    have Hbf := hide ((hb3.trans (tA.below (by have := hb3.size; omega) (fun k hk => by omega))).trans (tB.below (by have := hb3.size; omega) (fun k hk => by omega)))
    have Hpl := hide hpl
    clear ho3 hb3 tA tB hks hpl
    go_wp2
    exact bodyPost_ret (v := .tuple #[.agg #[.slice qa q.n qc, .slice qa' q.hn qc'], .agg #[.int .i64 s.birth, .slice ka s.kn kc, .string s.data]]) (by simp [results, Try.results5, go_sem, HPf.out.1.1, HPf.out.2.1, HSf.out.1.1, HSf.out.2.1.1, HSf.out.2.2.1]) rfl ⟨q, s, _, _, _, kb, rfl, Hof.out, Hkf.out, fun h0 => by have := Hpl.out h0; omega, Hq.out, ⟨hk9, hd17⟩, Hbf.out⟩

set_option maxRecDepth 20000 in
set_option maxHeartbeats 2000000 in
theorem drawPoolAt_any (a : Option Addr) (n c : Nat) (w : World) (hb : BytesAt w w.heap.size a n) (hn : n ≤ 1048576) (hnc : n ≤ c) :
    Calls Try.prog 47 #[.slice a n c] w (NewPoolPtr w) := by
  have ha := below_next (below_alloc w (.cells #[.slice none 0 0, .slice none 0 0] 26)) (below_alloc _ (.cells #[.int .i64 0, .int .i64 0] 33))
  have HP := hide ((Box2.new w (.slice none 0 0) (.slice none 0 0) 26).below (below_alloc _ (.cells #[.int .i64 0, .int .i64 0] 33)))
  have hs := Box2.new (w.alloc (.cells #[.slice none 0 0, .slice none 0 0] 26)) (.int .i64 0) (.int .i64 0) 33
  rw [World.size_alloc] at hs
  have HS := hide hs
  clear hs
  go_enter Try.func47, Try.ntmps47
  go_wp2_with fail
  generalize hW : (w.alloc (.cells #[.slice none 0 0, .slice none 0 0] 26)).alloc (.cells #[.int .i64 0, .int .i64 0] 33) = W at ha HP HS ⊢
  have hz : W.heap.size = w.heap.size + 2 := by rw [← hW, World.size_alloc, World.size_alloc]
  clear hW
  refine (source_any a n c W (fun h0 => by
    obtain ⟨b, off, e, hbb, hc⟩ := hb h0
    refine ⟨b, off, e, by omega, fun i hi => ?_⟩
    obtain ⟨x, hx, g0, g1⟩ := hc i hi
    exact ⟨x, (ha.cell (lt_of_cell hx)).trans hx, g0, g1⟩) hn hnc).mono ?_
  rintro e w1 ⟨⟨B, rfl, hs1, hB⟩, hb1⟩
  have Hs1 := hide hs1
  have HB1 := hide (below_next ha hb1)
  have HP1 := hide (HP.out.below hb1)
  have HS1 := hide (HS.out.below hb1)
  have hBl := hs1.lt
  clear hs1 hb1 HP HS ha hb
  go_wp2_with fail
  refine (pool_any B w1 Hs1.out).mono ?_
  rintro e w2 ⟨q, v0, v1, rfl, ho2, hq, hs2, ht2⟩
  obtain ⟨qa, qc, qa', qc', rfl, rfl⟩ := ho2.form
  have Hq := hide hq
  have hqn : q.n ≤ 12 := hq.2.1
  have hbx := below_alloc w2 (.cells #[.slice qa q.n qc, .slice qa' q.hn qc'] 26)
  have HX := hide (Box2.new w2 (.slice qa q.n qc) (.slice qa' q.hn qc') 26)
  have Ho := hide (ho2.below hbx)
  have Hs2 := hide (hs2.below hbx)
  have HB2 := hide (below_next (turned_new ht2 HB1.out (by omega)) hbx)
  have HP2 := hide ((HP1.out.turned ht2 (by omega)).below hbx)
  have HS2 := hide ((HS1.out.turned ht2 (by omega)).below hbx)
  have hz2 : w1.heap.size ≤ w2.heap.size := ht2.size
  have hz3 : (w2.alloc (.cells #[.slice qa q.n qc, .slice qa' q.hn qc'] 26)).heap.size = w2.heap.size + 1 := World.size_alloc _ _
  clear ho2 hs2 ht2 hbx Hs1 HB1 HP1 HS1 hq
  obtain ⟨⟨x0, x1⟩, ⟨x2, x3⟩⟩ := HX.out
  obtain ⟨⟨y0, y1⟩, ⟨y2, y3⟩⟩ := HP2.out
  obtain ⟨⟨z0, z1⟩, ⟨z2, z3⟩⟩ := HS2.out
  go_wp2_with fail
  generalize w2.alloc (.cells #[.slice qa q.n qc, .slice qa' q.hn qc'] 26) = wx at HX Ho Hs2 HB2 HP2 HS2 hz3 x0 x1 x2 x3 y0 y1 y2 y3 z0 z1 z2 z3 ⊢
  go_region_with (first
    | (go_at_call 79
       refine (ptr_any B w1.heap.size w2.heap.size _ _ q _ ?_ ?_ hBl ?_ (by omega)).mono ?_
       (first | exact Hs2.out | exact Hs2.out.below (Below.refl _ _).drew)
       (first | exact Ho.out.at | exact Ho.out.at.below (Below.refl _ _).drew)
       (first | omega | (show w2.heap.size ≤ wx.heap.size; omega))
       rintro e w3 ⟨⟨ps, pb, rfl⟩, hs3, ht3⟩
       have hT3 : Turned (fun k => k = B) wx w3 := (by first | exact ht3 | exact turned_undrew ht3)
       have hX3 := HX.out.turned hT3 (by omega)
       have k0 := hX3.1.1
       have k1 := hX3.2.1
       have hP3 := HP2.out.turned hT3 (by omega)
       have k2 := hP3.1.1
       have k3 := hP3.1.2
       have k4 := hP3.2.1
       have k5 := hP3.2.2
       have hS3 := HS2.out.turned hT3 (by omega)
       have k6 := hS3.1.1
       have k7 := hS3.1.2
       have k8 := hS3.2.1
       have k9 := hS3.2.2))
  all_goals
    have hz4 := hT3.size
    have ho3 := Ho.out.turned hT3 (fun k hk => by omega)
    have hb3 := turned_new hT3 HB2.out (by omega)
    have tA := put2_turned w3 w.heap.size (.slice qa q.n qc) (.slice qa' q.hn qc')
    have tB := put2_turned ((w3.setCell ⟨w.heap.size, 0, none⟩ (.slice qa q.n qc)).setCell ⟨w.heap.size, 1, none⟩ (.slice qa' q.hn qc')) (w.heap.size + 1) (.int .i64 ps) (.int .i64 pb)
    have hA := tA.size
    have hBz := tB.size
    have HPf := hide ((hP3.put (.slice qa q.n qc) (.slice qa' q.hn qc')).turned tB (by omega))
    have HSf := hide ((hS3.turned tA (by omega)).put (.int .i64 ps) (.int .i64 pb))
    have Hof := hide (((ho3.turned tA (fun k hk => by omega)).turned tB (fun k hk => by omega)).wide (lo' := w.heap.size) (hi' := ((((w3.setCell ⟨w.heap.size, 0, none⟩ (.slice qa q.n qc)).setCell ⟨w.heap.size, 1, none⟩ (.slice qa' q.hn qc')).setCell ⟨w.heap.size + 1, 0, none⟩ (.int .i64 ps)).setCell ⟨w.heap.size + 1, 1, none⟩ (.int .i64 pb)).heap.size) (by omega) (by omega))
    have Hbf := hide ((hb3.trans (tA.below (by have := hb3.size; omega) (fun k hk => by omega))).trans (tB.below (by have := hb3.size; omega) (fun k hk => by omega)))
    clear ho3 hb3 tA tB
    go_wp2
    exact bodyPost_ret (v := .tuple #[.agg #[.slice qa q.n qc, .slice qa' q.hn qc'], .agg #[.int .i64 ps, .int .i64 pb]]) (by simp [results, Try.results47, go_sem, HPf.out.1.1, HPf.out.2.1, HSf.out.1.1, HSf.out.2.1]) rfl ⟨q, _, _, ps, pb, rfl, Hof.out, Hq.out, Hbf.out⟩

set_option maxRecDepth 20000 in
set_option maxHeartbeats 2000000 in
theorem drawPoolHold_any (a : Option Addr) (n c : Nat) (w : World) (hb : BytesAt w w.heap.size a n) (hn : n ≤ 1048576) (hnc : n ≤ c) :
    Calls Try.prog 14 #[.slice a n c] w (NewPoolPtr w) := by
  have ha := below_next (below_alloc w (.cells #[.slice none 0 0, .slice none 0 0] 26)) (below_alloc _ (.cells #[.int .i64 0, .int .i64 0] 33))
  have HP := hide ((Box2.new w (.slice none 0 0) (.slice none 0 0) 26).below (below_alloc _ (.cells #[.int .i64 0, .int .i64 0] 33)))
  have hs := Box2.new (w.alloc (.cells #[.slice none 0 0, .slice none 0 0] 26)) (.int .i64 0) (.int .i64 0) 33
  rw [World.size_alloc] at hs
  have HS := hide hs
  clear hs
  go_enter Try.func14, Try.ntmps14
  go_wp2_with fail
  generalize hW : (w.alloc (.cells #[.slice none 0 0, .slice none 0 0] 26)).alloc (.cells #[.int .i64 0, .int .i64 0] 33) = W at ha HP HS ⊢
  have hz : W.heap.size = w.heap.size + 2 := by rw [← hW, World.size_alloc, World.size_alloc]
  clear hW
  refine (drawPoolAt_any a n c W (fun h0 => by
    obtain ⟨b, off, e, hbb, hc⟩ := hb h0
    refine ⟨b, off, e, by omega, fun i hi => ?_⟩
    obtain ⟨x, hx, g0, g1⟩ := hc i hi
    exact ⟨x, (ha.cell (lt_of_cell hx)).trans hx, g0, g1⟩) hn hnc).mono ?_
  rintro e w3 ⟨q, v0, v1, ps, pb, rfl, ho, hq, hb3⟩
  obtain ⟨qa, qc, qa', qc', rfl, rfl⟩ := ho.form
  have hP3 := HP.out.below hb3
  have hS3 := HS.out.below hb3
  have hz3 := hb3.size
  have tA := put2_turned w3 w.heap.size (.slice qa q.n qc) (.slice qa' q.hn qc')
  have tB := put2_turned ((w3.setCell ⟨w.heap.size, 0, none⟩ (.slice qa q.n qc)).setCell ⟨w.heap.size, 1, none⟩ (.slice qa' q.hn qc')) (w.heap.size + 1) (.int .i64 ps) (.int .i64 pb)
  have hA := tA.size
  have hBz := tB.size
  have HPf := hide ((hP3.put (.slice qa q.n qc) (.slice qa' q.hn qc')).turned tB (by omega))
  have HSf := hide ((hS3.turned tA (by omega)).put (.int .i64 ps) (.int .i64 pb))
  have Hof := hide (((ho.turned tA (fun k hk => by omega)).turned tB (fun k hk => by omega)).wide (lo' := w.heap.size) (hi' := ((((w3.setCell ⟨w.heap.size, 0, none⟩ (.slice qa q.n qc)).setCell ⟨w.heap.size, 1, none⟩ (.slice qa' q.hn qc')).setCell ⟨w.heap.size + 1, 0, none⟩ (.int .i64 ps)).setCell ⟨w.heap.size + 1, 1, none⟩ (.int .i64 pb)).heap.size) (by omega) (by omega))
  have hbw := below_next ha hb3
  have Hbf := hide ((hbw.trans (tA.below (by have := hbw.size; omega) (fun k hk => by omega))).trans (tB.below (by have := hbw.size; omega) (fun k hk => by omega)))
  have Hq := hide hq
  clear tA tB hbw ho hq
  obtain ⟨⟨y0, y1⟩, ⟨y2, y3⟩⟩ := hP3
  obtain ⟨⟨z0, z1⟩, ⟨z2, z3⟩⟩ := hS3
  go_wp2
  exact bodyPost_ret (v := .tuple #[.agg #[.slice qa q.n qc, .slice qa' q.hn qc'], .agg #[.int .i64 ps, .int .i64 pb]]) (by simp [results, Try.results14, go_sem, HPf.out.1.1, HPf.out.2.1, HSf.out.1.1, HSf.out.2.1]) rfl ⟨q, _, _, ps, pb, rfl, Hof.out, Hq.out, Hbf.out⟩

end Go.Proofs.Ytjbcjlednedboaa
