/- A node's Kids as an array of eight pointers: what impl.kidsOf, impl.kidFound and impl.kidsThere answer. -/
import Derived.Test.YtiijnmpenljniadImplRight
import Derived.Laws.CopyOwn
import Derived.Deep.RegionLaw
import Derived.Deep.WholeRow
namespace Go.Proofs.Ytiijnmpenljniad
open Go.RowKit
set_option linter.unusedVariables false

theorem run_copy_sized {P : Program} (w : World) (dT sT ty elem : TypeId) (size g o dLen dCap : Nat) (a : Addr) (sLen sCap : Nat) (cur : Array Value) (t : TypeId) (cs : List Value)
    (hu : P.underlying dT = some (.slice elem)) (hs : (P.info? elem).map (·.size) = some size)
    (hg : w.heap[g]? = some (.cells cur t (0, 0))) (hn : cs.length = Nat.min sLen dLen * size)
    (hsrc : ∀ j v, cs[j]? = some v → w.cell? (a.add j) = some v) (hfit : o + cs.length ≤ cur.size) (h1 : ∀ v ∈ cs, v.oneCell' = true) :
    (Builtin.copy_ #[dT, sT] ty #[.slice (some ⟨g, o, none⟩) dLen dCap, .slice (some a) sLen sCap]).run P w =
      .ok (goInt (Nat.min sLen dLen)) (w.setRow g (cur.toList.take o ++ cs ++ cur.toList.drop (o + cs.length)).toArray) := by
  have hl := run_loadCells_list (P := P) w a cs hsrc
  have hst := run_storeCells_at P g o t cs 0 cur w hg (by simpa using hfit) h1
  cases hq : P.info? elem with
  | none => simp [hq] at hs
  | some i =>
    have hi : i.size = size := by simpa [hq] using hs
    have e : Nat.min sLen dLen * i.size = cs.length := by rw [hi, hn]
    simp [Builtin.copy_, run_underlying hu, Builtin.lenOf, Builtin.firstCells, sizeOf, typeInfo, hq, e, hl, hst]

theorem run_copy_zero {P : Program} (w : World) (dT sT ty elem : TypeId) (size : Nat) (d a : Option Addr) (dLen dCap sCap : Nat)
    (hu : P.underlying dT = some (.slice elem)) (hs : (P.info? elem).map (·.size) = some size) :
    (Builtin.copy_ #[dT, sT] ty #[.slice d dLen dCap, .slice a 0 sCap]).run P w = .ok (goInt 0) w := by
  cases hq : P.info? elem with
  | none => simp [hq] at hs
  | some i =>
    cases a with
    | none => cases d <;> simp [Builtin.copy_, run_underlying hu, Builtin.lenOf, Builtin.firstCells, sizeOf, typeInfo, hq, storeCells]
    | some a => cases d <;> simp [Builtin.copy_, run_underlying hu, Builtin.lenOf, Builtin.firstCells, sizeOf, typeInfo, hq, storeCells, loadCells, loadCellsFrom]

/-- The number in the cell j of the array of a slot's Kids. -/
def kidCell (s : SlotD) (j : Nat) : Int := if j / 2 < s.kn then (if j % 2 = 0 then s.ks (j / 2) else s.kb (j / 2)) else 0
/-- An array of sixteen numbers. -/
def arr16 (f : Nat → Int) : Array Value := ((List.range 16).map fun j => Value.int .i64 (f j)).toArray
def kidsA (s : SlotD) : Array Value := arr16 (kidCell s)

theorem arr16_size (f : Nat → Int) : (arr16 f).size = 16 := by simp [arr16]
theorem arr16_at (f : Nat → Int) {j : Nat} (h : j < 16) : (arr16 f)[j]? = some (.int .i64 (f j)) := by simp [arr16, h]
theorem arr16_one (f : Nat → Int) : (arr16 f).all (·.oneCell') = true := by
  unfold arr16
  rw [Array.all_eq_true_iff_forall_mem]
  intro v hv
  simp at hv
  obtain ⟨j, _, rfl⟩ := hv
  rfl
theorem arr16_ext {f g : Nat → Int} (h : ∀ j, j < 16 → f j = g j) : arr16 f = arr16 g := by
  unfold arr16
  congr 1
  apply List.map_congr_left
  intro j hj
  rw [h j (by simpa using hj)]

theorem infoArr : (Try.prog.info? 92).map (·.size) = some 16 := by kernel_rfl
theorem infoPtrSize : (Try.prog.info? 35).map (·.size) = some 2 := by kernel_rfl
theorem arrU : Try.prog.underlying 92 = some (.array 8 35) := by kernel_rfl

theorem three_alloc (w : World) (o1 o2 o3 : Obj) : (((w.alloc o1).alloc o2).alloc o3).heap[w.heap.size + 1]? = some o2 ∧ (((w.alloc o1).alloc o2).alloc o3).heap[w.heap.size + 1 + 1]? = some o3 ∧ w.heap.size + 1 + 1 < (((w.alloc o1).alloc o2).alloc o3).heap.size := by
  refine ⟨?_, ?_, by simp⟩
  · rw [Below.heap_alloc _ _ _ (by simp)]
    have := heap_alloc_last (w.alloc o1) o2
    rw [World.size_alloc] at this
    exact this
  · have := heap_alloc_last ((w.alloc o1).alloc o2) o3
    rw [World.size_alloc, World.size_alloc] at this
    exact this

theorem Turned.setRow (w : World) (g : Nat) (cs : Array Value) : Turned (fun k => k = g) w (w.setRow g cs) :=
  ⟨rfl, rfl, rfl, by simp [World.setRow], fun k _ hs => setRow_other w g k cs hs⟩

/-- 'copy' of a slot's Kids (eight, or none) into an array of eight, as one step of a region that draws. -/
theorem step_copy_kids {ops : Array Oper} {o : Oper} {a : Act} {w : World} {K : Act → World → Prop} {Q : Exit → Act → World → Prop} {E : Prop} (hgd : o.guard = none) (d s : Operand)
    (ho : o.op = .call { callee := .builtin .copy, args := #[d, s], argTypes := #[40, 40] })
    (g : Nat) (ka : Option Addr) (kc : Nat) (sl : SlotD) (hd : a.eval d = .slice (some ⟨g, 0, none⟩) 8 8) (hs : a.eval s = .slice ka sl.kn kc)
    (hg : w.heap[g]? = some (.cells (arr16 fun _ => 0) 92 (0, 0))) (hk : sl.kn = 0 ∨ (sl.kn = 8 ∧ ∃ b off, ka = some ⟨b, off, none⟩ ∧ ∀ i, i < sl.kn → w.cell? ⟨b, off + i * 2, none⟩ = some (.int .i64 (sl.ks i)) ∧ w.cell? ⟨b, off + i * 2 + 1, none⟩ = some (.int .i64 (sl.kb i))))
    (h : ∀ w' v, Hid (w'.heap[g]? = some (.cells (kidsA sl) 92 (0, 0))) → Turned (fun k => k = g) w w' → K (a.put o.dst v) w') :
    if Region.wanted o (yielded ops a.tmps) = true then Oper.wp Try.prog o a w K Q else E := by
  have hw : Region.wanted o (yielded ops a.tmps) = true := by simp [Region.wanted, hgd]
  rw [if_pos hw]
  have hu : Try.prog.underlying 40 = some (.slice 35) := by kernel_rfl
  rcases hk with hk | ⟨hk, b, off, rfl, hc⟩
  · rw [hk] at hs
    have hrun := run_copy_zero (P := Try.prog) w 40 40 o.type 35 2 (some ⟨g, 0, none⟩) ka 8 8 kc hu infoPtrSize
    unfold Oper.wp
    simp [execOp, ho, resolve, invoke, builtin, hd, hs, hrun, Result.andThen]
    refine h _ _ ?_ (Turned.refl _ _)
    show _ = _
    rw [hg]
    have : kidsA sl = arr16 (fun _ => 0) := arr16_ext fun j _ => by unfold kidCell; rw [if_neg (by omega)]
    rw [this]
  · rw [hk] at hs
    have hrun := run_copy_sized (P := Try.prog) w 40 40 o.type 35 2 g 0 8 8 ⟨b, off, none⟩ 8 kc (arr16 fun _ => 0) 92 (kidsA sl).toList hu infoPtrSize hg (by simp [kidsA, arr16]) (fun j v hj => by
        have hj16 : j < 16 := by
          have := (List.getElem?_eq_some_iff.1 hj).1
          simpa [kidsA, arr16_size] using this
        have e : (kidsA sl).toList[j]? = some (.int .i64 (kidCell sl j)) := by rw [Array.getElem?_toList]; exact arr16_at (kidCell sl) hj16
        rw [e] at hj
        simp only [Option.some.injEq] at hj
        subst hj
        have hadd : (⟨b, off, none⟩ : Addr).add j = ⟨b, off + j, none⟩ := by unfold Addr.add; split <;> simp_all
        rw [hadd]
        unfold kidCell
        rw [if_pos (by omega)]
        have hcj := hc (j / 2) (by omega)
        split
        · rw [show off + j = off + j / 2 * 2 by omega]; exact hcj.1
        · rw [show off + j = off + j / 2 * 2 + 1 by omega]; exact hcj.2) (by simp [kidsA, arr16]) (fun v hv => (Array.all_eq_true_iff_forall_mem.1 (arr16_one _)) v (by simpa [kidsA] using hv))
    unfold Oper.wp
    simp [execOp, ho, resolve, invoke, builtin, hd, hs, hrun, Result.andThen]
    refine h _ _ ?_ (Turned.setRow _ _ _)
    show _ = _
    rw [setRow_heap w g _ _ 92 (0, 0) hg]
    have e0 : ((arr16 fun _ => 0).toList.drop 16) = [] := List.drop_eq_nil_of_le (by simp [arr16])
    simp [kidsA, arr16_size, e0]

set_option maxRecDepth 20000 in
set_option maxHeartbeats 400000 in
theorem kidsOf_any (v0 v1 v2 : Value) (lo hi : Nat) (s : SlotD) (w : World) (h1 : SlotAt w lo hi v0 v1 v2 s) (hk : s.kn = 0 ∨ s.kn = 8) :
    Calls Try.prog 86 #[.agg #[v0, v1, v2]] w fun e w' => e = .returned (.agg (kidsA s)) ∧ Below w.heap.size w w' := by
  obtain ⟨rfl, ⟨m1, a, c, rfl, mc, g1⟩, rfl, m2⟩ := h1
  unfold maxLen at m1 m2
  have G1 : Hid (0 < s.kn → ∃ b off, a = some ⟨b, off, none⟩ ∧ lo ≤ b ∧ b < hi ∧ ∀ i, i < s.kn → w.cell? ⟨b, off + i * 2, none⟩ = some (.int .i64 (s.ks i)) ∧ w.cell? ⟨b, off + i * 2 + 1, none⟩ = some (.int .i64 (s.kb i))) := g1
  have Hk : Hid (s.kn = 0 ∨ s.kn = 8) := hk
  clear g1 hk
  go_enter Try.func86, Try.ntmps86
  go_wp2_with fail
  obtain ⟨W, hW⟩ : ∃ W : World, W = ((w.alloc (.cells #[.int .i64 s.birth, .slice a s.kn c, .string s.data] 42)).alloc (.cells #[Value.int .i64 0, Value.int .i64 0, Value.int .i64 0, Value.int .i64 0, Value.int .i64 0, Value.int .i64 0, Value.int .i64 0, Value.int .i64 0, Value.int .i64 0, Value.int .i64 0, Value.int .i64 0, Value.int .i64 0, Value.int .i64 0, Value.int .i64 0, Value.int .i64 0, Value.int .i64 0] 92)).alloc (.cells #[Value.int .i64 0, Value.int .i64 0, Value.int .i64 0, Value.int .i64 0, Value.int .i64 0, Value.int .i64 0, Value.int .i64 0, Value.int .i64 0, Value.int .i64 0, Value.int .i64 0, Value.int .i64 0, Value.int .i64 0, Value.int .i64 0, Value.int .i64 0, Value.int .i64 0, Value.int .i64 0] 92) := ⟨_, rfl⟩
  have z16 : (#[Value.int .i64 0, Value.int .i64 0, Value.int .i64 0, Value.int .i64 0, Value.int .i64 0, Value.int .i64 0, Value.int .i64 0, Value.int .i64 0, Value.int .i64 0, Value.int .i64 0, Value.int .i64 0, Value.int .i64 0, Value.int .i64 0, Value.int .i64 0, Value.int .i64 0, Value.int .i64 0] : Array Value) = arr16 (fun _ => 0) := rfl
  have hb : Below w.heap.size w W := by rw [hW]; exact below_next (below_next (below_alloc _ _) (below_alloc _ _)) (below_alloc _ _)
  have Hx : Hid (Box3 W w.heap.size (.int .i64 s.birth) (.slice a s.kn c) (.string s.data)) := by rw [hW]; exact ((Box3.new w _ _ _ _).below (below_alloc _ _)).below (below_alloc _ _)
  have HRG := three_alloc w (.cells #[.int .i64 s.birth, .slice a s.kn c, .string s.data] 42) (.cells #[Value.int .i64 0, Value.int .i64 0, Value.int .i64 0, Value.int .i64 0, Value.int .i64 0, Value.int .i64 0, Value.int .i64 0, Value.int .i64 0, Value.int .i64 0, Value.int .i64 0, Value.int .i64 0, Value.int .i64 0, Value.int .i64 0, Value.int .i64 0, Value.int .i64 0, Value.int .i64 0] 92) (.cells #[Value.int .i64 0, Value.int .i64 0, Value.int .i64 0, Value.int .i64 0, Value.int .i64 0, Value.int .i64 0, Value.int .i64 0, Value.int .i64 0, Value.int .i64 0, Value.int .i64 0, Value.int .i64 0, Value.int .i64 0, Value.int .i64 0, Value.int .i64 0, Value.int .i64 0, Value.int .i64 0] 92)
  rw [← hW] at HRG
  have HR : Hid (W.heap[w.heap.size + 1]? = some (.cells (arr16 fun _ => 0) 92 (0, 0))) := HRG.1
  have HG : Hid (W.heap[w.heap.size + 1 + 1]? = some (.cells (arr16 fun _ => 0) 92 (0, 0))) := HRG.2.1
  have hsz : w.heap.size + 1 + 1 < W.heap.size := HRG.2.2
  clear HRG
  have HC : Hid (s.kn = 0 ∨ (s.kn = 8 ∧ ∃ b off, a = some ⟨b, off, none⟩ ∧ ∀ i, i < s.kn → W.cell? ⟨b, off + i * 2, none⟩ = some (.int .i64 (s.ks i)) ∧ W.cell? ⟨b, off + i * 2 + 1, none⟩ = some (.int .i64 (s.kb i)))) := by
    rcases Hk.out with h | h
    · exact Or.inl h
    · obtain ⟨b, off, ha, _, _, k1⟩ := G1.out (by omega)
      exact Or.inr ⟨h, b, off, ha, fun i hi => ⟨(hb.cell (lt_of_cell (k1 i hi).1)).trans (k1 i hi).1, (hb.cell (lt_of_cell (k1 i hi).2)).trans (k1 i hi).2⟩⟩
  rw [← hW]
  clear hW z16
  obtain ⟨⟨x0, x1⟩, ⟨x2, x3⟩, ⟨x4, x5⟩⟩ := Hx.out
  go_region_law (refine step_copy_kids rfl (.tmp 4) (.tmp 6) rfl (w.heap.size + 1 + 1) a c s (by simp [Act.eval]) (by simp [Act.eval]) HG.out HC.out ?_; intro w1 cv HG1 ht1)
  have hR1 : w1.heap[w.heap.size + 1]? = some (.cells (arr16 fun _ => 0) 92 (0, 0)) := (ht1.block _ (by show _ < W.heap.size; omega) (by omega)).trans HR.out
  have HR1 : Hid (w1.heap[w.heap.size + 1]? = some (.cells (arr16 fun _ => 0) 92 (0, 0))) := hR1
  have hb1 : Below w.heap.size w w1 := hb.drew.trans (ht1.below (by show _ ≤ W.heap.size; omega) (by intro k hk; omega))
  clear hR1 ht1 x0 x1 x2 x3 x4 x5
  have hi16 : (Try.prog.info? 92).map (·.size) = some (kidsA s).size := by rw [kidsA, arr16_size]; exact infoArr
  have Hi16 : Hid ((Try.prog.info? 92).map (·.size) = some (kidsA s).size) := hi16
  clear hi16
  go_wp2_with (first
    | (refine wpList_load_row rfl 92 (.tmp 3) rfl (w.heap.size + 1 + 1) rfl 92 (kidsA s) (0, 0) _ HG1.out arrU rfl Hi16.out ?_)
    | (refine wpList_store_row rfl 92 (.tmp 2) (.tmp 8) rfl (w.heap.size + 1) (kidsA s) rfl rfl 92 (arr16 fun _ => 0) HR1.out Hi16.out (by rw [kidsA, arr16_size, arr16_size]) (arr16_one _) ?_))
  refine bodyPost_ret (v := .agg (kidsA s)) (results_cell_row (P := Try.prog) (ty := 92) Try.results86 _ _ (w.heap.size + 1) 92 (kidsA s) (0, 0) _ rfl (setRow_heap _ _ _ _ _ _ HR1.out) arrU rfl Hi16.out) rfl ⟨rfl, ?_⟩
  exact below_setRow hb1 (by omega) _

def KidFound (n : Nat) (f : Nat → SlotD) (b ks kb rs rb : Int) : Prop :=
  ∃ ps pb, PtrOf n f ks ps pb ∧ (((PtrEq ks kb 0 0 ∨ b < pb) ∧ rs = 0 ∧ rb = 0) ∨ (¬ (PtrEq ks kb 0 0 ∨ b < pb) ∧ rs = ps ∧ rb = pb))

set_option maxRecDepth 20000 in
set_option maxHeartbeats 400000 in
theorem kidFound_any (v : Value) (n lo hi : Nat) (f : Nat → SlotD) (ks kb b : Int) (w : World) (h1 : SlotsAt w lo hi v n f) :
    Calls Try.prog 97 #[v, .agg #[.int .i64 ks, .int .i64 kb], .int .i64 b] w fun e w' => (∃ rs rb, e = .returned (.agg #[.int .i64 rs, .int .i64 rb]) ∧ KidFound n f b ks kb rs rb) ∧ Below w.heap.size w w' := by
  have Hi : Hid (SlotsAt w lo hi v n f) := h1
  obtain ⟨m1, a, c, rfl, mc, g1⟩ := h1
  clear g1
  have Hbw : Hid (Below w.heap.size w ((w.alloc (.cells #[.int .i64 ks, .int .i64 kb] 35)).alloc (.cells #[.int .i64 0, .int .i64 0] 35))) := below_next (below_alloc _ _) (below_alloc _ _)
  go_enter Try.func97, Try.ntmps97
  go_wp2_with fail
  refine (ptrOf_any _ n lo hi f _ _ (Hi.out.below Hbw.out)).mono ?_
  rintro e w1 ⟨⟨ps, pb, rfl, hp⟩, hb1⟩
  have Hp : Hid (PtrOf n f ks ps pb) := hp
  have HX : Hid (Box2 w1 w.heap.size (.int .i64 ks) (.int .i64 kb)) := ((Box2.new w _ _ _).below (below_alloc _ _)).below hb1
  have HR : Hid (Box2 w1 (w.heap.size + 1) (.int .i64 0) (.int .i64 0)) := by
    have := (Box2.new (w.alloc (.cells #[.int .i64 ks, .int .i64 kb] 35)) (.int .i64 0) (.int .i64 0) 35).below hb1
    rw [World.size_alloc] at this
    exact this
  have hbn := below_next Hbw.out hb1
  have hz : w.heap.size < w1.heap.size := HX.out.1.lt
  have hz1 : w.heap.size + 1 < w1.heap.size := HR.out.1.lt
  clear hp hb1
  obtain ⟨⟨x0, x1⟩, ⟨x2, x3⟩⟩ := HX.out
  obtain ⟨⟨y0, y1⟩, ⟨y2, y3⟩⟩ := HR.out
  have HY := fun u0 u1 => (HR.out.put u0 u1).below (below_alloc _ (.cells #[.int .i64 ps, .int .i64 pb] 35))
  have HYh : Hid (∀ u0 u1, Box2 (((w1.setCell ⟨w.heap.size + 1, 0, none⟩ u0).setCell ⟨w.heap.size + 1, 1, none⟩ u1).alloc (.cells #[.int .i64 ps, .int .i64 pb] 35)) (w.heap.size + 1) u0 u1) := HY
  clear HY
  have HBh : Hid (∀ u0 u1, Below w.heap.size w (((w1.setCell ⟨w.heap.size + 1, 0, none⟩ u0).setCell ⟨w.heap.size + 1, 1, none⟩ u1).alloc (.cells #[.int .i64 ps, .int .i64 pb] 35))) := fun u0 u1 => ((hbn.setCell (by show _ ≤ w.heap.size + 1; omega) _).setCell (by show _ ≤ w.heap.size + 1; omega) _).alloc (by simp; omega) _
  by_cases hnone : PtrEq ks kb 0 0
  · obtain ⟨rfl, rfl⟩ := hnone
    have HK : Hid (KidFound n f b 0 0 0 0) := ⟨ps, pb, Hp.out, Or.inl ⟨Or.inl ⟨rfl, rfl⟩, rfl, rfl⟩⟩
    go_wp2
    have hy := HYh.out (.int .i64 0) (.int .i64 0)
    refine bodyPost_ret (v := .agg #[.int .i64 0, .int .i64 0]) (by simp [results, Try.results97, go_sem, hy.1.1, hy.2.1]) rfl ⟨⟨_, _, rfl, HK.out⟩, HBh.out _ _⟩
  · have HN : Hid (¬ PtrEq ks kb 0 0) := hnone
    have e0 : (ks == 0) = false ∨ (ks == 0) = true ∧ (kb == 0) = false := by
      by_cases h : ks = 0
      · right
        refine ⟨by simp [h], ?_⟩
        have : kb ≠ 0 := fun h' => hnone ⟨h, h'⟩
        simp [this]
      · left; simp [h]
    clear hnone
    by_cases hlt : b < pb
    · have HK : Hid (KidFound n f b ks kb 0 0) := ⟨ps, pb, Hp.out, Or.inl ⟨Or.inr hlt, rfl, rfl⟩⟩
      have hy := HYh.out (.int .i64 0) (.int .i64 0)
      have Hy : Hid (Box2 (((w1.setCell ⟨w.heap.size + 1, 0, none⟩ (.int .i64 0)).setCell ⟨w.heap.size + 1, 1, none⟩ (.int .i64 0)).alloc (.cells #[.int .i64 ps, .int .i64 pb] 35)) (w.heap.size + 1) (.int .i64 0) (.int .i64 0)) := hy
      clear hy
      rcases e0 with e0 | ⟨e0, e1⟩
      all_goals
        go_wp2
        have hy := Hy.out
        refine bodyPost_ret (v := .agg #[.int .i64 0, .int .i64 0]) (by simp [results, Try.results97, go_sem, hy.1.1, hy.2.1]) rfl ⟨⟨_, _, rfl, HK.out⟩, HBh.out _ _⟩
    · have HK : Hid (KidFound n f b ks kb ps pb) := ⟨ps, pb, Hp.out, Or.inr ⟨fun h => by rcases h with h | h; exact HN.out h; exact hlt h, rfl, rfl⟩⟩
      rcases e0 with e0 | ⟨e0, e1⟩
      all_goals
        go_wp2
        have hy := HYh.out (.int .i64 ps) (.int .i64 pb)
        refine bodyPost_ret (v := .agg #[.int .i64 ps, .int .i64 pb]) (by simp [results, Try.results97, go_sem, hy.1.1, hy.2.1]) rfl ⟨⟨_, _, rfl, HK.out⟩, HBh.out _ _⟩

end Go.Proofs.Ytiijnmpenljniad
