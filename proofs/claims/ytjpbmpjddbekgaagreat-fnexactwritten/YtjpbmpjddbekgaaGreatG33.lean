/- What impl.slotsOf and impl.countOwn answer: how many slots of a tree none of the others has. -/
import Derived.Test.YtjpbmpjddbekgaaGreatG30
import Derived.Test.YtjpbmpjddbekgaaGreatG17
namespace Go.Proofs.YtjpbmpjddbekgaaGreat
open Go.RowKit Go.Shelf Go.Maps
set_option linter.unusedVariables false
attribute [local go_sem] Oper.semAt_some

theorem ptrMapT : Tryz.prog.underlying 158 = some (.map 43 2) := by kernel_rfl
theorem zeroC (w : World) : (zeroValue 2).run Tryz.prog w = .ok (.int .i64 0) w := by kernel_rfl
theorem has_look {w : World} {M n : Nat} {D : DataW Value} (h : w.ownsMap Tryz.prog 43 rawE M n D) {key : Value} {kl : Lit} {c : Int} (hk : keyOf Tryz.prog 43 key = some kl) (hat : D.atKey kl (.held (.int .i64 0)) = .held (.int .i64 c)) :
    (Instr.lookup 158 (.map (some M)) key false).run Tryz.prog w = .ok (.int .i64 c) w := by
  obtain ⟨v', ps, hrun, hv⟩ := h.lookup lawP ptrMapT (zeroC w) (rawE_mk _) hk
  have e1 := rawE_inv hv
  rw [hat] at e1
  have e2 := DataW.held.inj e1
  rw [e2]
  exact hrun

/-- A map that tells of a pointer how many have it: none just where P does not hold. -/
def HasD (P : Int × Int → Prop) (D : DataW Value) : Prop := ∀ s b kl, keyOf Tryz.prog 43 (.agg #[.int .i64 s, .int .i64 b]) = some kl → ∃ c : Int, D.atKey kl (.held (.int .i64 0)) = .held (.int .i64 c) ∧ (c = 0 ↔ ¬ P (s, b))
def HasPost (P : Int × Int → Prop) (w : World) (e : Ending) (w' : World) : Prop := ∃ M n D, e = .returned (.map (some M)) ∧ w'.ownsMap Tryz.prog 43 rawE M n D ∧ w.heap.size ≤ M ∧ M < w'.heap.size ∧ HasD P D ∧ Below w.heap.size w w'
open Classical in
/-- How many of a list P does not hold of. -/
noncomputable def cntNot (P : Int × Int → Prop) (l : List (Int × Int)) : Nat := (l.filter (fun x => ¬ P x)).length
theorem cntNot_yes {P : Int × Int → Prop} {l : List (Int × Int)} {x : Int × Int} (h : ¬ P x) : cntNot P (l ++ [x]) = cntNot P l + 1 := by
  unfold cntNot
  rw [List.filter_append, List.length_append]
  simp [h]
theorem cntNot_no {P : Int × Int → Prop} {l : List (Int × Int)} {x : Int × Int} (h : P x) : cntNot P (l ++ [x]) = cntNot P l := by
  unfold cntNot
  rw [List.filter_append, List.length_append]
  simp [h]
theorem cntNot_le (P : Int × Int → Prop) (l : List (Int × Int)) : cntNot P l ≤ l.length := List.length_filter_le _ _

set_option maxRecDepth 20000 in
set_option maxHeartbeats 2000000 in
theorem countOwn_any (v0 v1 v2 v3 : Value) (lo hi : Nat) (W : WorldD) (rs rb : Int) (ov : Value) (P : Int × Int → Prop) (w : World) (h : WorldAt w lo hi v0 v1 v2 v3 W) (hh : hi ≤ w.heap.size) (hR : Right W.pool) (hT : TreeOk W.pool rs rb)
    (hW : ∀ w', Below w.heap.size w w' → Calls Tryz.prog 135 #[worldV v0 v1 v2 v3 W, ov] w' (HasPost P w')) :
    Calls Tryz.prog 94 #[worldV v0 v1 v2 v3 W, .agg #[.int .i64 rs, .int .i64 rb], ov] w fun e w' => e = .returned (.int .i64 (cntNot P (treeL W.pool rs rb))) ∧ Below w.heap.size w w' := by
  have hdd : ∀ k : Nat, (Fence.wide.depth.isSome = true → 1 ≤ k) := fun k h => by simp [Fence.wide] at h
  have Hp := hideQ h
  clear h
  have ha1 := below_alloc w (.cells #[v0, v1, .int .i64 W.time, .int .i64 W.next, v2, v3] 38)
  have ha2 := below_alloc (w.alloc (.cells #[v0, v1, .int .i64 W.time, .int .i64 W.next, v2, v3] 38)) (.cells #[.int .i64 rs, .int .i64 rb] 43)
  have hA := below_next ha1 ha2
  have HX := hideQ ((Box6.new w v0 v1 (.int .i64 W.time) (.int .i64 W.next) v2 v3 38).below ha2)
  have hy := Box2.new (w.alloc (.cells #[v0, v1, .int .i64 W.time, .int .i64 W.next, v2, v3] 38)) (.int .i64 rs) (.int .i64 rb) 43
  rw [World.size_alloc] at hy
  have HY := hideQ hy
  clear hy ha1 ha2
  obtain ⟨⟨x0, -⟩, ⟨x1, -⟩, ⟨x2, -⟩, ⟨x3, -⟩, ⟨x4, -⟩, ⟨x5, -⟩⟩ := HX.out
  refine (callsIn_wide (n := 3)).1 ?_
  refine callsIn_of_wp_marks Tryz.func94 rfl trivial ?_ rfl
  simp only [Tryz.ntmps94, List.size_toArray, List.length_cons, List.length_nil, Nat.reduceAdd, Nat.reduceSub, Array.replicate_succ, Array.replicate_zero, List.push_toArray, List.append_toArray, List.nil_append, List.cons_append]
  gi_wp2
  clear x0 x1 x2 x3 x4 x5
  generalize (w.alloc (.cells #[v0, v1, .int .i64 W.time, .int .i64 W.next, v2, v3] 38)).alloc (.cells #[.int .i64 rs, .int .i64 rb] 43) = W0 at hA HX HY ⊢
  refine ⟨trivial, (callsIn_wide.2 (hW W0 hA)).mono ?_⟩
  rintro e w1 ⟨M, nm, D, rfl, hm, hM1, hM2, hD, hb1⟩
  have hB1 := below_next hA hb1
  have HX1 := hideQ (HX.out.below hb1)
  have HY1 := hideQ (HY.out.below hb1)
  have Hm1 := hideQ hm
  have HDD := hideQ hD
  have HM := hideQ (And.intro hM1 hM2)
  have HZ1 := hideQ (show W0.heap.size ≤ w1.heap.size ∧ w.heap.size ≤ W0.heap.size from ⟨hb1.size, hA.size⟩)
  clear hm hD hM1 hM2 hb1 hA HX HY hW
  -- the variables 'has' and 'own'
  have ha1 := below_alloc w1 (.cells #[.map (some M)] 158)
  have ha2 := below_alloc (w1.alloc (.cells #[.map (some M)] 158)) (.cells #[.int .i64 0] 2)
  have hA2 := below_next ha1 ha2
  have hc1 : Cell (w1.alloc (.cells #[.map (some M)] 158)) w1.heap.size 0 (.map (some M)) := cell_of_block (heap_alloc_new _ _) rfl
  have hc2 : Cell ((w1.alloc (.cells #[.map (some M)] 158)).alloc (.cells #[.int .i64 0] 2)) (w1.heap.size + 1) 0 (.int .i64 0) := by
    have := cell_of_block (i := 0) (heap_alloc_new (w1.alloc (.cells #[.map (some M)] 158)) (.cells #[.int .i64 0] 2)) rfl
    rw [World.size_alloc] at this
    exact this
  have HC1 := hideQ (hc1.below ha2)
  have HC2 := hideQ hc2
  have HX2 := hideQ (HX1.out.below hA2)
  have HY2 := hideQ (HY1.out.below hA2)
  have Hm2 := hideQ (Hm1.out.kept (grown_of_below hA2 none) (by simp))
  have hB2 := below_next hB1 hA2
  have HZ2 := hideQ (show ((w1.alloc (.cells #[.map (some M)] 158)).alloc (.cells #[.int .i64 0] 2)).heap.size = w1.heap.size + 2 by rw [World.size_alloc, World.size_alloc])
  clear ha1 ha2 hA2 hc1 hc2 HX1 HY1 Hm1 hB1
  obtain ⟨⟨x0, -⟩, ⟨x1, -⟩, ⟨x2, -⟩, ⟨x3, -⟩, ⟨x4, -⟩, ⟨x5, -⟩⟩ := HX2.out
  obtain ⟨⟨y0, -⟩, ⟨y1, -⟩⟩ := HY2.out
  gi_wp2
  clear x0 x1 x2 x3 x4 x5 y0 y1
  generalize (w1.alloc (.cells #[.map (some M)] 158)).alloc (.cells #[.int .i64 0] 2) = W2 at HC1 HC2 HX2 HY2 Hm2 hB2 HZ2 ⊢
  refine ⟨trivial, (callsIn_wide.2 (slotsOf_any v0 v1 v2 v3 W rs rb W2)).mono ?_⟩
  rintro e w3 ⟨rfl, hbw, hbt, hb3, hz3⟩
  have HC3 := hideQ (HC1.out.below hb3)
  have HO3 := hideQ (HC2.out.below hb3)
  have Hm3 := hideQ (Hm2.out.kept (grown_of_below hb3 none) (by simp))
  have hB3 := below_next hB2 hb3
  have HZ3 := hideQ (show w.heap.size ≤ W0.heap.size ∧ W0.heap.size ≤ M ∧ M < w1.heap.size ∧ w1.heap.size + 4 = w3.heap.size by have := HZ1.out; have := HM.out; have := HZ2.out; omega)
  have hseq := slots_stops w.heap.size w3.heap.size 2 W2.heap.size (W2.heap.size + 1) lo hi W.pool v0 v1 v2 v3 W.time W.next rs rb w3 (by have := HZ3.out; omega) (Nat.le_refl _) hh hR hT hbw hbt (Hp.out.pool.1.below hB3)
  clear hb3 hbw hbt hz3 HC1 HC2 Hm2 hB2 HZ2 HX2 HY2
  gi_wp2
  have hN := treeQ_len W.pool rs rb
  have hz := HZ3.out
  refine wpIn_rangeFunc_ownH rfl (by omega) (gf := 173) (lb := #[.pointer (some ⟨W2.heap.size, 0, none⟩), .pointer (some ⟨W2.heap.size + 1, 0, none⟩)]) rfl trivial (enters_of Tryz.func173 (by kernel_rfl) rfl) hseq keepLoc_t (keepLoc_b (by omega)) (Below.refl _ _) (fun _ => rfl)
    (fun pre X => ((Cell X w1.heap.size 0 (.map (some M)) ∧ Cell X (w1.heap.size + 1) 0 (.int .i64 (cntNot P (pre.map (·.1.2))))) ∧ X.ownsMap Tryz.prog 43 rawE M nm D) ∧ Below w.heap.size w X)
    (fun _ _ _ => False)
    (fun s X Y row hs hg hr => ⟨⟨⟨cell_own hs.1.1.1 hg hr, cell_own hs.1.1.2 hg hr⟩, hs.1.2.kept hg (fun e => by have := (hr _ e.symm).1; omega)⟩, ownFrom_below (β := Unit) (Nat.le_refl _) (by omega) () X Y row hs.2 hg hr⟩)
    (fun _ _ _ _ _ hs _ _ => hs)
    ⟨⟨⟨HC3.out, HO3.out⟩, Hm3.out⟩, hB3⟩
    (fun x a' X => ∃ Bx, w1.heap.size + 1 < Bx ∧ Box2 X Bx (.int .i64 x.1.2.1) (.int .i64 x.1.2.2) ∧ a' = { tmps := #[worldV v0 v1 v2 v3 W, .agg #[.int .i64 rs, .int .i64 rb], ov, .pointer (some ⟨w.heap.size, 0, none⟩), .pointer (some ⟨w.heap.size + 1, 0, none⟩), undef, .int .i64 0, .pointer (some ⟨w1.heap.size, 0, none⟩), .pointer (some ⟨w1.heap.size + 1, 0, none⟩), undef, .pointer (some ⟨Bx, 0, none⟩), .agg #[v0, v1, .int .i64 W.time, .int .i64 W.next, v2, v3], ov, .map (some M), .agg #[v0, v1, .int .i64 W.time, .int .i64 W.next, v2, v3], .agg #[.int .i64 rs, .int .i64 rb], .func (.func 173) #[] #[.pointer (some ⟨W2.heap.size, 0, none⟩), .pointer (some ⟨W2.heap.size + 1, 0, none⟩)], .agg #[.int .i64 x.1.1.1, .int .i64 x.1.1.2], .agg #[.int .i64 x.1.2.1, .int .i64 x.1.2.2], undef, undef, undef, undef, undef, undef, undef], defers := [] })
    (fun x a' _ X Y row hs hg hr => by obtain ⟨Bx, h1, h2, h3⟩ := hs; exact ⟨Bx, h1, ⟨cell_own h2.1 hg hr, cell_own h2.2 hg hr⟩, h3⟩)
    ?assign ?body ?done ?stop
  case assign =>
    rintro l pre x X K ⟨⟨⟨i1, i2⟩, i3⟩, i4⟩ hK
    have ha := below_alloc X (.cells #[.int .i64 x.1.2.1, .int .i64 x.1.2.2] 43)
    have hy := Box2.new X (.int .i64 x.1.2.1) (.int .i64 x.1.2.2) 43
    have HK := hideQ (hK _ _ ((KeepsOthers.alloc _ _).from _) (KeepLoc.of_below ha i4.size) ⟨⟨⟨i1.below ha, i2.below ha⟩, i3.kept (grown_of_below ha none) (by simp)⟩, below_next i4 ha⟩ ⟨X.heap.size, i2.lt, hy, rfl⟩)
    clear ha hy hK i1 i2 i3 i4
    gi_wp2
    exact HK.out
  case body =>
    rintro l pre x a' X hl - ⟨⟨⟨i1, i2⟩, i3⟩, i4⟩ ⟨Bx, hBx, hbx, rfl⟩ hlt
    obtain ⟨kl, hkl⟩ := keyP_of x.2.1 x.2.2.1
    obtain ⟨c, hc1, hc2⟩ := HDD.out _ _ kl hkl
    have hlk := has_look i3 hkl hc1
    have e : (pre ++ [x]).map (·.1.2) = pre.map (·.1.2) ++ [x.1.2] := by simp
    have hq : cntNot P (pre.map (·.1.2)) ≤ 73 := by
      have := cntNot_le P (pre.map (·.1.2))
      rw [List.length_map] at this
      omega
    have HE := hideQ e
    have HI := hideQ (And.intro i1 (And.intro i2 (And.intro i3 i4)))
    have HC := hideQ hc2
    obtain ⟨⟨b0, -⟩, ⟨b1, -⟩⟩ := hbx
    obtain ⟨c0, -⟩ := i1
    obtain ⟨o0, of⟩ := i2
    clear i3 i4 hc1 hc2 hkl e hseq
    by_cases hc0 : c = 0
    · subst hc0
      have HN := hideQ (HC.out.1 rfl)
      have Hy := hideQ (cntNot_yes (l := pre.map (·.1.2)) HN.out)
      obtain ⟨q, hqq⟩ : ∃ q, cntNot P (pre.map (·.1.2)) = q := ⟨_, rfl⟩
      rw [hqq] at o0 hq
      gi_wp2
      obtain ⟨i1, i2, i3, i4⟩ := HI.out
      refine ⟨(KeepsOthers.setCell _ _ _).from _, keepLoc_set (by omega) (by omega) _, ⟨⟨i1.other _ (.inl (by omega)), ?_⟩, i3.kept (grownBy_setCell' _ _ _) (by simp; omega)⟩, i4.setCell (p := ⟨w1.heap.size + 1, 0, none⟩) (by simp; omega) _⟩
      rw [HE.out, Hy.out, hqq]
      exact i2.set _
    · have HN := hideQ (Classical.not_not.1 (fun hp => hc0 (HC.out.2 hp)))
      have Hy := hideQ (cntNot_no (l := pre.map (·.1.2)) HN.out)
      gi_wp2
      obtain ⟨i1, i2, i3, i4⟩ := HI.out
      refine ⟨KeepsFrom.refl _ _, KeepLoc.refl _ _ _, ⟨⟨i1, ?_⟩, i3⟩, i4⟩
      rw [HE.out, Hy.out]
      exact i2
  case done =>
    rintro Dd ys X hD hys ⟨⟨⟨i1, i2⟩, i3⟩, i4⟩ hK
    have hv : ys.map (·.1.2) = treeL W.pool rs rb := by
      rw [← treeQ_snd, ← hys, List.map_map]
      rfl
    rw [hv] at i2
    obtain ⟨o0, -⟩ := i2
    gi_wp2
    refine ⟨by simp, .inl ⟨_, _, rfl, run_takeDeferred hK, ?_⟩⟩
    exact ⟨_, results_tmp rfl _ _ _, rfl, i4.trans (belowK_b (w := w) (Nat.le_refl _) X Dd _ _ (by omega) hK rfl rfl)⟩
  case stop =>
    rintro Dd c pre X _ _ h _
    exact h.elim

end Go.Proofs.YtjpbmpjddbekgaaGreat
