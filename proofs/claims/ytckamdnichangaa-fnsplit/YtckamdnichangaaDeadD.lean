/- What impl.timeRight, the question of impl.Split, impl.part and impl.Split answer. -/
import Derived.Test.YtckamdnichangaaDeadA
import Derived.Test.YtckamdnichangaaPcl
namespace Go.Proofs.Ytckamdnichangaa
open Go.RowKit Go.Maps
set_option linter.unusedVariables false

set_option maxRecDepth 20000 in
set_option maxHeartbeats 400000 in
theorem timeRight_any (n : Int) (w : World) : Calls Try.prog 88 #[.int .i64 n] w fun e w' => BoolIs (TimeOk n) e ∧ w' = w := by
  by_cases h1 : 0 ≤ n
  · by_cases h2 : n ≤ 1000000
    · go_enter Try.func88, Try.ntmps88
      go_wp2
      go_ret
      exact ⟨BoolIs.yes ⟨h1, h2⟩, rfl⟩
    · go_enter Try.func88, Try.ntmps88
      go_wp2
      go_ret
      exact ⟨BoolIs.no fun h => by have := h.2; omega, rfl⟩
  · go_enter Try.func88, Try.ntmps88
    go_wp2
    go_ret
    exact ⟨BoolIs.no fun h => by have := h.1; omega, rfl⟩

set_option maxRecDepth 20000 in
set_option maxHeartbeats 400000 in
theorem behind_any (x y t : Int) (T : Nat) (w : World) (hT : w.cell? ⟨T, 0, none⟩ = some (.int .i64 t)) : Calls Try.prog 90 #[.agg #[.int .i64 x, .int .i64 y], .pointer (some ⟨T, 0, none⟩)] w fun e w' => BoolIs (t < y) e ∧ Below w.heap.size w w' := by
  have hbw := below_alloc w (.cells #[.int .i64 x, .int .i64 y] 33)
  have hT2 := (hbw.cell (p := ⟨T, 0, none⟩) (lt_of_cell hT)).trans hT
  by_cases h : t < y
  · go_enter Try.func90, Try.ntmps90
    go_wp2
    go_ret
    exact ⟨⟨_, rfl, by simpa using h⟩, hbw⟩
  · go_enter Try.func90, Try.ntmps90
    go_wp2
    go_ret
    exact ⟨⟨_, rfl, by simpa using h⟩, hbw⟩

/-- Two new rows. -/
def NewTwo (l l' : List (Int × Int)) (w w' : World) (v v' : Value) : Prop := RowL w' w.heap.size v l ∧ RowL w' w.heap.size v' l' ∧ (∀ q, v.ownBlock = some q → v'.ownBlock ≠ some q) ∧ Below w.heap.size w w'

/-- One more pointer behind a row, another row beside it. -/
theorem two_next {w1 w2 : World} {base g cap : Nat} {v v' : Value} {l l' : List (Int × Int)} {x y : Int} (h' : RowL w1 base v' l') (ha : ∀ q, v.ownBlock = some q → v'.ownBlock ≠ some q)
    (hown : w2.ownsRow base 33 2 (.slice (some ⟨g, 0, none⟩) (l.length + 1) cap) (l.length + 1) (pcl l ++ [.int .i64 x, .int .i64 y])) (hg : w1.grownBy w2 v.ownBlock) (hat : v.ownBlock = some g ∨ g = w1.heap.size) :
    RowL w2 base (.slice (some ⟨g, 0, none⟩) (l.length + 1) cap) (l ++ [(x, y)]) ∧ RowL w2 base v' l' ∧ (∀ q, (Value.slice (some ⟨g, 0, none⟩) (l.length + 1) cap).ownBlock = some q → v'.ownBlock ≠ some q) := by
  refine ⟨?_, h'.turned hg (fun q hq e => ha q e hq), fun q hq e => ?_⟩
  · unfold RowL
    rw [pcl_append, List.length_append]
    exact hown
  · simp only [Value.ownBlock, Option.some.injEq] at hq
    subst hq
    rcases hat with h | h
    · exact ha _ h e
    · have := (h'.lt e).2
      omega

set_option maxRecDepth 20000 in
set_option maxHeartbeats 2000000 in
theorem part_any (v : Value) (n lo hi T : Nat) (f g : Nat → Int) (t : Int) (w : World) (h1 : PtrsAt w lo hi v n f g) (hn : n ≤ 200) (hT : w.cell? ⟨T, 0, none⟩ = some (.int .i64 t)) :
    Calls Try.prog 89 #[v, .func (.func 90) #[] #[.pointer (some ⟨T, 0, none⟩)]] w fun e w' => ∃ vy vo, e = .returned (.tuple #[vy, vo]) ∧ NewTwo (youngL f g t n) (oldL f g t n) w w' vy vo := by
  have Hp := hideD h1
  have HT := hideD hT
  obtain ⟨m1, a, c, rfl, mc, _⟩ := id h1
  clear h1 hT
  obtain ⟨i0, hi0, hzz⟩ := Option.map_eq_some_iff.1 infoPtrL
  simp only [Prod.mk.injEq] at hzz
  have HI := hideD (And.intro hi0 hzz)
  clear hi0 hzz
  go_enter Try.func89, Try.ntmps89
  go_wp2
  go_loopw [6, 7, 12] (fun vy vo i wr => ∃ k : Nat, k ≤ n ∧ i = .int .i64 k ∧ NewTwo (youngL f g t k) (oldL f g t k) w wr vy vo) (fun _ _ i _ => n - (intOf i).toNat)
  case atStart => exact ⟨0, Nat.zero_le _, rfl, RowL.nil _ _, RowL.nil _ _, fun q hq => by simp [Value.ownBlock] at hq, Below.refl _ _⟩
  case round =>
    obtain ⟨k, hk, rfl, hy, ho, hap, hb⟩ := hrel
    have Hy := hideD hy
    have Ho := hideD ho
    have Hap := hideD hap
    have hlen := young_len f g t k
    clear hy ho hap
    by_cases hlt : k < n
    · have hlt' : (k : Int) < (n : Int) := by omega
      obtain ⟨b, off, rfl, q0, q1⟩ := (Hp.out.below hb).cellsD hlt
      have hal := below_alloc wr (.cells #[.int .i64 (f k), .int .i64 (g k)] 33)
      have HV := hideD (Box2.new wr (.int .i64 (f k)) (.int .i64 (g k)) 33)
      have hB1 := below_next hb hal
      have HT1 := hideD ((hB1.cell (p := ⟨T, 0, none⟩) (lt_of_cell HT.out)).trans HT.out)
      have hmf : ∀ (fn : Fn) (first cap : Array Value) (w : World), (Instr.makeFunc fn first cap).run Try.prog w = .ok (.func fn first cap) w := fun _ _ _ _ => rfl
      go_wp2_with fail
      refine (behind_any (f k) (g k) t T _ HT1.out).mono ?_
      rintro e w1 ⟨⟨s, rfl, hs⟩, hb1⟩
      have Hy1 := hideD ((Hy.out.below hal).below hb1)
      have Ho1 := hideD ((Ho.out.below hal).below hb1)
      have HV1 := hideD (HV.out.below hb1)
      have hB2 := below_next hB1 hb1
      clear hb1 hB1 hal Hy Ho HV q0 q1 HT1
      have hz2 := hB2.size
      obtain ⟨⟨x0, x1⟩, ⟨x2, x3⟩⟩ := HV1.out
      have hba := below_alloc w1 (.cells #[.int .i64 (f k), .int .i64 (g k)] 33)
      have Hy2 := hideD (Hy1.out.below hba)
      have Ho2 := hideD (Ho1.out.below hba)
      have hB3 := below_next hB2 hba
      have hz3 : (w1.alloc (.cells #[.int .i64 (f k), .int .i64 (g k)] 33)).heap.size = w1.heap.size + 1 := World.size_alloc _ _
      have HN := hideD (World.news_of_block (heap_alloc_last w1 (.cells #[.int .i64 (f k), .int .i64 (g k)] 33)))
      clear hba
      by_cases hq : t < g k
      · obtain rfl : s = true := hs.2 hq
        have ey : youngL f g t (k + 1) = youngL f g t k ++ [(f k, g k)] := if_pos hq
        have eo : oldL f g t (k + 1) = oldL f g t k := if_pos hq
        clear hs hq
        go_wp2_with (first
          | (at_builtin; refine wpList_append_lies _ rfl _ _ 27 rfl w.heap.size 33 i0 (.agg #[.int .i64 0, .int .i64 0]) 2 16 (by kernel_rfl) HI.out.1 HI.out.2.1 HI.out.2.2.1 HI.out.2.2.2 rfl (by decide) _ _ _ rfl Hy2.out ⟨w1.heap.size, 0, none⟩ 1 1 [.int .i64 (f k), .int .i64 (g k)] rfl rfl HN.out (by simp [Value.oneCell']) (by decide) (by unfold maxLen; omega) (by omega) (by omega) _ rfl ?_; intro g' cap' w4 hown4 hgrow4 hat4 hlt4)
          | go_in)
        go_roundw
        case rel =>
          obtain ⟨r1, r2, r3⟩ := two_next Ho2.out Hap.out hown4 hgrow4 hat4
          exact ⟨k + 1, by omega, by go_num, by rw [ey]; exact r1, by rw [eo]; exact r2, r3, hB3.grown hgrow4 hB3.size (fun q hq => (Hy2.out.lt hq).1)⟩
        case measure => simp [intOf]; omega
      · obtain rfl : s = false := bool_no hs hq
        have ey : youngL f g t (k + 1) = youngL f g t k := if_neg hq
        have eo : oldL f g t (k + 1) = oldL f g t k ++ [(f k, g k)] := if_neg hq
        clear hs hq
        go_wp2_with (first
          | (at_builtin; refine wpList_append_lies _ rfl _ _ 27 rfl w.heap.size 33 i0 (.agg #[.int .i64 0, .int .i64 0]) 2 16 (by kernel_rfl) HI.out.1 HI.out.2.1 HI.out.2.2.1 HI.out.2.2.2 rfl (by decide) _ _ _ rfl Ho2.out ⟨w1.heap.size, 0, none⟩ 1 1 [.int .i64 (f k), .int .i64 (g k)] rfl rfl HN.out (by simp [Value.oneCell']) (by decide) (by unfold maxLen; omega) (by omega) (by omega) _ rfl ?_; intro g' cap' w4 hown4 hgrow4 hat4 hlt4)
          | go_in)
        go_roundw
        case rel =>
          obtain ⟨r1, r2, r3⟩ := two_next Hy2.out (fun q h h' => Hap.out q h' h) hown4 hgrow4 hat4
          exact ⟨k + 1, by omega, by go_num, by rw [ey]; exact r2, by rw [eo]; exact r1, fun q h h' => r3 q h' h, hB3.grown hgrow4 hB3.size (fun q hq => (Ho2.out.lt hq).1)⟩
        case measure => simp [intOf]; omega
    · obtain rfl : k = n := by omega
      go_wp2
      go_ret2
      exact ⟨_, _, rfl, Hy.out, Ho.out, Hap.out, hb⟩

/-- What Split answers. -/
def splitY (n : Nat) (f g : Nat → Int) (t : Int) (l : List (Int × Int)) : Prop := (PtrsOk n f g ∧ TimeOk t → l = youngL f g t n) ∧ (¬ (PtrsOk n f g ∧ TimeOk t) → l = [])
def splitO (n : Nat) (f g : Nat → Int) (t : Int) (l : List (Int × Int)) : Prop := (PtrsOk n f g ∧ TimeOk t → l = oldL f g t n) ∧ (¬ (PtrsOk n f g ∧ TimeOk t) → l = [])
theorem splitY_one {n : Nat} {f g : Nat → Int} {t : Int} {l m : List (Int × Int)} (h : splitY n f g t l) (h' : splitY n f g t m) : l = m := by
  by_cases hx : PtrsOk n f g ∧ TimeOk t
  · rw [h.1 hx, h'.1 hx]
  · rw [h.2 hx, h'.2 hx]
theorem splitO_one {n : Nat} {f g : Nat → Int} {t : Int} {l m : List (Int × Int)} (h : splitO n f g t l) (h' : splitO n f g t m) : l = m := by
  by_cases hx : PtrsOk n f g ∧ TimeOk t
  · rw [h.1 hx, h'.1 hx]
  · rw [h.2 hx, h'.2 hx]
theorem split_len {n : Nat} {f g : Nat → Int} {t : Int} {l m : List (Int × Int)} (h : splitY n f g t l) (h' : splitO n f g t m) : l.length ≤ 200 ∧ m.length ≤ 200 := by
  by_cases hx : PtrsOk n f g ∧ TimeOk t
  · rw [h.1 hx, h'.1 hx]
    have := young_len f g t n
    have := hx.1.1
    omega
  · rw [h.2 hx, h'.2 hx]; simp

/-- The answer: two new rows. -/
def NewDead (n : Nat) (f g : Nat → Int) (t : Int) (w : World) (e : Ending) (w' : World) : Prop := ∃ vy vo l l', e = .returned (.agg #[vy, vo]) ∧ splitY n f g t l ∧ splitO n f g t l' ∧ NewTwo l l' w w' vy vo

theorem NewTwo.from {l l' : List (Int × Int)} {w w1 w2 : World} {v v' : Value} (h : NewTwo l l' w1 w2 v v') (hb : Below w.heap.size w w1) : NewTwo l l' w w2 v v' := by
  obtain ⟨h1, h2, h3, h4⟩ := h
  exact ⟨RowL.mono h1 hb.size, RowL.mono h2 hb.size, h3, below_next hb h4⟩

set_option maxRecDepth 20000 in
set_option maxHeartbeats 1000000 in
theorem implSplit_any (v : Value) (n lo hi : Nat) (f g : Nat → Int) (t : Int) (w : World) (h1 : PtrsAt w lo hi v n f g) :
    Calls Try.prog 33 #[v, .int .i64 t] w (NewDead n f g t w) := by
  have Hp := hideD h1
  obtain ⟨m1, a, c, rfl, mc, _⟩ := id h1
  clear h1
  have hmf : ∀ (fn : Fn) (first cap : Array Value) (w : World), (Instr.makeFunc fn first cap).run Try.prog w = .ok (.func fn first cap) w := fun _ _ _ _ => rfl
  have ha := below_alloc w (.cells #[.int .i64 t] 2)
  have ha2 := below_alloc (w.alloc (.cells #[.int .i64 t] 2)) (.cells #[.slice none 0 0, .slice none 0 0] 62)
  have hA := below_next ha ha2
  have HT := hideD (show Cell ((w.alloc (.cells #[.int .i64 t] 2)).alloc (.cells #[.slice none 0 0, .slice none 0 0] 62)) w.heap.size 0 (.int .i64 t) from Cell.below ⟨by rw [World.cell?_alloc_at _ _ _ _ rfl]; rfl, World.frozen?_alloc_at _ _ _ _ rfl⟩ ha2)
  have HR := hideD (Box2.new (w.alloc (.cells #[.int .i64 t] 2)) (.slice none 0 0) (.slice none 0 0) 62)
  rw [World.size_alloc] at HR
  clear ha ha2
  by_cases ho : PtrsOk n f g
  · have Ho := hideD ho
    clear ho
    by_cases hq : TimeOk t
    · have Hq := hideD hq
      clear hq
      go_enter Try.func33, Try.ntmps33
      go_wp2_with fail
      generalize (w.alloc (.cells #[.int .i64 t] 2)).alloc (.cells #[.slice none 0 0, .slice none 0 0] 62) = W at HT HR hA ⊢
      refine (implPtrsRight_any _ n lo hi f g _ (Hp.out.below hA)).mono ?_
      rintro e w1 ⟨⟨s, rfl, hs⟩, hb1⟩
      obtain rfl : s = true := hs.2 Ho.out
      have HT1 := hideD (HT.out.below hb1)
      have HR1 := hideD (HR.out.below hb1)
      have hB1 := below_next hA hb1
      clear hs hb1 hA HT HR
      obtain ⟨x0, x1⟩ := HT1.out
      go_wp2_with (first
        | (go_at_call 88; refine (timeRight_any t _).mono ?_; rintro e w2 ⟨⟨s, rfl, hs⟩, rfl⟩; obtain rfl : s = true := hs.2 Hq.out; clear hs)
        | fail)
      go_wp2_with fail
      refine (part_any _ n lo hi w.heap.size f g t _ (Hp.out.below hB1) Ho.out.1 HT1.out.1).mono ?_
      rintro e w3 ⟨vy, vo, rfl, hnew⟩
      have hb3 := hnew.2.2.2
      have hfn := owns_form hnew.1
      have hfn' := owns_form hnew.2.1
      obtain ⟨ya, yc, rfl, _⟩ := hfn
      obtain ⟨oa, oc, rfl, _⟩ := hfn'
      have HR3 := hideD (HR1.out.below hb3)
      have HN := hideD hnew
      have hz2 : w.heap.size + 1 < w2.heap.size := HR1.out.1.lt
      have hB3 := below_next hB1 hb3
      clear hnew hb3 x0 x1 HT1 HR1
      obtain ⟨⟨x0, x1⟩, ⟨x2, x3⟩⟩ := HR3.out
      go_wp2
      refine bodyPost_ret (v := .agg #[.slice ya (youngL f g t n).length yc, .slice oa (oldL f g t n).length oc]) (by simp [results, Try.results33, go_sem, *]) rfl ?_
      refine ⟨_, _, youngL f g t n, oldL f g t n, rfl, ⟨fun _ => rfl, fun h => absurd ⟨Ho.out, Hq.out⟩ h⟩, ⟨fun _ => rfl, fun h => absurd ⟨Ho.out, Hq.out⟩ h⟩, ?_, ?_, HN.out.2.2.1, (hB3.setCell (by show w.heap.size ≤ w.heap.size + 1; omega) _).setCell (by show w.heap.size ≤ w.heap.size + 1; omega) _⟩
      · exact (((RowL.put HN.out.1 hz2 _).put hz2 _)).mono hB1.size
      · exact (((RowL.put HN.out.2.1 hz2 _).put hz2 _)).mono hB1.size
    · have Hq := hideD hq
      clear hq
      go_enter Try.func33, Try.ntmps33
      go_wp2_with fail
      generalize (w.alloc (.cells #[.int .i64 t] 2)).alloc (.cells #[.slice none 0 0, .slice none 0 0] 62) = W at HT HR hA ⊢
      refine (implPtrsRight_any _ n lo hi f g _ (Hp.out.below hA)).mono ?_
      rintro e w1 ⟨⟨s, rfl, hs⟩, hb1⟩
      obtain rfl : s = true := hs.2 Ho.out
      have HT1 := hideD (HT.out.below hb1)
      have HR1 := hideD (HR.out.below hb1)
      have hB1 := below_next hA hb1
      clear hs hb1 hA HT HR
      obtain ⟨x0, x1⟩ := HT1.out
      obtain ⟨⟨y0, y1⟩, ⟨y2, y3⟩⟩ := HR1.out
      go_wp2_with (first
        | (go_at_call 88; refine (timeRight_any t _).mono ?_; rintro e w2 ⟨⟨s, rfl, hs⟩, rfl⟩; obtain rfl : s = false := bool_no hs Hq.out; clear hs)
        | fail)
      go_wp2
      refine bodyPost_ret (v := .agg #[.slice none 0 0, .slice none 0 0]) (by simp [results, Try.results33, go_sem, *]) rfl ?_
      exact ⟨_, _, [], [], rfl, ⟨fun h => absurd h.2 Hq.out, fun _ => rfl⟩, ⟨fun h => absurd h.2 Hq.out, fun _ => rfl⟩, RowL.nil _ _, RowL.nil _ _, fun q hq => by simp [Value.ownBlock] at hq, (hB1.setCell (by show w.heap.size ≤ w.heap.size + 1; omega) _).setCell (by show w.heap.size ≤ w.heap.size + 1; omega) _⟩
  · have Ho := hideD ho
    clear ho
    go_enter Try.func33, Try.ntmps33
    go_wp2_with fail
    generalize (w.alloc (.cells #[.int .i64 t] 2)).alloc (.cells #[.slice none 0 0, .slice none 0 0] 62) = W at HT HR hA ⊢
    refine (implPtrsRight_any _ n lo hi f g _ (Hp.out.below hA)).mono ?_
    rintro e w1 ⟨⟨s, rfl, hs⟩, hb1⟩
    obtain rfl : s = false := bool_no hs Ho.out
    have HR1 := hideD (HR.out.below hb1)
    have hB1 := below_next hA hb1
    clear hs hb1 hA HT HR
    obtain ⟨⟨y0, y1⟩, ⟨y2, y3⟩⟩ := HR1.out
    go_wp2
    refine bodyPost_ret (v := .agg #[.slice none 0 0, .slice none 0 0]) (by simp [results, Try.results33, go_sem, *]) rfl ?_
    exact ⟨_, _, [], [], rfl, ⟨fun h => absurd h.1 Ho.out, fun _ => rfl⟩, ⟨fun h => absurd h.1 Ho.out, fun _ => rfl⟩, RowL.nil _ _, RowL.nil _ _, fun q hq => by simp [Value.ownBlock] at hq, (hB1.setCell (by show w.heap.size ≤ w.heap.size + 1; omega) _).setCell (by show w.heap.size ≤ w.heap.size + 1; omega) _⟩

end Go.Proofs.Ytckamdnichangaa
