/- What spec.l03Split and spec.Split answer. -/
import Derived.Test.YtckamdnichangaeDeadB
import Derived.Test.YtckamdnichangaeDeadD
namespace Go.Proofs.Ytckamdnichangae
open Go.RowKit Go.Maps
set_option linter.unusedVariables false

set_option maxRecDepth 20000 in
set_option maxHeartbeats 2000000 in
theorem l03Split_any (v : Value) (n lo hi : Nat) (f g : Nat → Int) (t : Int) (w : World) (h1 : PtrsAt w lo hi v n f g) (hn : n ≤ 200) :
    Calls Try.prog 70 #[v, .int .i64 t] w fun e w' => ∃ vy vo, e = .returned (.tuple #[vy, vo]) ∧ NewTwo (youngL f g t n) (oldL f g t n) w w' vy vo := by
  have Hp := hideD h1
  obtain ⟨m1, a, c, rfl, mc, _⟩ := id h1
  clear h1
  unfold maxLen at m1
  obtain ⟨i0, hi0, hzz⟩ := Option.map_eq_some_iff.1 infoPtrL
  simp only [Prod.mk.injEq] at hzz
  have HI := hideD (And.intro hi0 hzz)
  clear hi0 hzz
  have ha := below_alloc w (.cells #[] 32)
  have ha2 := below_alloc (w.alloc (.cells #[] 32)) (.cells #[] 32)
  have hA := hideD (below_next ha ha2)
  have l1 : RowL (w.alloc (.cells #[] 32)) w.heap.size (.slice (some ⟨w.heap.size, 0, none⟩) 0 0) [] := World.ownsRow_lit (e := 32) (size := 2) w #[] 0 (Nat.le_refl _) (by unfold maxLen; omega) rfl
  have l2 : RowL ((w.alloc (.cells #[] 32)).alloc (.cells #[] 32)) w.heap.size (.slice (some ⟨w.heap.size + 1, 0, none⟩) 0 0) [] := by
    have := World.ownsRow_lit (e := 32) (size := 2) (base := w.heap.size) (w.alloc (.cells #[] 32)) #[] 0 (by rw [World.size_alloc]; omega) (by unfold maxLen; omega) rfl
    rw [World.size_alloc] at this
    exact this
  have L1 := hideD (l1.below ha2)
  have L2 := hideD l2
  clear ha ha2 l1 l2
  go_enter Try.func70, Try.ntmps70
  go_wp2
  go_loopw [6, 7, 8] (fun vy vo i wr => ∃ k : Nat, k ≤ n ∧ i = .int .i64 k ∧ NewTwo (youngL f g t k) (oldL f g t k) w wr vy vo) (fun _ _ i _ => n - (intOf i).toNat)
  case atStart => exact ⟨0, Nat.zero_le _, rfl, L1.out, L2.out, fun q hq e => by simp [Value.ownBlock] at hq e; omega, hA.out⟩
  case round =>
    obtain ⟨k, hk, rfl, hy, ho, hap, hb⟩ := hrel
    have Hy := hideD hy
    have Ho := hideD ho
    have Hap := hideD hap
    have hlen := young_len f g t k
    clear hy ho hap L1 L2 hA
    by_cases hlt : k < n
    · have hlt' : (k : Int) < (n : Int) := by omega
      obtain ⟨b, off, rfl, x0, x2⟩ := (Hp.out.below hb).cellsD hlt
      have hba := below_alloc wr (.cells #[.int .i64 (f k), .int .i64 (g k)] 32)
      have Hy2 := hideD (Hy.out.below hba)
      have Ho2 := hideD (Ho.out.below hba)
      have hB3 := below_next hb hba
      have hz2 := hb.size
      have hz3 : (wr.alloc (.cells #[.int .i64 (f k), .int .i64 (g k)] 32)).heap.size = wr.heap.size + 1 := World.size_alloc _ _
      have HN := hideD (World.news_of_block (heap_alloc_last wr (.cells #[.int .i64 (f k), .int .i64 (g k)] 32)))
      clear hba
      by_cases hq : t < g k
      · have ey : youngL f g t (k + 1) = youngL f g t k ++ [(f k, g k)] := if_pos hq
        have eo : oldL f g t (k + 1) = oldL f g t k := if_pos hq
        go_wp2_with (first
          | (at_builtin; refine wpList_append_lies _ rfl _ _ 33 rfl w.heap.size 32 i0 (.agg #[.int .i64 0, .int .i64 0]) 2 16 (by kernel_rfl) HI.out.1 HI.out.2.1 HI.out.2.2.1 HI.out.2.2.2 rfl (by decide) _ _ _ rfl Hy2.out ⟨wr.heap.size, 0, none⟩ 1 1 [.int .i64 (f k), .int .i64 (g k)] rfl rfl HN.out (by simp [Value.oneCell']) (by decide) (by unfold maxLen; omega) (by omega) (by omega) _ rfl ?_; intro g' cap' w4 hown4 hgrow4 hat4 hlt4)
          | go_in)
        go_roundw
        case rel =>
          obtain ⟨r1, r2, r3⟩ := two_next Ho2.out Hap.out hown4 hgrow4 hat4
          exact ⟨k + 1, by omega, by go_num, by rw [ey]; exact r1, by rw [eo]; exact r2, r3, hB3.grown hgrow4 hB3.size (fun q hq => (Hy2.out.lt hq).1)⟩
        case measure => simp [intOf]; omega
      · have ey : youngL f g t (k + 1) = youngL f g t k := if_neg hq
        have eo : oldL f g t (k + 1) = oldL f g t k ++ [(f k, g k)] := if_neg hq
        go_wp2_with (first
          | (at_builtin; refine wpList_append_lies _ rfl _ _ 33 rfl w.heap.size 32 i0 (.agg #[.int .i64 0, .int .i64 0]) 2 16 (by kernel_rfl) HI.out.1 HI.out.2.1 HI.out.2.2.1 HI.out.2.2.2 rfl (by decide) _ _ _ rfl Ho2.out ⟨wr.heap.size, 0, none⟩ 1 1 [.int .i64 (f k), .int .i64 (g k)] rfl rfl HN.out (by simp [Value.oneCell']) (by decide) (by unfold maxLen; omega) (by omega) (by omega) _ rfl ?_; intro g' cap' w4 hown4 hgrow4 hat4 hlt4)
          | go_in)
        go_roundw
        case rel =>
          obtain ⟨r1, r2, r3⟩ := two_next Hy2.out (fun q h h' => Hap.out q h' h) hown4 hgrow4 hat4
          exact ⟨k + 1, by omega, by go_num, by rw [ey]; exact r2, by rw [eo]; exact r1, fun q h h' => r3 q h' h, hB3.grown hgrow4 hB3.size (fun q hq => (Ho2.out.lt hq).1)⟩
        case measure => simp [intOf]; omega
    · obtain rfl : k = n := by omega
      go_wp2
      go_ret2
      exact ⟨_, _, rfl, Hy.out, Ho.out, Hap.out, hb⟩

set_option maxRecDepth 20000 in
set_option maxHeartbeats 1000000 in
theorem specSplit_any (v : Value) (n lo hi : Nat) (f g : Nat → Int) (t : Int) (w : World) (h1 : PtrsAt w lo hi v n f g) :
    Calls Try.prog 30 #[v, .int .i64 t] w (NewDead n f g t w) := by
  have Hp := hideD h1
  obtain ⟨m1, a, c, rfl, mc, _⟩ := id h1
  clear h1
  have hA := below_alloc w (.cells #[.slice none 0 0, .slice none 0 0] 56)
  have HR := hideD (Box2.new w (.slice none 0 0) (.slice none 0 0) 56)
  by_cases ho : PtrsOk n f g
  · have Ho := hideD ho
    clear ho
    by_cases hq : TimeOk t
    · have Hq := hideD hq
      clear hq
      go_enter Try.func30, Try.ntmps30
      go_wp2_with fail
      generalize w.alloc (.cells #[.slice none 0 0, .slice none 0 0] 56) = W at HR hA ⊢
      refine (specPtrsRight_any _ n lo hi f g _ (Hp.out.below hA)).mono ?_
      rintro e w1 ⟨⟨s, rfl, hs⟩, hb1⟩
      obtain rfl : s = true := hs.2 Ho.out
      have HR1 := hideD (HR.out.below hb1)
      have hB1 := below_next hA hb1
      clear hs hb1 hA HR
      go_wp2_with (first
        | (go_at_call 66; refine (l01Is_any t 0 1000000 _).mono ?_; rintro e w2 ⟨⟨s, rfl, hs⟩, rfl⟩; obtain rfl : s = true := hs.2 Hq.out; clear hs)
        | fail)
      go_wp2_with fail
      refine (l03Split_any _ n lo hi f g t _ (Hp.out.below hB1) Ho.out.1).mono ?_
      rintro e w3 ⟨vy, vo, rfl, hnew⟩
      have hb3 := hnew.2.2.2
      have hfn := owns_form hnew.1
      have hfn' := owns_form hnew.2.1
      obtain ⟨ya, yc, rfl, _⟩ := hfn
      obtain ⟨oa, oc, rfl, _⟩ := hfn'
      have HR3 := hideD (HR1.out.below hb3)
      have HN := hideD hnew
      have hz2 : w.heap.size < w2.heap.size := HR1.out.1.lt
      have hB3 := below_next hB1 hb3
      clear hnew hb3 HR1
      obtain ⟨⟨x0, x1⟩, ⟨x2, x3⟩⟩ := HR3.out
      go_wp2
      refine bodyPost_ret (v := .agg #[.slice ya (youngL f g t n).length yc, .slice oa (oldL f g t n).length oc]) (by simp [results, Try.results30, go_sem, *]) rfl ?_
      refine ⟨_, _, youngL f g t n, oldL f g t n, rfl, ⟨fun _ => rfl, fun h => absurd ⟨Ho.out, Hq.out⟩ h⟩, ⟨fun _ => rfl, fun h => absurd ⟨Ho.out, Hq.out⟩ h⟩, ?_, ?_, HN.out.2.2.1, (hB3.setCell (Nat.le_refl _) _).setCell (Nat.le_refl _) _⟩
      · exact (((RowL.put HN.out.1 hz2 _).put hz2 _)).mono hB1.size
      · exact (((RowL.put HN.out.2.1 hz2 _).put hz2 _)).mono hB1.size
    · have Hq := hideD hq
      clear hq
      go_enter Try.func30, Try.ntmps30
      go_wp2_with fail
      generalize w.alloc (.cells #[.slice none 0 0, .slice none 0 0] 56) = W at HR hA ⊢
      refine (specPtrsRight_any _ n lo hi f g _ (Hp.out.below hA)).mono ?_
      rintro e w1 ⟨⟨s, rfl, hs⟩, hb1⟩
      obtain rfl : s = true := hs.2 Ho.out
      have HR1 := hideD (HR.out.below hb1)
      have hB1 := below_next hA hb1
      clear hs hb1 hA HR
      obtain ⟨⟨y0, y1⟩, ⟨y2, y3⟩⟩ := HR1.out
      go_wp2_with (first
        | (go_at_call 66; refine (l01Is_any t 0 1000000 _).mono ?_; rintro e w2 ⟨⟨s, rfl, hs⟩, rfl⟩; obtain rfl : s = false := bool_no hs Hq.out; clear hs)
        | fail)
      go_wp2
      refine bodyPost_ret (v := .agg #[.slice none 0 0, .slice none 0 0]) (by simp [results, Try.results30, go_sem, *]) rfl ?_
      exact ⟨_, _, [], [], rfl, ⟨fun h => absurd h.2 Hq.out, fun _ => rfl⟩, ⟨fun h => absurd h.2 Hq.out, fun _ => rfl⟩, RowL.nil _ _, RowL.nil _ _, fun q hq => by simp [Value.ownBlock] at hq, (hB1.setCell (Nat.le_refl _) _).setCell (Nat.le_refl _) _⟩
  · have Ho := hideD ho
    clear ho
    go_enter Try.func30, Try.ntmps30
    go_wp2_with fail
    generalize w.alloc (.cells #[.slice none 0 0, .slice none 0 0] 56) = W at HR hA ⊢
    refine (specPtrsRight_any _ n lo hi f g _ (Hp.out.below hA)).mono ?_
    rintro e w1 ⟨⟨s, rfl, hs⟩, hb1⟩
    obtain rfl : s = false := bool_no hs Ho.out
    have HR1 := hideD (HR.out.below hb1)
    have hB1 := below_next hA hb1
    clear hs hb1 hA HR
    obtain ⟨⟨y0, y1⟩, ⟨y2, y3⟩⟩ := HR1.out
    go_wp2
    refine bodyPost_ret (v := .agg #[.slice none 0 0, .slice none 0 0]) (by simp [results, Try.results30, go_sem, *]) rfl ?_
    exact ⟨_, _, [], [], rfl, ⟨fun h => absurd h.1 Ho.out, fun _ => rfl⟩, ⟨fun h => absurd h.1 Ho.out, fun _ => rfl⟩, RowL.nil _ _, RowL.nil _ _, fun q hq => by simp [Value.ownBlock] at hq, (hB1.setCell (Nat.le_refl _) _).setCell (Nat.le_refl _) _⟩

end Go.Proofs.Ytckamdnichangae
