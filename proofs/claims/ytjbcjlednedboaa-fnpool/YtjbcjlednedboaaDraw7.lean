/- What the draws' l01Some leaves: the walk. -/
import Derived.Test.YtjbcjlednedboaaDraw6
namespace Go.Proofs.Ytjbcjlednedboaa
open Go.RowKit
set_option linter.unusedVariables false

set_option maxRecDepth 20000 in
set_option maxHeartbeats 4000000 in
theorem some_any (B lo hi : Nat) (v0 v1 : Value) (p : PoolD) (w : World) (h : Src w B) (hp : PoolAt w lo hi v0 v1 p) (hlo : B < lo) (hhi : hi ≤ w.heap.size) (hn : p.n ≤ 1000000) :
    Calls Try.prog 33 #[.pointer (some ⟨B, 0, none⟩), .agg #[v0, v1]] w (NewSome B w) := by
  have Hp := hide hp
  have hB := h.lt
  obtain ⟨a, c, a', c', rfl, rfl⟩ := hp.form
  have ha1 := below_alloc w (.cells #[.slice a p.n c, .slice a' p.hn c'] 26)
  have ha := below_next ha1 (below_alloc _ (.cells #[.int .i64 0, .slice none 0 0, .string ⟨#[]⟩] 29))
  have HB := hide ((Box2.new w (.slice a p.n c) (.slice a' p.hn c') 26).below (below_alloc _ (.cells #[.int .i64 0, .slice none 0 0, .string ⟨#[]⟩] 29)))
  have hr := Box3.new (w.alloc (.cells #[.slice a p.n c, .slice a' p.hn c'] 26)) (.int .i64 0) (.slice none 0 0) (.string ⟨#[]⟩) 29
  rw [World.size_alloc] at hr
  have HR := hide hr
  clear ha1 hr hp
  go_enter Try.func33, Try.ntmps33
  go_wp2_with fail
  refine (n_any B 9 _ (h.below ha) (by omega)).mono ?_
  rintro e w1 ⟨⟨r1, rfl, h10, h11⟩, hs1, ht1⟩
  have HB1 := hide (HB.out.turned ht1 (by omega))
  have HR1 := hide (HR.out.turned ht1 (by omega))
  have Hs1 := hide hs1
  have Ht1 := hide ((Turned.of_below (S := fun k => k = B) ha).trans ht1)
  have hz1 : w.heap.size + 2 ≤ w1.heap.size := by have := ht1.size; rw [World.size_alloc, World.size_alloc] at this; omega
  clear hs1 ht1 HB HR h ha
  go_wp2_with fail
  refine (data_any B _ Hs1.out).mono ?_
  rintro e w2 ⟨⟨d, rfl, hd⟩, hs2, ht2⟩
  have HB2 := hide (HB1.out.turned ht2 (by omega))
  have HI2 : Hid (Src w2 B ∧ Turned (fun k => k = B) w w2 ∧ Box3 w2 (w.heap.size + 1) (.int .i64 0) (.slice none 0 0) (.string ⟨#[]⟩)) := ⟨hs2, Ht1.out.trans ht2, HR1.out.turned ht2 (by omega)⟩
  have hz2 : w.heap.size + 2 ≤ w2.heap.size := by have := ht2.size; omega
  clear hs2 ht2 HB1 HR1 Hs1 Ht1 hz1
  go_wp2_with fail
  have hbx := below_alloc w2 (.cells #[.int .i64 (1 + r1), .slice none 0 0, .string d] 29)
  have HX : Hid (SomeV (w2.alloc (.cells #[.int .i64 (1 + r1), .slice none 0 0, .string d] 29)) w2.heap.size (1 + r1) 0 (.slice none 0 0) d []) := ⟨Box3.new _ _ _ _ _, World.ownsRow_nil _ _ _ _, fun u hu => by simp at hu⟩
  have HIx : Hid (SomeI w (w2.alloc (.cells #[.int .i64 (1 + r1), .slice none 0 0, .string d] 29)) B w2.heap.size) := ⟨HI2.out.1.below hbx, HI2.out.2.1.trans (Turned.of_below hbx), HI2.out.2.2.below hbx, hB, hz2, by rw [World.size_alloc]; omega⟩
  have HBx := hide (HB2.out.below hbx)
  generalize w2.alloc (.cells #[.int .i64 (1 + r1), .slice none 0 0, .string d] 29) = wx at HX HIx HBx ⊢
  generalize w2.heap.size = X at hz2 HX HIx ⊢
  clear HB2 HI2 hbx
  refine (one_any B 3 _ HIx.out.src (by omega)).mono ?_
  rintro e w3 ⟨⟨t3, rfl⟩, hs3, ht3⟩
  have HX3 := hide (HX.out.turned ht3 (by omega))
  have HI3 := hide (HIx.out.next hs3 ht3)
  have HB3 := hide (HBx.out.turned ht3 (by omega))
  clear hs3 ht3 HX HIx HBx
  go_upto_if 16 with fail
  go_cut [5] (fun v wc => v = .pointer (some ⟨X, 0, none⟩) ∧ SomeI w wc B X ∧ ∃ b n v d xs, SomeV wc X b n v d xs ∧ n ≤ 8 ∧ d.size ≤ 16)
  case first =>
    cases t3
    · go_wp2
      go_meet
      case rel => exact ⟨rfl, HI3.out, _, _, _, _, _, HX3.out, by omega, by omega⟩
    · go_upto_region 3 with fail
      have hmk := make_zeros 27 33 (.agg #[.int .i64 0, .int .i64 0]) 2 16 (by kernel_rfl) infoPtr rfl 8 (by omega) (by omega)
      have hmk' : ∀ w, (Instr.makeSlice 27 (.int .i64 8) (.int .i64 8)).run Try.prog w = .ok (.slice (some ⟨w.heap.size, 0, none⟩) 8 8) (w.alloc (.cells (zeros #[.int .i64 0, .int .i64 0] 8) 33)) := hmk
      clear hmk
      go_cut [5] (fun v wc => v = .pointer (some ⟨X, 0, none⟩) ∧ SomeI w wc B X ∧ Box2 wc w.heap.size (.slice a p.n c) (.slice a' p.hn c') ∧ ∃ b g c xs, SomeV wc X b 8 (.slice (some ⟨g, 0, none⟩) 8 c) ⟨#[]⟩ xs)
      case first =>
        obtain ⟨⟨x0, x1⟩, ⟨x2, x3⟩, ⟨x4, x5⟩⟩ := HX3.out.box
        (go_region_with (first
              | (go_at_call 58; refine (n_any B 9 _ ?_ (by omega)).mono ?_; (first | exact HI3.out.src.below (Below.refl _ _).drew | exact HI3.out.src.below (below_undrew (below_alloc _ _)) | exact (HI3.out.src.below (below_alloc _ _)).below (Below.refl _ _).drew | exact HI3.out.src.below (below_alloc _ _)); rintro e w4 ⟨⟨r4, rfl, h40, h41⟩, hs4, ht4⟩; have hT4 : Turned (fun k => k = B) w3 w4 := (by first | exact turned_undrew ht4 | exact (Turned.of_below (below_alloc _ _)).trans ht4 | exact (Turned.of_below (below_alloc w3 _)).trans (turned_undrew ht4)); have hX4 := HX3.out.turned hT4 (by omega); have z0 := hX4.box.1.1; have z1 := hX4.box.1.2; have z2 := hX4.box.2.1.1; have z3 := hX4.box.2.1.2; have z4 := hX4.box.2.2.1; have z5 := hX4.box.2.2.2; have hY4 := hX4.below (below_alloc w4 (.cells (zeros #[.int .i64 0, .int .i64 0] 8) 33)); have k0 := hY4.box.1.1; have k1 := hY4.box.1.2; have k2 := hY4.box.2.1.1; have k3 := hY4.box.2.1.2; have k4 := hY4.box.2.2.1; have k5 := hY4.box.2.2.2)))
        all_goals
          go_wp2_with fail
          go_meet
        all_goals
          first
            | exact ⟨rfl, (some_new1 _ HI3.out HX3.out hs4 hT4).1, ((HB3.out.turned hT4 (by omega)).below (below_alloc _ _)).turned (put3_turned _ _ _ _ _) (by omega), _, _, _, _, (some_new1 _ HI3.out HX3.out hs4 hT4).2⟩
            | exact ⟨rfl, (some_new2 _ HI3.out HX3.out hs4 (by first | exact ht4 | exact turned_undrew ht4)).1, (HB3.out.turned hT4 (by omega)).turned (put3_turned _ _ _ _ _) (by omega), _, _, _, _, (some_new2 _ HI3.out HX3.out hs4 (by first | exact ht4 | exact turned_undrew ht4)).2⟩
      case rest =>
        obtain ⟨rfl, hI, hB2, b, g, cg, xs, hS⟩ := hcut
        have HI4 := hide hI
        have HB4 := hide hB2
        have HS4 := hide hS
        clear hI hB2 hS HI3 HB3 HX3 hmk'
        go_wp2_with fail
        refine (n_any B 4 _ HI4.out.src (by omega)).mono ?_
        rintro e w5 ⟨⟨r5, rfl, h50, h51⟩, hs5, ht5⟩
        obtain ⟨k5, rfl⟩ := Int.eq_ofNat_of_zero_le h50
        have HI5 := hide (HI4.out.next hs5 ht5)
        have HB5 := hide (HB4.out.turned ht5 (by omega))
        have HS5 := hide (HS4.out.turned ht5 (by omega))
        clear hs5 ht5 HI4 HB4 HS4 h50
        go_wp2
        go_loopw [6] (fun i wr => ∃ (k : Nat) (xs : List Value), k ≤ 4 ∧ i = .int .i64 k ∧ SomeI w wr B X ∧ Box2 wr w.heap.size (.slice a p.n c) (.slice a' p.hn c') ∧ SomeV wr X b 8 (.slice (some ⟨g, 0, none⟩) 8 cg) ⟨#[]⟩ xs) (fun i _ => (intOf i).toNat)
        case atStart => exact ⟨k5, xs, by omega, rfl, HI5.out, HB5.out, HS5.out⟩
        case round =>
          obtain ⟨k, ys, hk, rfl, hI, hB2, hS⟩ := hrel
          have HI6 := hide hI
          have HB6 := hide hB2
          have HS6 := hide hS
          clear hI hB2 hS HI5 HB5 HS5
          obtain ⟨⟨x0, x1⟩, ⟨x2, x3⟩⟩ := HB6.out
          by_cases hk0 : 0 < k
          · have hk0' : (0 : Int) < (k : Int) := by omega
            by_cases hp0 : 0 < p.n
            · have hp0' : (0 : Int) < (p.n : Int) := by omega
              go_wp2_with fail
              refine (n_any B p.n _ HI6.out.src (by omega)).mono ?_
              rintro e w7 ⟨⟨r7, rfl, h70, h71⟩, hs7, ht7⟩
              obtain ⟨i7, rfl⟩ := Int.eq_ofNat_of_zero_le h70
              have hi7 : i7 < p.n := by omega
              have hi7' : (i7 : Int) < (p.n : Int) := by omega
              have HI7 := hide (HI6.out.next hs7 ht7)
              have HB7 := hide (HB6.out.turned ht7 (by omega))
              have HS7 := hide (HS6.out.turned ht7 (by omega))
              clear hs7 ht7 HI6 HB6 HS6 h70 h71 x0 x1 x2 x3
              have hpw := Hp.out.turned HI7.out.turn hhi (fun k hk => by omega)
              obtain ⟨⟨x0, x1⟩, ⟨x2, x3⟩⟩ := HB7.out
              obtain ⟨bb, off, ka, kc, rfl, hs⟩ := hpw.1.cells hi7
              obtain ⟨q0, q1, q2, _⟩ := hs
              clear hpw
              obtain ⟨⟨y0, y1⟩, ⟨y2, y3⟩, ⟨y4, y5⟩⟩ := HS7.out.box
              go_upto_region 9 with fail
              go_cut [56] (fun v wc => (∃ t : Bool, v = .bool t) ∧ SomeI w wc B X ∧ Box2 wc w.heap.size (.slice (some ⟨bb, off, none⟩) p.n c) (.slice a' p.hn c') ∧ SomeV wc X b 8 (.slice (some ⟨g, 0, none⟩) 8 cg) ⟨#[]⟩ ys)
              case first =>
                by_cases hb0 : 0 < (p.s i7).birth
                · by_cases hbb : (p.s i7).birth ≤ b
                  · go_wp2
                    go_meet
                    case rel => exact ⟨⟨_, rfl⟩, HI7.out, HB7.out, HS7.out⟩
                  · go_wp2_with fail
                    refine (one_any B 10 _ HI7.out.src (by omega)).mono ?_
                    rintro e w8 ⟨⟨t8, rfl⟩, hs8, ht8⟩
                    have HI8 := hide (HI7.out.next hs8 ht8)
                    have HB8 := hide (HB7.out.turned ht8 (by omega))
                    have HS8 := hide (HS7.out.turned ht8 (by omega))
                    clear hs8 ht8
                    go_wp2
                    go_meet
                    case rel => exact ⟨⟨_, rfl⟩, HI8.out, HB8.out, HS8.out⟩
                · go_wp2
                  go_meet
                  case rel => exact ⟨⟨_, rfl⟩, HI7.out, HB7.out, HS7.out⟩
              case rest =>
                obtain ⟨⟨t9, rfl⟩, hI, hB2, hS⟩ := hcut
                have HI9 := hide hI
                have HB9 := hide hB2
                have HS9 := hide hS
                obtain ⟨wn, rfl⟩ : ∃ x, x = wc := ⟨_, rfl⟩
                clear hI hB2 hS HI7 HB7 HS7 x0 x1 x2 x3 y0 y1 y2 y3 y4 y5 q0 q1 q2
                cases t9
                · go_wp2
                  go_roundw
                  case rel => exact ⟨k - 1, ys, by omega, congrArg (Value.int .i64) (by omega), HI9.out, HB9.out, HS9.out⟩
                  case measure => simp [intOf]; omega
                · obtain ⟨⟨y0, y1⟩, ⟨y2, y3⟩, ⟨y4, y5⟩⟩ := HS9.out.box
                  have hgX := HS9.out.row.lt g rfl
                  go_wp2_with fail
                  (go_region_with (first
                    | (go_at_call 58; refine (n_any B 8 _ ?_ (by omega)).mono ?_; (first | exact HI9.out.src | exact HI9.out.src.below (Below.refl _ _).drew); rintro e w10 ⟨⟨r10, rfl, h100, h101⟩, hs10, ht10⟩; obtain ⟨j10, rfl⟩ := Int.eq_ofNat_of_zero_le h100; have hj10 : j10 < 8 := (by omega); have hj10' : (j10 : Int) < 8 := (by omega); have hT10 : Turned (fun k => k = B) wn w10 := (by first | exact turned_undrew ht10 | exact ht10); have hS10 := HS9.out.turned hT10 (by omega); have z0 := hS10.box.2.1.1; have z1 := hS10.box.2.1.2; obtain ⟨c0, k0, k1⟩ := hS10.cell (j := j10 * 2) (by omega); obtain ⟨c1, k2, k3⟩ := hS10.cell (j := j10 * 2 + 1) (by omega))))
                  all_goals
                    go_wp2
                    go_roundw
                    case rel => exact ⟨k - 1, _, by omega, congrArg (Value.int .i64) (by omega), ((HI9.out.next hs10 hT10).late (Turned.put _ g _ _) (by have := HI9.out.place; omega)).late (Turned.put _ g _ _) (by have := HI9.out.place; omega), ((HB9.out.turned hT10 (by omega)).other _ (by have := HI9.out.place; omega)).other _ (by have := HI9.out.place; omega), hS10.kid _ _ _ _⟩
                    case measure => simp [intOf]; omega
            · have hp0' : ¬ (0 : Int) < (p.n : Int) := by omega
              go_wp2
              go_meet
              case rel => exact ⟨rfl, HI6.out, _, _, _, _, _, HS6.out, by omega, (show (0 : Nat) ≤ 16 from by omega)⟩
          · have hk0' : ¬ (0 : Int) < (k : Int) := by omega
            go_wp2
            go_meet
            case rel => exact ⟨rfl, HI6.out, _, _, _, _, _, HS6.out, by omega, (show (0 : Nat) ≤ 16 from by omega)⟩
  case rest =>
    obtain ⟨rfl, hI, b, n, v, d', xs, hS, hn8, hd16⟩ := hcut
    obtain ⟨ka, kc, rfl, hkc⟩ := owns_form hS.row
    have HI4 := hide hI
    have HS4 := hide hS
    clear hI hS HI3 HB3 HX3
    go_wp2_with fail
    refine (one_any B 20 _ HI4.out.src (by omega)).mono ?_
    rintro e w5 ⟨⟨t5, rfl⟩, hs5, ht5⟩
    have HI5 := hide (HI4.out.next hs5 ht5)
    have HS5 := hide (HS4.out.turned ht5 (by omega))
    clear hs5 ht5 HI4 HS4
    cases t5
    ·
      obtain ⟨⟨x0, x1⟩, ⟨x2, x3⟩, ⟨x4, x5⟩⟩ := HS5.out.box
      obtain ⟨⟨y0, y1⟩, ⟨y2, y3⟩, ⟨y4, y5⟩⟩ := HI5.out.res
      go_wp2
      have HR9 := HI5.out.res.put (.int .i64 b) (.slice ka n kc) (.string (d'))
      exact bodyPost_ret (v := .agg #[.int .i64 b, .slice ka n kc, .string (d')]) (by simp [results, Try.results33, go_sem, HR9.1.1, HR9.2.1.1, HR9.2.2.1]) rfl (some_end HI5.out HS5.out (by omega) (by omega))
    · go_wp2_with fail
      refine (n_any B 5 _ HI5.out.src (by omega)).mono ?_
      rintro e w6 ⟨⟨r6, rfl, h60, h61⟩, hs6, ht6⟩
      have HI6 := hide (HI5.out.next hs6 ht6)
      have HS6 := hide (HS5.out.turned ht6 (by omega))
      clear hs6 ht6 HI5 HS5
      obtain ⟨⟨x0, x1⟩, ⟨x2, x3⟩, ⟨x4, x5⟩⟩ := HS6.out.box
      obtain ⟨⟨y0, y1⟩, ⟨y2, y3⟩, ⟨y4, y5⟩⟩ := HI6.out.res
      by_cases e0 : r6 = 0
      · subst e0
        have HI7 := hide (HI6.out.late (put3_turned _ X (.int .i64 0) (.slice none 0 0) (.string ⟨#[]⟩)) hz2)
        have HS7 := hide (HS6.out.put (c := 0) (e := ⟨#[]⟩) (World.ownsRow_nil _ _ _ _) (fun u hu => by simp at hu))
        go_wp2
        have HR9 := HI7.out.res.put (.int .i64 (0)) (.slice none 0 0) (.string (⟨#[]⟩))
        exact bodyPost_ret (v := .agg #[.int .i64 (0), .slice none 0 0, .string (⟨#[]⟩)]) (by simp [results, Try.results33, go_sem, HR9.1.1, HR9.2.1.1, HR9.2.2.1]) rfl (some_end HI7.out HS7.out (by omega) (Nat.zero_le _))
      have f0 : (r6 == 0) = false := by simp [e0]
      by_cases e1 : r6 = 1
      · subst e1
        clear x0 x1 x2 x3 x4 x5 y0 y1 y2 y3 y4 y5
        go_wp2_with fail
        refine (edge_any B _ HI6.out.src).mono ?_
        rintro e w7 ⟨⟨r7, rfl⟩, hs7, ht7⟩
        have HI7 := hide (HI6.out.next hs7 ht7)
        have HS7 := hide (HS6.out.turned ht7 (by omega))
        clear hs7 ht7 HI6 HS6
        go_wp2_with fail
        have ha := below_alloc w7 (.cells #[.int .i64 0, .int .i64 1000000, .int .i64 1000001, .int .i64 r7] 2)
        refine (n_any B 4 _ (HI7.out.src.below ha) (by omega)).mono ?_
        rintro e w8 ⟨⟨r8, rfl, h80, h81⟩, hs8, ht8⟩
        obtain ⟨j8, rfl⟩ := Int.eq_ofNat_of_zero_le h80
        have hj8 : j8 < 4 := by omega
        have hj8' : (j8 : Int) < 4 := by omega
        obtain ⟨y, hy⟩ : ∃ y : Int, (#[.int .i64 0, .int .i64 1000000, .int .i64 1000001, .int .i64 r7] : Array Value)[j8]? = some (.int .i64 y) := by
          rcases j8 with _ | _ | _ | _ | j8
          all_goals first | exact ⟨_, rfl⟩ | omega
        have hB7 : B < w7.heap.size := HI7.out.src.lt
        have hc : w8.cell? ⟨w7.heap.size, j8, none⟩ = some (.int .i64 y) := ((cell_of_block (i := j8) (heap_alloc_new w7 (.cells #[.int .i64 0, .int .i64 1000000, .int .i64 1000001, .int .i64 r7] 2)) hy).turned ht8 (by omega)).1
        have HI8 := hide ((HI7.out.below ha).next hs8 ht8)
        have HS8 := hide ((HS7.out.below ha).turned ht8 (by omega))
        clear hs8 ht8 ha hy h81 HI7 HS7
        obtain ⟨⟨x0, x1⟩, ⟨x2, x3⟩, ⟨x4, x5⟩⟩ := HS8.out.box
        obtain ⟨⟨y0, y1⟩, ⟨y2, y3⟩, ⟨y4, y5⟩⟩ := HI8.out.res
        have HI9 := hide (HI8.out.late (Turned.put _ X 0 (.int .i64 y)) hz2)
        have HS9 := hide (HS8.out.putBirth y)
        go_wp2
        have HR9 := HI9.out.res.put (.int .i64 (y)) (.slice ka n kc) (.string (d'))
        exact bodyPost_ret (v := .agg #[.int .i64 (y), .slice ka n kc, .string (d')]) (by simp [results, Try.results33, go_sem, HR9.1.1, HR9.2.1.1, HR9.2.2.1]) rfl (some_end HI9.out HS9.out (by omega) (by omega))
      have f1 : (r6 == 1) = false := by simp [e1]
      by_cases e2 : r6 = 2
      · subst e2
        go_wp2
        refine bodyPost_ret (v := .agg #[.int .i64 b, .slice ka n kc, .string _]) ?_ rfl (some_end (HI6.out.late (Turned.put _ X 2 _) hz2) (HS6.out.putData _) (by omega) ?_)
        · have HR9 := fun u => (HI6.out.late (Turned.put _ X 2 (.string u)) hz2).res.put (.int .i64 b) (.slice ka n kc) (.string u)
          simp [results, Try.results33, go_sem, (HR9 _).1.1, (HR9 _).2.1.1, (HR9 _).2.2.1]
        · rw [ByteArray.size_append]
          show _ + 1 ≤ 17
          omega
      have f2 : (r6 == 2) = false := by simp [e2]
      by_cases e3 : r6 = 3
      · subst e3
        obtain ⟨i1, hi1, hzz1⟩ := Option.map_eq_some_iff.1 infoPtr
        simp only [Prod.mk.injEq] at hzz1
        have HI1 := hide (And.intro hi1 hzz1)
        clear hi1 hzz1
        have hal := below_alloc w6 (.cells #[.int .i64 0, .int .i64 0] 33)
        have HrowA := hide (HS6.out.below hal).row
        go_wp2_with (first
          | (at_builtin; refine wpList_append_own _ rfl _ _ 27 rfl (X + 1) 33 i1 (.agg #[.int .i64 0, .int .i64 0]) 2 16 (by kernel_rfl) HI1.out.1 HI1.out.2.1 HI1.out.2.2.1 HI1.out.2.2.2 rfl (by decide) (.slice ka n kc) n xs rfl ?c0 ⟨w6.heap.size, 0, none⟩ 1 1 [.int .i64 0, .int .i64 0] rfl rfl ?c1 ?c2 ?c3 ?c4 ?c5 ?_))
        case c0 => exact HrowA.out
        case c1 =>
          intro j u hj
          match j, hj with
          | 0, hj => simp at hj; subst hj; simp [Addr.add]
          | 1, hj => simp at hj; subst hj; simp [Addr.add]
          | (j + 2), hj => simp at hj
        case c2 => intro u hu; simp at hu; subst hu; rfl
        case c3 => unfold maxLen; omega
        case c4 => omega
        case c5 => have := HI6.out.place; simp; omega
        intro v7 w7 hown7 hgrow7 _
        obtain ⟨k7, c7, rfl, _⟩ := owns_form hown7
        have t7 := turned_of_grown hgrow7
        have hne7 : ∀ q, q ≤ X → ¬ (Value.slice ka n kc).ownBlock = some q := fun q hq e => by have := HrowA.out.lt q e; omega
        have hb7 := (HS6.out.below hal).box.turned t7 (hne7 X (Nat.le_refl _))
        have hi7 : SomeI w w7 B X := by
          have hp := HI6.out.place
          have ha := HI6.out.below hal
          refine ⟨ha.src.turned t7 (fun k hk => by have := HrowA.out.lt k hk; omega), ?_, ha.res.turned t7 (hne7 _ (by omega)), hp.1, hp.2.1, Nat.lt_of_lt_of_le ha.place.2.2 t7.size⟩
          refine ⟨t7.os.trans ha.turn.os, t7.tape.trans ha.turn.tape, t7.output.trans ha.turn.output, Nat.le_trans ha.turn.size t7.size, fun k hk hk2 => ?_⟩
          exact (t7.block k (Nat.lt_of_lt_of_le hk ha.turn.size) (hne7 k (by omega))).trans (ha.turn.block k hk hk2)
        have HB7 := hide hb7
        have HI7 := hide hi7
        have HN7 : Hid (Nums (xs ++ [.int .i64 0, .int .i64 0])) := HS6.out.nums.append (fun u hu => by simp at hu; exact ⟨0, hu⟩)
        have HR7 := hide hown7
        clear hown7 hgrow7 t7 hne7 hb7 hi7 x0 x1 x2 x3 x4 x5 y0 y1 y2 y3 y4 y5
        have HI9 := hide (HI7.out.late (Turned.put _ X 1 (.slice k7 (n + 1) c7)) hz2)
        have HS9 := hide (SomeV.putKids HB7.out HR7.out HN7.out)
        obtain ⟨⟨x0, x1⟩, ⟨x2, x3⟩, ⟨x4, x5⟩⟩ := HB7.out
        obtain ⟨⟨y0, y1⟩, ⟨y2, y3⟩, ⟨y4, y5⟩⟩ := HI7.out.res
        go_wp2
        have HR9 := HI9.out.res.put (.int .i64 (b)) (.slice k7 (n + 1) c7) (.string (d'))
        exact bodyPost_ret (v := .agg #[.int .i64 (b), .slice k7 (n + 1) c7, .string (d')]) (by simp [results, Try.results33, go_sem, HR9.1.1, HR9.2.1.1, HR9.2.2.1]) rfl (some_end HI9.out HS9.out (by omega) (by omega))
      have f3 : (r6 == 3) = false := by simp [e3]
      clear x0 x1 x2 x3 x4 x5 y0 y1 y2 y3 y4 y5
      go_wp2_with fail
      refine (edge_any B _ HI6.out.src).mono ?_
      rintro e w7 ⟨⟨r7, rfl⟩, hs7, ht7⟩
      have HI7 := hide (HI6.out.next hs7 ht7)
      have HS7 := hide (HS6.out.turned ht7 (by omega))
      clear hs7 ht7 HI6 HS6
      have ha := below_alloc w7 (.cells #[.int .i64 1, .int .i64 1, .int .i64 r7, .int .i64 2] 33)
      have HI8 := hide (HI7.out.below ha)
      have HS8 := hide (HS7.out.below ha)
      have HS9 := hide (SomeV.putKids HS8.out.box (World.ownsRow_lit (e := 33) (size := 2) (base := X + 1) w7 #[.int .i64 1, .int .i64 1, .int .i64 r7, .int .i64 2] 2 (by have := HI7.out.place; omega) (by unfold maxLen; omega) rfl) (fun u hu => by simp at hu; rcases hu with rfl | rfl | rfl <;> exact ⟨_, rfl⟩))
      have HI9 := hide (HI8.out.late (Turned.put _ X 1 (.slice (some ⟨w7.heap.size, 0, none⟩) 2 2)) hz2)
      obtain ⟨⟨x0, x1⟩, ⟨x2, x3⟩, ⟨x4, x5⟩⟩ := HS8.out.box
      obtain ⟨⟨y0, y1⟩, ⟨y2, y3⟩, ⟨y4, y5⟩⟩ := HI8.out.res
      ·
        go_wp2
        have HR9 := HI9.out.res.put (.int .i64 (b)) (.slice (some ⟨w7.heap.size, 0, none⟩) 2 2) (.string (d'))
        exact bodyPost_ret (v := .agg #[.int .i64 (b), .slice (some ⟨w7.heap.size, 0, none⟩) 2 2, .string (d')]) (by simp [results, Try.results33, go_sem, HR9.1.1, HR9.2.1.1, HR9.2.2.1]) rfl (some_end HI9.out HS9.out (by omega) (by omega))

end Go.Proofs.Ytjbcjlednedboaa
