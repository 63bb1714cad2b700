/- What spec.PoolSync and impl.PoolSync answer. -/
import Derived.Test.YtikhipekmlhibaaG9
import Derived.Test.YtikhipekmlhibaaG8
namespace Go.Proofs.Ytikhipekmlhibaa
open Go.RowKit
set_option linter.unusedVariables false

theorem held_cell {w : World} {lo hi : Nat} {a : Option Addr} {n c : Nat} {f : Nat → Int} (h : IntsAt w lo hi (.slice a n c) n f) {k : Nat} (hk : k < n) : ∃ b off, a = some ⟨b, off, none⟩ ∧ w.cell? ⟨b, off + k, none⟩ = some (.int .i64 (f k)) := by
  obtain ⟨_, a2, c2, hv, _, hx⟩ := h
  simp only [Value.slice.injEq, true_and] at hv
  obtain ⟨rfl, rfl⟩ := hv
  obtain ⟨b, off, ha, _, _, h3⟩ := hx (by omega)
  exact ⟨b, off, ha, h3 k hk⟩

set_option maxRecDepth 20000 in
set_option maxHeartbeats 2000000 in
theorem specPoolSync_any (v0 v1 : Value) (lo hi : Nat) (p : PoolD) (w : World) (h1 : PoolAt w lo hi v0 v1 p) (hn : poolN p ≤ 1048576) : Calls Try.prog 19 #[.agg #[v0, v1]] w (NewPool (syncP p) w) := by
  have Hp := hide h1
  obtain ⟨a, c, a', c', rfl, rfl⟩ := h1.form
  have Hn := hide hn
  have hm1 : p.n ≤ 2 ^ 63 - 1 := h1.1.1
  have hm2 : p.hn ≤ 2 ^ 63 - 1 := h1.2.1
  have mc : p.n ≤ c := by obtain ⟨⟨_, _, _, e, h, _⟩, _⟩ := h1; simp only [Value.slice.injEq, true_and] at e; omega
  have mc' : p.hn ≤ c' := by obtain ⟨_, ⟨_, _, _, e, h, _⟩⟩ := h1; simp only [Value.slice.injEq, true_and] at e; omega
  clear h1 hn
  have hba := below_next (below_alloc w (.cells #[.slice a p.n c, .slice a' p.hn c'] 26)) (below_alloc _ (.cells #[.slice none 0 0, .slice none 0 0] 26))
  have HB := hide ((Box2.new w (.slice a p.n c) (.slice a' p.hn c') 26).below (below_alloc _ (.cells #[.slice none 0 0, .slice none 0 0] 26)))
  have hr3 := Box2.new (w.alloc (.cells #[.slice a p.n c, .slice a' p.hn c'] 26)) (.slice none 0 0) (.slice none 0 0) 26
  rw [World.size_alloc] at hr3
  have HR := hide hr3
  clear hr3
  go_enter Try.func19, Try.ntmps19
  go_wp2_with fail
  refine (l01Copy_any _ _ lo hi p _ (Hp.out.below hba) Hn.out).mono ?_
  rintro e w1 ⟨s0, s1, rfl, ho1, hb1⟩
  rw [World.size_alloc, World.size_alloc] at ho1
  have HB1 := hide (HB.out.below hb1)
  have HR1 := hide (HR.out.below hb1)
  have hB1 := below_next hba hb1
  have hz1 : w.heap.size + 2 ≤ w1.heap.size := by have := hb1.size; rw [World.size_alloc, World.size_alloc] at this; omega
  obtain ⟨a0, c0, a1, c1, rfl, rfl⟩ := ho1.form
  have Ho1 := hide ho1
  clear ho1 hb1 hba HB HR
  have hal := below_alloc w1 (.cells #[.slice a0 p.n c0, .slice a1 p.hn c1] 26)
  obtain ⟨⟨x0, x1⟩, ⟨x2, x3⟩⟩ := HB1.out.below hal
  go_wp2_with fail
  refine (specPoolRight_any _ _ lo hi p _ (Hp.out.below (below_next hB1 hal))).mono ?_
  rintro e w2 ⟨⟨t, rfl, ht⟩, hb2⟩
  have hax := below_next hal hb2
  have HB2 := hide (HB1.out.below hax)
  have HR2 := hide (HR1.out.below hax)
  have HO2 := hide ((Box2.new w1 (.slice a0 p.n c0) (.slice a1 p.hn c1) 26).below hb2)
  have Ho2 := hide (Ho1.out.below hax)
  have hB2 := below_next hB1 hax
  generalize w1.heap.size = OUT at hz1 HO2 Ho2 ⊢
  clear hal hb2 hax HB1 HR1 Ho1 hB1 x0 x1 x2 x3
  by_cases hR : Right p
  · have HRt := hide hR
    obtain rfl : t = true := ht.2 hR
    clear ht hR
    have hzo : OUT < w2.heap.size := HO2.out.1.lt
    go_wp2
    go_loopw [4] (fun i wr => ∃ k : Nat, k ≤ p.hn ∧ i = .int .i64 k ∧ Box2 wr w.heap.size (.slice a p.n c) (.slice a' p.hn c') ∧ Box2 wr (w.heap.size + 1) (.slice none 0 0) (.slice none 0 0) ∧ Box2 wr OUT (.slice a0 p.n c0) (.slice a1 p.hn c1) ∧
        PoolOwn wr (w.heap.size + 1 + 1) OUT (.slice a0 p.n c0) (.slice a1 p.hn c1) (freed p k) ∧ Below w.heap.size w wr ∧ OUT < wr.heap.size) (fun i _ => p.hn - (intOf i).toNat)
    case atStart => exact ⟨0, Nat.zero_le _, rfl, HB2.out, HR2.out, HO2.out, by rw [freed_zero]; exact Ho2.out, hB2, hzo⟩
    case round =>
      obtain ⟨k, hk, rfl, hx, hr, ho, hpo, hb, hzr⟩ := hrel
      have Hx := hide hx
      have Hr := hide hr
      have Ho := hide ho
      have Hpo := hide hpo
      clear hx hr ho hpo
      obtain ⟨⟨x0, x1⟩, ⟨x2, x3⟩⟩ := Hx.out
      obtain ⟨⟨y0, y1⟩, ⟨y2, y3⟩⟩ := Ho.out
      by_cases hlt : k < p.hn
      · have hlt' : (k : Int) < (p.hn : Int) := by omega
        obtain ⟨hh1, hh2, _⟩ := HRt.out.2.2 k hlt
        obtain ⟨m, hm⟩ := Int.eq_ofNat_of_zero_le hh1
        rw [hm] at hh1 hh2
        have hmn : m < p.n := by omega
        obtain ⟨hb0, ho0, rfl, hcell⟩ := held_cell Hp.out.2 hlt
        rw [hm] at hcell
        have hbw : hb0 < w.heap.size := lt_of_cell hcell
        have hcell' := (hb.cell (p := ⟨hb0, ho0 + k, none⟩) hbw).trans hcell
        obtain ⟨bs, off, rfl, hbs, ⟨q0, q1, q2, ⟨r0, r1⟩, ⟨r2, r3⟩, ⟨r4, r5⟩⟩, hset⟩ := Hpo.out.set (i := m) hmn
        have Hset := hide (hset zeroS 0 (.slice none 0 0) (w.heap.size + 1 + 1) OUT ⟨Nat.zero_le _, none, 0, rfl, Nat.le_refl _, fun h => absurd h (Nat.lt_irrefl _)⟩ (Nat.zero_le _) (fun h => absurd h (Nat.lt_irrefl _)) (Nat.le_refl _) (Nat.le_refl _))
        have Hm := hide hm
        have n0 : bs ≠ w.heap.size := by omega
        have n1 : bs ≠ OUT := by omega
        have n2 : bs ≠ hb0 := by omega
        clear hset hcell hm
        go_wp2_with fail
        go_region_held3 (fun w' => w'.cell? ⟨w.heap.size, 1, none⟩ = some (.slice (some ⟨hb0, ho0, none⟩) p.hn c') ∧ w'.cell? ⟨OUT, 0, none⟩ = some (.slice (some ⟨bs, off, none⟩) p.n c0) ∧ w'.cell? ⟨hb0, ho0 + k, none⟩ = some (.int .i64 (m : Int))) (go_keep) (fail)
        have tX := ((Turned.put wr bs (off + m * 3) (.int .i64 0)).trans (Turned.put _ bs (off + m * 3 + 1) (.slice none 0 0))).trans (Turned.put _ bs (off + m * 3 + 2) (.string ⟨#[]⟩))
        have HX1 := hide ((Hx.out.turned tX (by omega)).below (Below.refl _ _).drew)
        have HR1 := hide ((Hr.out.turned tX (by omega)).below (Below.refl _ _).drew)
        have HO1 := hide ((Ho.out.turned tX (by omega)).below (Below.refl _ _).drew)
        have hB1 := (hb.trans (tX.below (by omega) (fun k hk => by omega))).drew
        have hz := tX.size
        have HP1 := hide (Hset.out.below (Below.refl _ _).drew)
        clear tX Hset
        go_wp2
        go_roundw
        case rel =>
          refine ⟨k + 1, by omega, by go_num, HX1.out, HR1.out, HO1.out, ?_, hB1, by simp only [World.size_setCell, World.size_drew] at *; omega⟩
          rw [freed_succ Hm.out]
          exact HP1.out
        case measure => simp [intOf]; omega
      · obtain rfl : k = p.hn := by omega
        have HoS := hide ((Hpo.out.turned (Turned.put wr OUT 1 (.slice none 0 0)) (fun k hk => by omega)).noHeld)
        have HXS := hide (Hx.out.other (b' := OUT) (o' := 1) (.slice none 0 0) (by omega))
        have HRS := hide (Hr.out.other (b' := OUT) (o' := 1) (.slice none 0 0) (by omega))
        have HOS : Hid (Box2 (wr.setCell ⟨OUT, 1, none⟩ (.slice none 0 0)) OUT (.slice a0 p.n c0) (.slice none 0 0)) := ⟨Ho.out.1.other _ (Or.inr (by omega)), Ho.out.2.set _⟩
        have hBS := hb.setCell (p := ⟨OUT, 1, none⟩) (by show _ ≤ OUT; omega) (.slice none 0 0)
        go_wp2_with fail
        refine (specPoolRight_any _ _ (w.heap.size + 1 + 1) OUT (swept p) _ HoS.out.at).mono ?_
        rintro e w3 ⟨⟨t, rfl, ht⟩, hb3⟩
        have HX3 := hide (HXS.out.below hb3)
        have HR3 := hide (HRS.out.below hb3)
        have HO3 := hide (HOS.out.below hb3)
        have Ho3 := hide (HoS.out.below hb3)
        have hB3 := below_next hBS hb3
        have hz3 : OUT < w3.heap.size := HO3.out.1.lt
        clear hb3 HoS HXS HRS HOS hBS x0 x1 x2 x3 y0 y1 y2 y3
        by_cases hS : Right (swept p)
        · have HS := hide hS
          obtain rfl : t = true := ht.2 hS
          clear ht hS
          obtain ⟨⟨y0, y1⟩, ⟨y2, y3⟩⟩ := HO3.out
          obtain ⟨⟨u0, u1⟩, ⟨u2, u3⟩⟩ := HR3.out
          go_wp2
          have HR6 := HR3.out.put (.slice a0 p.n c0) (.slice none 0 0)
          have hpr := pool_ret (R := w.heap.size + 1) Ho3.out (by omega) (by omega) (by omega) hB3
          refine bodyPost_ret (v := .agg #[.slice a0 p.n c0, .slice none 0 0]) (by simp [results, Try.results19, go_sem, HR6.1.1, HR6.2.1]) rfl ⟨_, _, rfl, ?_, hpr.2⟩
          rw [sync_yes HRt.out HS.out]
          exact hpr.1
        · have HS := hide hS
          obtain rfl : t = false := bool_no ht hS
          clear ht hS
          obtain ⟨⟨y0, y1⟩, ⟨y2, y3⟩⟩ := HX3.out
          go_wp2_with fail
          refine (l01Copy_any _ _ lo hi p _ (Hp.out.below hB3) Hn.out).mono ?_
          rintro e w4 ⟨s0, s1, rfl, ho4, hb4⟩
          obtain ⟨a4, c4, a5, c5, rfl, rfl⟩ := ho4.form
          have HR4 := hide (HR3.out.below hb4)
          have Ho4 := hide ho4
          have hB4 := below_next hB3 hb4
          clear ho4 hb4
          obtain ⟨⟨u0, u1⟩, ⟨u2, u3⟩⟩ := HR4.out
          go_wp2
          have HR6 := HR4.out.put (.slice a4 p.n c4) (.slice a5 p.hn c5)
          have hpr := pool_ret (R := w.heap.size + 1) Ho4.out (by omega) (by omega) (Nat.le_refl _) hB4
          refine bodyPost_ret (v := .agg #[.slice a4 p.n c4, .slice a5 p.hn c5]) (by simp [results, Try.results19, go_sem, HR6.1.1, HR6.2.1]) rfl ⟨_, _, rfl, ?_, hpr.2⟩
          rw [sync_no (fun h => HS.out h.2)]
          exact hpr.1
  · have HRt := hide hR
    obtain rfl : t = false := bool_no ht hR
    clear ht hR
    obtain ⟨⟨y0, y1⟩, ⟨y2, y3⟩⟩ := HO2.out
    obtain ⟨⟨u0, u1⟩, ⟨u2, u3⟩⟩ := HR2.out
    have hzo : OUT < w2.heap.size := HO2.out.1.lt
    go_wp2
    have HR6 := HR2.out.put (.slice a0 p.n c0) (.slice a1 p.hn c1)
    have hpr := pool_ret (R := w.heap.size + 1) Ho2.out (by omega) (by omega) (by omega) hB2
    refine bodyPost_ret (v := .agg #[.slice a0 p.n c0, .slice a1 p.hn c1]) (by simp [results, Try.results19, go_sem, HR6.1.1, HR6.2.1]) rfl ⟨_, _, rfl, ?_, hpr.2⟩
    rw [sync_no (fun h => HRt.out h.1)]
    exact hpr.1

set_option maxRecDepth 20000 in
set_option maxHeartbeats 2000000 in
theorem implPoolSync_any (v0 v1 : Value) (lo hi : Nat) (p : PoolD) (w : World) (h1 : PoolAt w lo hi v0 v1 p) (hn : poolN p ≤ 1048576) : Calls Try.prog 18 #[.agg #[v0, v1]] w (NewPool (syncP p) w) := by
  have Hp := hide h1
  obtain ⟨a, c, a', c', rfl, rfl⟩ := h1.form
  have Hn := hide hn
  have hm1 : p.n ≤ 2 ^ 63 - 1 := h1.1.1
  have hm2 : p.hn ≤ 2 ^ 63 - 1 := h1.2.1
  have mc : p.n ≤ c := by obtain ⟨⟨_, _, _, e, h, _⟩, _⟩ := h1; simp only [Value.slice.injEq, true_and] at e; omega
  have mc' : p.hn ≤ c' := by obtain ⟨_, ⟨_, _, _, e, h, _⟩⟩ := h1; simp only [Value.slice.injEq, true_and] at e; omega
  clear h1 hn
  have hba := below_next (below_alloc w (.cells #[.slice a p.n c, .slice a' p.hn c'] 26)) (below_alloc _ (.cells #[.slice none 0 0, .slice none 0 0] 26))
  have HB := hide ((Box2.new w (.slice a p.n c) (.slice a' p.hn c') 26).below (below_alloc _ (.cells #[.slice none 0 0, .slice none 0 0] 26)))
  have hr3 := Box2.new (w.alloc (.cells #[.slice a p.n c, .slice a' p.hn c'] 26)) (.slice none 0 0) (.slice none 0 0) 26
  rw [World.size_alloc] at hr3
  have HR := hide hr3
  clear hr3
  go_enter Try.func18, Try.ntmps18
  go_wp2_with fail
  refine (clonePool_any _ _ lo hi p _ (Hp.out.below hba) Hn.out).mono ?_
  rintro e w1 ⟨s0, s1, rfl, ho1, hb1⟩
  rw [World.size_alloc, World.size_alloc] at ho1
  have HB1 := hide (HB.out.below hb1)
  have HR1 := hide (HR.out.below hb1)
  have hB1 := below_next hba hb1
  have hz1 : w.heap.size + 2 ≤ w1.heap.size := by have := hb1.size; rw [World.size_alloc, World.size_alloc] at this; omega
  obtain ⟨a0, c0, a1, c1, rfl, rfl⟩ := ho1.form
  have Ho1 := hide ho1
  clear ho1 hb1 hba HB HR
  have hal := below_alloc w1 (.cells #[.slice a0 p.n c0, .slice a1 p.hn c1] 26)
  obtain ⟨⟨x0, x1⟩, ⟨x2, x3⟩⟩ := HB1.out.below hal
  go_wp2_with fail
  refine (implPoolRight_any _ _ lo hi p _ (Hp.out.below (below_next hB1 hal))).mono ?_
  rintro e w2 ⟨⟨t, rfl, ht⟩, hb2⟩
  have hax := below_next hal hb2
  have HB2 := hide (HB1.out.below hax)
  have HR2 := hide (HR1.out.below hax)
  have HO2 := hide ((Box2.new w1 (.slice a0 p.n c0) (.slice a1 p.hn c1) 26).below hb2)
  have Ho2 := hide (Ho1.out.below hax)
  have hB2 := below_next hB1 hax
  generalize w1.heap.size = OUT at hz1 HO2 Ho2 ⊢
  clear hal hb2 hax HB1 HR1 Ho1 hB1 x0 x1 x2 x3
  by_cases hR : Right p
  · have HRt := hide hR
    obtain rfl : t = true := ht.2 hR
    clear ht hR
    obtain ⟨⟨x0, x1⟩, ⟨x2, x3⟩⟩ := HB2.out
    go_wp2_with fail
    refine (heldNeeded_any _ _ lo hi p _ (Hp.out.below hB2) (fun i hi => sync_kn HRt.out hi)).mono ?_
    rintro e w3 ⟨⟨t, rfl, ht⟩, hb3⟩
    have HB3 := hide (HB2.out.below hb3)
    have HR3 := hide (HR2.out.below hb3)
    have HO3 := hide (HO2.out.below hb3)
    have Ho3 := hide (Ho2.out.below hb3)
    have hB3 := below_next hB2 hb3
    have hzo : OUT < w3.heap.size := HO3.out.1.lt
    clear hb3 HB2 HR2 HO2 Ho2 hB2 x0 x1 x2 x3
    by_cases hN : Needed p
    · have HN := hide ((needed_iff HRt.out).1 hN)
      obtain rfl : t = true := ht.2 hN
      clear ht hN
      obtain ⟨⟨y0, y1⟩, ⟨y2, y3⟩⟩ := HO3.out
      obtain ⟨⟨u0, u1⟩, ⟨u2, u3⟩⟩ := HR3.out
      go_wp2
      have HR6 := HR3.out.put (.slice a0 p.n c0) (.slice a1 p.hn c1)
      have hpr := pool_ret (R := w.heap.size + 1) Ho3.out (by omega) (by omega) (by omega) hB3
      refine bodyPost_ret (v := .agg #[.slice a0 p.n c0, .slice a1 p.hn c1]) (by simp [results, Try.results18, go_sem, HR6.1.1, HR6.2.1]) rfl ⟨_, _, rfl, ?_, hpr.2⟩
      rw [sync_no (fun h => HN.out h.2)]
      exact hpr.1
    · have HS : Hid (Right (swept p)) := Classical.byContradiction (fun h => hN ((needed_iff HRt.out).2 h))
      obtain rfl : t = false := bool_no ht hN
      clear ht hN
      obtain ⟨⟨x0, x1⟩, ⟨x2, x3⟩⟩ := HB3.out
      go_wp2
      go_loopw [5, 19] (fun _ i wr => ∃ k : Nat, k ≤ p.hn ∧ i = .int .i64 k ∧ Box2 wr (w.heap.size + 1) (.slice none 0 0) (.slice none 0 0) ∧ Box2 wr OUT (.slice a0 p.n c0) (.slice a1 p.hn c1) ∧
          PoolOwn wr (w.heap.size + 1 + 1) OUT (.slice a0 p.n c0) (.slice a1 p.hn c1) (freed p k) ∧ Below w.heap.size w wr ∧ OUT < wr.heap.size) (fun _ i _ => p.hn - (intOf i).toNat)
      case atStart => exact ⟨0, Nat.zero_le _, rfl, HR3.out, HO3.out, by rw [freed_zero]; exact Ho3.out, hB3, hzo⟩
      case round =>
        obtain ⟨k, hk, rfl, hr, ho, hpo, hb, hzr⟩ := hrel
        have Hr := hide hr
        have Ho := hide ho
        have Hpo := hide hpo
        clear hr ho hpo
        obtain ⟨⟨y0, y1⟩, ⟨y2, y3⟩⟩ := Ho.out
        by_cases hlt : k < p.hn
        · have hlt' : (k : Int) < (p.hn : Int) := by omega
          obtain ⟨hh1, hh2, _⟩ := HRt.out.2.2 k hlt
          obtain ⟨m, hm⟩ := Int.eq_ofNat_of_zero_le hh1
          rw [hm] at hh1 hh2
          have hmn : m < p.n := by omega
          obtain ⟨hb0, ho0, rfl, hcell⟩ := held_cell Hp.out.2 hlt
          rw [hm] at hcell
          have hbw : hb0 < w.heap.size := lt_of_cell hcell
          have hcell' := (hb.cell (p := ⟨hb0, ho0 + k, none⟩) hbw).trans hcell
          obtain ⟨bs, off, rfl, hbs, ⟨q0, q1, q2, ⟨r0, r1⟩, ⟨r2, r3⟩, ⟨r4, r5⟩⟩, hset⟩ := Hpo.out.set (i := m) hmn
          have Hset := hide (hset zeroS 0 (.slice none 0 0) (w.heap.size + 1 + 1) OUT ⟨Nat.zero_le _, none, 0, rfl, Nat.le_refl _, fun h => absurd h (Nat.lt_irrefl _)⟩ (Nat.zero_le _) (fun h => absurd h (Nat.lt_irrefl _)) (Nat.le_refl _) (Nat.le_refl _))
          have Hm := hide hm
          have tX := ((Turned.put wr bs (off + m * 3) (.int .i64 0)).trans (Turned.put _ bs (off + m * 3 + 1) (.slice none 0 0))).trans (Turned.put _ bs (off + m * 3 + 2) (.string ⟨#[]⟩))
          have HR1 := hide (Hr.out.turned tX (by omega))
          have HO1 := hide (Ho.out.turned tX (by omega))
          have hB1 := hb.trans (tX.below (by omega) (fun k hk => by omega))
          have hz := tX.size
          clear hset hcell hm tX
          go_wp2
          go_roundw
          case rel =>
            refine ⟨k + 1, by omega, by go_num, HR1.out, HO1.out, ?_, hB1, by omega⟩
            rw [freed_succ Hm.out]
            exact Hset.out
          case measure => simp [intOf]; omega
        · obtain rfl : k = p.hn := by omega
          have HoS := hide ((Hpo.out.turned (Turned.put wr OUT 1 (.slice none 0 0)) (fun k hk => by omega)).noHeld)
          have HRS := hide (Hr.out.other (b' := OUT) (o' := 1) (.slice none 0 0) (by omega))
          have HOS : Hid (Box2 (wr.setCell ⟨OUT, 1, none⟩ (.slice none 0 0)) OUT (.slice a0 p.n c0) (.slice none 0 0)) := ⟨Ho.out.1.other _ (Or.inr (by omega)), Ho.out.2.set _⟩
          have hBS := hb.setCell (p := ⟨OUT, 1, none⟩) (by show _ ≤ OUT; omega) (.slice none 0 0)
          have hz3 : OUT < (wr.setCell ⟨OUT, 1, none⟩ (.slice none 0 0)).heap.size := HOS.out.1.lt
          obtain ⟨⟨u0, u1⟩, ⟨u2, u3⟩⟩ := HRS.out
          obtain ⟨⟨t0, t1⟩, ⟨t2, t3⟩⟩ := HOS.out
          go_wp2
          have HR6 := HRS.out.put (.slice a0 p.n c0) (.slice none 0 0)
          have hpr := pool_ret (R := w.heap.size + 1) HoS.out (by omega) (by omega) (by omega) hBS
          refine bodyPost_ret (v := .agg #[.slice a0 p.n c0, .slice none 0 0]) (by simp [results, Try.results18, go_sem, HR6.1.1, HR6.2.1]) rfl ⟨_, _, rfl, ?_, hpr.2⟩
          rw [sync_yes HRt.out HS.out]
          exact hpr.1
  · have HRt := hide hR
    obtain rfl : t = false := bool_no ht hR
    clear ht hR
    obtain ⟨⟨y0, y1⟩, ⟨y2, y3⟩⟩ := HO2.out
    obtain ⟨⟨u0, u1⟩, ⟨u2, u3⟩⟩ := HR2.out
    have hzo : OUT < w2.heap.size := HO2.out.1.lt
    go_wp2
    have HR6 := HR2.out.put (.slice a0 p.n c0) (.slice a1 p.hn c1)
    have hpr := pool_ret (R := w.heap.size + 1) Ho2.out (by omega) (by omega) (by omega) hB2
    refine bodyPost_ret (v := .agg #[.slice a0 p.n c0, .slice a1 p.hn c1]) (by simp [results, Try.results18, go_sem, HR6.1.1, HR6.2.1]) rfl ⟨_, _, rfl, ?_, hpr.2⟩
    rw [sync_no (fun h => HRt.out h.1)]
    exact hpr.1

end Go.Proofs.Ytikhipekmlhibaa

namespace Go.Proofs.Ytikhipekmlhibaa
open Go.RowKit
set_option linter.unusedVariables false

/-- The first free slot. -/
def First (n : Nat) (f : Nat → SlotD) (i : Nat) : Prop := i < n ∧ Free (f i) ∧ ∀ j, j < i → ¬ Free (f j)
theorem First.uniq {n : Nat} {f : Nat → SlotD} {i j : Nat} (h : First n f i) (h' : First n f j) : i = j := by
  rcases Nat.lt_trichotomy i j with e | e | e
  · exact absurd h.2.1 (h'.2.2 i e)
  · exact e
  · exact absurd h'.2.1 (h.2.2 j e)

open Classical in
/-- What PoolTake tells. -/
noncomputable def takeP (p : PoolD) (s : SlotD) : OutD :=
  if Right p ∧ ¬ Free s ∧ Fits p s then (if h : ∃ i, First p.n p.s i then ⟨setS p (Classical.choose h) s, ((Classical.choose h : Nat) : Int), s.birth, 0⟩ else ⟨newP 0, 0, 0, 6⟩) else ⟨newP 0, 0, 0, 1⟩
theorem take_form {p : PoolD} {s : SlotD} (h : ¬ (Right p ∧ ¬ Free s ∧ Fits p s)) : takeP p s = ⟨newP 0, 0, 0, 1⟩ := if_neg h
theorem take_full {p : PoolD} {s : SlotD} (h : Right p ∧ ¬ Free s ∧ Fits p s) (h' : ∀ j, j < p.n → ¬ Free (p.s j)) : takeP p s = ⟨newP 0, 0, 0, 6⟩ := by
  unfold takeP
  rw [if_pos h, dif_neg (fun ⟨i, hi⟩ => h' i hi.1 hi.2.1)]
theorem take_ok {p : PoolD} {s : SlotD} {i : Nat} (h : Right p ∧ ¬ Free s ∧ Fits p s) (h' : First p.n p.s i) : takeP p s = ⟨setS p i s, (i : Int), s.birth, 0⟩ := by
  unfold takeP
  have hx : ∃ i, First p.n p.s i := ⟨i, h'⟩
  rw [if_pos h, dif_pos hx]
  have e : Classical.choose hx = i := (Classical.choose_spec hx).uniq h'
  rw [e]

theorem Turned.trans2 {S T : Nat → Prop} {a b c : World} (h : Turned S a b) (k : Turned T b c) (hst : ∀ i, T i → i < a.heap.size → S i) : Turned S a c :=
  ⟨k.os.trans h.os, k.tape.trans h.tape, k.output.trans h.output, Nat.le_trans h.size k.size, fun i hi hs => (k.block i (Nat.lt_of_lt_of_le hi h.size) (fun t => hs (hst i t hi))).trans (h.block i hi hs)⟩

theorem slotRight_iff {p : PoolD} {s : SlotD} (hR : Right p) (hf : ¬ Free s) : SlotRightI p.n p.s s ↔ Fits p s := by
  have hall : ∀ i, i < p.n → ¬ Free (p.s i) → 1 ≤ (p.s i).birth := fun i hi => fits_birth (hR.2.1 i hi)
  constructor
  · rintro (h | h | h)
    · exact absurd h hf
    · exact ⟨h.1, Or.inl h.2⟩
    · exact ⟨h.1.1, Or.inr ⟨h.1.2.1, h.1.2.2, fun j hj => (kid_iff hall).1 (h.2 j (by have := h.1.2.1; omega))⟩⟩
  · intro h
    rcases h.2 with g | g
    · exact Or.inr (Or.inl ⟨h.1, g⟩)
    · exact Or.inr (Or.inr ⟨⟨h.1, g.1, g.2.1⟩, fun j hj => (kid_iff hall).2 (g.2.2 j (by omega))⟩)

set_option maxRecDepth 20000 in
set_option maxHeartbeats 1000000 in
theorem indexFree_any (v : Value) (n lo hi : Nat) (f : Nat → SlotD) (w : World) (h1 : SlotsAt w lo hi v n f) :
    Calls Try.prog 44 #[v, .func (.func 42) #[] #[]] w fun e w' => ((∃ i : Nat, First n f i ∧ e = .returned (.int .i64 (i : Int))) ∨ ((∀ j, j < n → ¬ Free (f j)) ∧ e = .returned (.int .i64 (-1)))) ∧ Below w.heap.size w w' := by
  have Hp := hide h1
  obtain ⟨m1, a, c, rfl, mc, g1⟩ := h1
  unfold maxLen at m1
  clear g1
  go_enter Try.func44, Try.ntmps44
  go_wp2
  go_loopw [5, 8] (fun _ i wr => ∃ k : Nat, k ≤ n ∧ i = .int .i64 k ∧ (∀ j, j < k → ¬ Free (f j)) ∧ Below w.heap.size w wr) (fun _ i _ => n - (intOf i).toNat)
  case atStart => exact ⟨0, Nat.zero_le _, rfl, fun j hj => absurd hj (Nat.not_lt_zero _), Below.refl _ _⟩
  case round =>
    obtain ⟨k, hk, rfl, hall, hb⟩ := hrel
    have Hall := hide hall
    clear hall
    by_cases hlt : k < n
    · have hlt' : (k : Int) < (n : Int) := by omega
      obtain ⟨b, off, ka, kc, rfl, hs⟩ := (Hp.out.below hb).cells hlt
      have Hs := hide hs
      obtain ⟨q0, q1, q2, _⟩ := hs
      go_wp2_with fail
      refine (isFree_any _ _ _ lo hi (f k) _ Hs.out.slot).mono ?_
      rintro e w1 ⟨⟨t, rfl, ht⟩, hb1⟩
      have hbn := below_next hb hb1
      clear hb1 q0 q1 q2 Hs
      by_cases hf : Free (f k)
      · obtain rfl : t = true := ht.2 hf
        have HF := hide hf
        clear ht hf
        go_wp2
        go_ret
        exact ⟨Or.inl ⟨k, ⟨hlt, HF.out, Hall.out⟩, rfl⟩, hbn⟩
      · obtain rfl : t = false := bool_no ht hf
        have HF := hide hf
        clear ht hf
        go_wp2
        go_roundw
        case rel => exact ⟨k + 1, by omega, by go_num, relNext hlt Hall.out HF.out, hbn⟩
        case measure => simp [intOf]; omega
    · obtain rfl : k = n := by omega
      go_wp2
      go_ret
      exact ⟨Or.inr ⟨Hall.out, rfl⟩, hb⟩

set_option maxRecDepth 20000 in
set_option maxHeartbeats 1000000 in
theorem l01Take_any (OUT lo hi nb : Nat) (a : Option Addr) (c : Nat) (v1 kv : Value) (p : PoolD) (s : SlotD) (w : World) (hbox : Box2 w OUT (.slice a p.n c) v1) (hO : hi ≤ OUT) (hc : p.n ≤ c) (hown : PoolOwn w lo hi (.slice a p.n c) v1 p) (hp : PtrsOwn w nb kv s.kn s.ks s.kb)
    (hnb : 0 < s.kn → OUT < nb ∧ nb < w.heap.size) (hsz : s.data.size ≤ maxLen) (hlo : lo ≤ hi) :
    Calls Try.prog 49 #[.pointer (some ⟨OUT, 0, none⟩), .agg #[.int .i64 s.birth, kv, .string s.data]] w fun e w' =>
      (∃ i, First p.n p.s i ∧ e = .returned (.tuple #[.agg #[.int .i64 (i : Int), .int .i64 s.birth], .bool true]) ∧ Box2 w' OUT (.slice a p.n c) v1 ∧ PoolOwn w' lo w'.heap.size (.slice a p.n c) v1 (setS p i s) ∧ Turned (fun k => lo ≤ k ∧ k < hi) w w') ∨
      ((∀ j, j < p.n → ¬ Free (p.s j)) ∧ e = .returned (.tuple #[.agg #[.int .i64 0, .int .i64 0], .bool false]) ∧ Below w.heap.size w w') := by
  have hm : p.n ≤ 2 ^ 63 - 1 := hown.at.1.1
  have Hbox := hide hbox
  have Hown := hide hown
  have Hq := hide hp
  obtain ⟨_, ka, kc, rfl, _⟩ := hp
  have hOw : OUT < w.heap.size := hbox.1.lt
  clear hbox hown
  have ha := below_alloc w (.cells #[.int .i64 s.birth, .slice ka s.kn kc, .string s.data] 29)
  have ha2 := below_next ha (below_alloc _ (.cells #[.int .i64 0, .int .i64 0] 33))
  have HS := hide ((Box3.new w (.int .i64 s.birth) (.slice ka s.kn kc) (.string s.data) 29).below (below_alloc _ (.cells #[.int .i64 0, .int .i64 0] 33)))
  have hr := Box2.new (w.alloc (.cells #[.int .i64 s.birth, .slice ka s.kn kc, .string s.data] 29)) (.int .i64 0) (.int .i64 0) 33
  rw [World.size_alloc] at hr
  have HR := hide hr
  clear hr ha
  go_enter Try.func49, Try.ntmps49
  go_wp2
  go_loopw [6] (fun i wr => ∃ k : Nat, k ≤ p.n ∧ i = .int .i64 k ∧ (∀ j, j < k → ¬ Free (p.s j)) ∧ Box3 wr w.heap.size (.int .i64 s.birth) (.slice ka s.kn kc) (.string s.data) ∧ Box2 wr (w.heap.size + 1) (.int .i64 0) (.int .i64 0) ∧ Below w.heap.size w wr) (fun i _ => p.n - (intOf i).toNat)
  case atStart => exact ⟨0, Nat.zero_le _, rfl, fun j hj => absurd hj (Nat.not_lt_zero _), HS.out, HR.out, ha2⟩
  case round =>
    obtain ⟨k, hk, rfl, hall, hs, hr, hb⟩ := hrel
    have Hall := hide hall
    have Hs := hide hs
    have Hr := hide hr
    clear hall hs hr
    obtain ⟨⟨x0, x1⟩, ⟨x2, x3⟩⟩ := Hbox.out.below hb
    by_cases hlt : k < p.n
    · have hlt' : (k : Int) < (p.n : Int) := by omega
      obtain ⟨b, off, ka', kc', rfl, hc'⟩ := (Hown.out.at.1.below hb).cells hlt
      have Hc := hide hc'
      obtain ⟨q0, q1, q2, _⟩ := hc'
      go_wp2_with fail
      refine (l01Free_any _ _ _ lo hi (p.s k) _ Hc.out.slot).mono ?_
      rintro e w1 ⟨⟨t, rfl, ht⟩, hb1⟩
      have hbn := below_next hb hb1
      have Hs1 := hide (Hs.out.below hb1)
      have Hr1 := hide (Hr.out.below hb1)
      clear hb1 q0 q1 q2 Hc x0 x1 x2 x3 Hs Hr
      by_cases hf : Free (p.s k)
      · obtain rfl : t = true := ht.2 hf
        have HF := hide hf
        clear ht hf
        obtain ⟨⟨x0, x1⟩, ⟨x2, x3⟩⟩ := Hbox.out.below hbn
        obtain ⟨⟨y0, y1⟩, ⟨y2, y3⟩, ⟨y4, y5⟩⟩ := Hs1.out
        obtain ⟨⟨z0, z1⟩, ⟨z2, z3⟩⟩ := Hr1.out
        obtain ⟨bs, off', he, hbs, ⟨q0, q1, q2, ⟨r0, r1⟩, ⟨r2, r3⟩, ⟨r4, r5⟩⟩, hset⟩ := (Hown.out.below hbn).set (i := k) hlt
        simp only [Option.some.injEq, Addr.mk.injEq, and_true] at he
        obtain ⟨rfl, rfl⟩ := he
        have n0 : b ≠ OUT := by omega
        have n1 : b ≠ w.heap.size := by omega
        have n2 : b ≠ w.heap.size + 1 := by omega
        have n3 : w.heap.size + 1 ≠ w.heap.size := by omega
        go_wp2_with fail
        go_region_held3 (fun w' => w'.cell? ⟨OUT, 0, none⟩ = some (.slice (some ⟨b, off, none⟩) p.n c) ∧ w'.cell? ⟨w.heap.size, 0, none⟩ = some (.int .i64 s.birth) ∧ w'.cell? ⟨w.heap.size, 1, none⟩ = some (.slice ka s.kn kc) ∧ w'.cell? ⟨w.heap.size, 2, none⟩ = some (.string s.data)) (go_keep) (fail)
        have tX := ((Turned.put w1 b (off + k * 3) (.int .i64 s.birth)).trans (Turned.put _ b (off + k * 3 + 1) (.slice ka s.kn kc))).trans (Turned.put _ b (off + k * 3 + 2) (.string s.data))
        have HrX := hide (Hr1.out.turned tX (by omega))
        have HoX := hide (hset s nb (.slice ka s.kn kc) lo w.heap.size (Hq.out.below hbn) hsz (fun h0 => by have := hnb h0; omega) (Nat.le_refl _) (by omega))
        have HbX := hide ((Hbox.out.below hbn).turned tX (by omega))
        have HtX := hide ((Turned.of_below (S := fun k => lo ≤ k ∧ k < hi) hbn).trans2 tX (fun k hk _ => by omega))
        clear hset tX
        go_wp2
        have HR6 := HrX.out.put (.int .i64 (k : Int)) (.int .i64 s.birth)
        have t2 := (Turned.put (((w1.setCell ⟨b, off + k * 3, none⟩ (.int .i64 s.birth)).setCell ⟨b, off + k * 3 + 1, none⟩ (.slice ka s.kn kc)).setCell ⟨b, off + k * 3 + 2, none⟩ (.string s.data)) (w.heap.size + 1) 0 (.int .i64 (k : Int))).trans (Turned.put _ (w.heap.size + 1) 1 (.int .i64 s.birth))
        have hz2 := t2.size
        have hz3 := HtX.out.size
        refine bodyPost_ret (v := .tuple #[.agg #[.int .i64 (k : Int), .int .i64 s.birth], .bool true]) (by simp [results, Try.results49, go_sem, HR6.1.1, HR6.2.1]) rfl (Or.inl ⟨k, ⟨hlt, HF.out, Hall.out⟩, rfl, ?_, ?_, ?_⟩)
        · exact (HbX.out.turned t2 (by omega)).below (Below.refl _ _).drew
        · exact ((HoX.out.turned t2 (fun k hk => by omega)).wide (Nat.le_refl _) (Nat.le_trans hz3 hz2)).below (Below.refl _ _).drew
        · exact (HtX.out.trans2 t2 (fun k hk hlt => by omega)).trans (Turned.of_below (Below.refl _ _).drew)
      · obtain rfl : t = false := bool_no ht hf
        have HF := hide hf
        clear ht hf
        go_wp2
        go_roundw
        case rel => exact ⟨k + 1, by omega, by go_num, relNext hlt Hall.out HF.out, Hs1.out, Hr1.out, hbn⟩
        case measure => simp [intOf]; omega
    · obtain rfl : k = p.n := by omega
      obtain ⟨⟨z0, z1⟩, ⟨z2, z3⟩⟩ := Hr.out
      go_wp2
      have HR6 := Hr.out.put (.int .i64 0) (.int .i64 0)
      exact bodyPost_ret (v := .tuple #[.agg #[.int .i64 0, .int .i64 0], .bool false]) (by simp [results, Try.results49, go_sem, HR6.1.1, HR6.2.1]) rfl (Or.inr ⟨Hall.out, rfl, (hb.setCell (by show _ ≤ w.heap.size + 1; omega) _).setCell (by show _ ≤ w.heap.size + 1; omega) _⟩)

end Go.Proofs.Ytikhipekmlhibaa

namespace Go.Proofs.Ytikhipekmlhibaa
open Go.RowKit
set_option linter.unusedVariables false

theorem IntsAt.wide {w : World} {lo hi lo' hi' : Nat} {v : Value} {n : Nat} {f : Nat → Int} (h : IntsAt w lo hi v n f) (h1 : lo' ≤ lo) (h2 : hi ≤ hi') : IntsAt w lo' hi' v n f := by
  obtain ⟨h0, a, cap, hv, hcc, hc⟩ := h
  refine ⟨h0, a, cap, hv, hcc, fun hn => ?_⟩
  obtain ⟨b, off, ha, g1, g2, g3⟩ := hc hn
  exact ⟨b, off, ha, by omega, by omega, g3⟩
theorem PtrsAt.wide {w : World} {lo hi lo' hi' : Nat} {v : Value} {n : Nat} {f g : Nat → Int} (h : PtrsAt w lo hi v n f g) (h1 : lo' ≤ lo) (h2 : hi ≤ hi') : PtrsAt w lo' hi' v n f g := by
  obtain ⟨h0, a, cap, hv, hcc, hc⟩ := h
  refine ⟨h0, a, cap, hv, hcc, fun hn => ?_⟩
  obtain ⟨b, off, ha, g1, g2, g3⟩ := hc hn
  exact ⟨b, off, ha, by omega, by omega, g3⟩
theorem PtrsAt.all {w : World} {lo hi : Nat} {v : Value} {n : Nat} {f g : Nat → Int} (h : PtrsAt w lo hi v n f g) : PtrsAt w 0 w.heap.size v n f g := by
  obtain ⟨h0, a, cap, hv, hcc, hc⟩ := h
  refine ⟨h0, a, cap, hv, hcc, fun hn => ?_⟩
  obtain ⟨b, off, ha, g1, g2, g3⟩ := hc hn
  exact ⟨b, off, ha, Nat.zero_le _, lt_of_cell (g3 0 hn).1, g3⟩
theorem SlotAt.all {w : World} {lo hi : Nat} {v0 v1 v2 : Value} {s : SlotD} (h : SlotAt w lo hi v0 v1 v2 s) : SlotAt w 0 w.heap.size v0 v1 v2 s := ⟨h.1, h.2.1.all, h.2.2⟩
theorem IntsAt.all {w : World} {lo hi : Nat} {v : Value} {n : Nat} {f : Nat → Int} (h : IntsAt w lo hi v n f) : IntsAt w 0 w.heap.size v n f := by
  obtain ⟨h0, a, cap, hv, hcc, hc⟩ := h
  refine ⟨h0, a, cap, hv, hcc, fun hn => ?_⟩
  obtain ⟨b, off, ha, g1, g2, g3⟩ := hc hn
  exact ⟨b, off, ha, Nat.zero_le _, lt_of_cell (g3 0 hn), g3⟩

theorem sc_congr2 {f g : Nat → SlotD} {kv kv' : Nat → Value} {k : Nat} (h : ∀ i, i < k → f i = g i ∧ kv i = kv' i) : sc f kv k = sc g kv' k := by
  induction k with
  | zero => rfl
  | succ k ih =>
    unfold sc
    rw [ih (fun i hi => h i (by omega)), (h k (by omega)).1, (h k (by omega)).2]
theorem sc_append (f : Nat → SlotD) (kv : Nat → Value) (k m : Nat) : sc f kv (k + m) = sc f kv k ++ sc (fun i => f (k + i)) (fun i => kv (k + i)) m := by
  induction m with
  | zero => simp [sc]
  | succ m ih =>
    show sc f kv (k + m) ++ [.int .i64 (f (k + m)).birth, kv (k + m), .string (f (k + m)).data] = sc f kv k ++ (sc (fun i => f (k + i)) (fun i => kv (k + i)) m ++ [.int .i64 (f (k + m)).birth, kv (k + m), .string (f (k + m)).data])
    rw [ih, List.append_assoc]
theorem sc_prefix {f : Nat → SlotD} {kv : Nat → Value} {k n j : Nat} {u : Value} (h : k ≤ n) (hj : (sc f kv k)[j]? = some u) : (sc f kv n)[j]? = some u := by
  obtain ⟨m, rfl⟩ := Nat.exists_eq_add_of_le h
  have hlt := (List.getElem?_eq_some_iff.1 hj).1
  rw [sc_append, List.getElem?_append_left hlt]
  exact hj
theorem sc_suffix {f : Nat → SlotD} {kv : Nat → Value} {k m j : Nat} {u : Value} (hj : (sc (fun i => f (k + i)) (fun i => kv (k + i)) m)[j]? = some u) : (sc f kv (k + m))[k * 3 + j]? = some u := by
  rw [sc_append, List.getElem?_append_right (by rw [sc_len]; omega), sc_len]
  rw [show k * 3 + j - k * 3 = j by omega]
  exact hj

theorem slotsN_set (f : Nat → SlotD) (i : Nat) (s : SlotD) : ∀ n, slotsN (fun j => if j = i then s else f j) n ≤ slotsN f n + (if i < n then slotN s else 0)
  | 0 => Nat.zero_le _
  | n + 1 => by
    have ih := slotsN_set f i s n
    show slotsN (fun j => if j = i then s else f j) n + slotN (if n = i then s else f n) ≤ slotsN f n + slotN (f n) + _
    by_cases e : n = i
    · rw [if_pos e, if_pos (by omega)]
      rw [if_neg (by omega)] at ih
      omega
    · rw [if_neg e]
      by_cases e2 : i < n
      · rw [if_pos e2] at ih
        rw [if_pos (by omega)]
        omega
      · rw [if_neg e2] at ih
        rw [if_neg (by omega)]
        omega
theorem set_small (p : PoolD) (i : Nat) (s : SlotD) : poolN (setS p i s) ≤ poolN p + slotN s := by
  have h := slotsN_set p.s i s p.n
  have h2 : (if i < p.n then slotN s else 0) ≤ slotN s := by split <;> omega
  show p.n + slotsN (fun j => if j = i then s else p.s j) p.n + p.hn ≤ p.n + slotsN p.s p.n + p.hn + slotN s
  omega

theorem sc_set {p : PoolD} {s : SlotD} {cv : Nat → Value} {kv : Value} {at' : Nat} (h : at' < p.n) :
    sc p.s cv at' ++ [.int .i64 s.birth, kv, .string s.data] ++ sc (fun i => p.s (at' + 1 + i)) (fun i => cv (at' + 1 + i)) (p.n - (at' + 1)) = sc (setS p at' s).s (fun j => if j = at' then kv else cv j) p.n := by
  have e := sc_append (setS p at' s).s (fun j => if j = at' then kv else cv j) (at' + 1) (p.n - (at' + 1))
  rw [show at' + 1 + (p.n - (at' + 1)) = p.n by omega] at e
  rw [e]
  congr 1
  · show _ = sc (setS p at' s).s (fun j => if j = at' then kv else cv j) at' ++ [.int .i64 ((setS p at' s).s at').birth, (if at' = at' then kv else cv at'), .string ((setS p at' s).s at').data]
    rw [show (setS p at' s).s at' = s from if_pos rfl, if_pos rfl]
    congr 1
    exact sc_congr2 fun i hi => ⟨(if_neg (by omega : ¬ i = at')).symm, (if_neg (by omega : ¬ i = at')).symm⟩
  · exact sc_congr2 fun i hi => ⟨(if_neg (by omega : ¬ at' + 1 + i = at')).symm, (if_neg (by omega : ¬ at' + 1 + i = at')).symm⟩

theorem slotRow_at {w : World} {base e n : Nat} {f : Nat → SlotD} {cv : Nat → Value} {v : Value} (hm : n ≤ maxLen) (h : w.ownsRow base e 3 v n (sc f cv n)) (hs : ∀ i, i < n → SlotAt w 0 w.heap.size (.int .i64 (f i).birth) (cv i) (.string (f i).data) (f i)) : SlotsAt w 0 w.heap.size v n f := by
  by_cases h0 : 0 < n
  · obtain ⟨g, cap, rfl, hcp, hb, hlt, hcell⟩ := owns_cell h h0
    refine ⟨hm, _, cap, rfl, hcp, fun _ => ⟨g, 0, rfl, Nat.zero_le _, hlt, fun i hi => ⟨_, _, _, ?_, ?_, ?_, hs i hi⟩⟩⟩
    · have := (hcell (i * 3 + 0) _ (sc_at f cv n i 0 hi (by omega))).1; simpa using this
    · have := (hcell (i * 3 + 1) _ (sc_at f cv n i 1 hi (by omega))).1; simpa using this
    · have := (hcell (i * 3 + 2) _ (sc_at f cv n i 2 hi (by omega))).1; simpa using this
  · obtain ⟨a, cap, rfl, hcp⟩ := owns_form h
    exact ⟨hm, a, cap, rfl, hcp, fun h => absurd h h0⟩

set_option maxRecDepth 20000 in
set_option maxHeartbeats 2000000 in
theorem withSlot_any (v0 v1 kv : Value) (lo hi lo' hi' at' : Nat) (p : PoolD) (s : SlotD) (w : World) (h1 : PoolAt w lo hi v0 v1 p) (h2 : SlotAt w lo' hi' (.int .i64 s.birth) kv (.string s.data) s) (hat : at' < p.n) (hn : poolN p + slotN s ≤ 1048576) :
    Calls Try.prog 45 #[.agg #[v0, v1], .int .i64 (at' : Int), .agg #[.int .i64 s.birth, kv, .string s.data]] w (NewPool (setS p at' s) w) := by
  have Hp := hide h1
  have Hs := hide h2
  have Hn := hide hn
  have hm1 : p.n ≤ 1048576 := by unfold poolN at hn; omega
  have hm2 : p.hn ≤ 1048576 := by unfold poolN at hn; omega
  obtain ⟨a, c, a', c', rfl, rfl⟩ := h1.form
  obtain ⟨ka, kc, rfl⟩ := h2.form
  have mc : p.n ≤ c := by obtain ⟨⟨_, _, _, e, h, _⟩, _⟩ := h1; simp only [Value.slice.injEq, true_and] at e; omega
  obtain ⟨cv, hcv, hsrc⟩ := h1.1.values
  obtain ⟨b, off, rfl, hb1, hb2, hcell⟩ := hsrc (by omega)
  have Hcv := hide hcv
  have Hcell := hide hcell
  have hbw : b < w.heap.size := by
    have := hcell 0 _ (by have := sc_at p.s cv p.n 0 0 (by omega) (by omega); simpa using this)
    exact lt_of_cell this
  obtain ⟨i1, hi1, hzz1⟩ := Option.map_eq_some_iff.1 infoSlotT
  simp only [Prod.mk.injEq] at hzz1
  have HI1 := hide (And.intro hi1 hzz1)
  clear h1 h2 hn hcv hsrc hcell hi1 hzz1 hb1 hb2
  have ha1 := below_alloc w (.cells #[.slice (some ⟨b, off, none⟩) p.n c, .slice a' p.hn c'] 26)
  have ha2 := below_next ha1 (below_alloc _ (.cells #[.int .i64 s.birth, .slice ka s.kn kc, .string s.data] 29))
  have hba := below_next ha2 (below_alloc _ (.cells #[.slice none 0 0, .slice none 0 0] 26))
  have HB := hide (((Box2.new w (.slice (some ⟨b, off, none⟩) p.n c) (.slice a' p.hn c') 26).below (below_alloc _ (.cells #[.int .i64 s.birth, .slice ka s.kn kc, .string s.data] 29))).below (below_alloc _ (.cells #[.slice none 0 0, .slice none 0 0] 26)))
  have hs3 := (Box3.new (w.alloc (.cells #[.slice (some ⟨b, off, none⟩) p.n c, .slice a' p.hn c'] 26)) (.int .i64 s.birth) (.slice ka s.kn kc) (.string s.data) 29).below (below_alloc _ (.cells #[.slice none 0 0, .slice none 0 0] 26))
  rw [World.size_alloc] at hs3
  have HS := hide hs3
  have hr3 := Box2.new ((w.alloc (.cells #[.slice (some ⟨b, off, none⟩) p.n c, .slice a' p.hn c'] 26)).alloc (.cells #[.int .i64 s.birth, .slice ka s.kn kc, .string s.data] 29)) (.slice none 0 0) (.slice none 0 0) 26
  rw [World.size_alloc, World.size_alloc] at hr3
  have HR := hide hr3
  clear ha1 ha2 hs3 hr3
  go_enter Try.func45, Try.ntmps45
  go_wp2_with fail
  generalize hW : ((w.alloc (.cells #[.slice (some ⟨b, off, none⟩) p.n c, .slice a' p.hn c'] 26)).alloc (.cells #[.int .i64 s.birth, .slice ka s.kn kc, .string s.data] 29)).alloc (.cells #[.slice none 0 0, .slice none 0 0] 26) = W at HB HS HR hba ⊢
  have hz : W.heap.size = w.heap.size + 3 := by rw [← hW, World.size_alloc, World.size_alloc, World.size_alloc]
  clear hW
  obtain ⟨⟨x0, x1⟩, ⟨x2, x3⟩⟩ := HB.out
  obtain ⟨⟨y0, y1⟩, ⟨y2, y3⟩, ⟨y4, y5⟩⟩ := HS.out
  have hat1 : (at' : Int) ≤ (c : Int) := by omega
  have n0 : W.heap.size ≠ w.heap.size := by omega
  have n1 : W.heap.size ≠ w.heap.size + 1 := by omega
  go_region_held3 (fun w' => w'.cell? ⟨w.heap.size, 0, none⟩ = some (.slice (some ⟨b, off, none⟩) p.n c) ∧ w'.cell? ⟨w.heap.size + 1, 0, none⟩ = some (.int .i64 s.birth) ∧ w'.cell? ⟨w.heap.size + 1, 1, none⟩ = some (.slice ka s.kn kc) ∧ w'.cell? ⟨w.heap.size + 1, 2, none⟩ = some (.string s.data)) (go_keep)
    (first
      | (refine step_append_grows rfl (.tmp 12) (.tmp 14) 23 rfl 29 i1 (.agg #[.int .i64 0, .slice none 0 0, .string ⟨#[]⟩]) 3 48 (by kernel_rfl) HI1.out.1 HI1.out.2.1 HI1.out.2.2.1 HI1.out.2.2.2 rfl (by decide) (some ⟨b, off, none⟩) at' at' (sc p.s cv at') (by simp [Act.eval]) (fun e => by cases e) (sc_len _ _ _) ?_ ⟨W.heap.size, 0, none⟩ 1 1 [.int .i64 s.birth, .slice ka s.kn kc, .string s.data] (by simp [Act.eval]) rfl ?_ (one3 _ _ _ _ _) (by omega) (by unfold maxLen; omega) (by omega) ?_
         exact fun b1 e j u hj => by
           simp only [Option.some.injEq] at e
           subst e
           rw [add_lit]
           exact ((below_next hba (below_alloc W _)).drew.cell (p := ⟨b, off + j, none⟩) hbw).trans (Hcell.out j u (sc_prefix (by omega) hj))
         exact news3 W _ _ _ _
         intro v4 w4 hown4 hgrow4
         obtain ⟨g4, c4, rfl, _⟩ := hown4.form (by omega)
         have hb4 : Below W.heap.size W w4 := below_next (below_alloc W _) (below_undrew (below_of_grown hgrow4))
         have Hrow4 := hide (own_base (B := W.heap.size) hown4 (by simp))
         obtain ⟨⟨p0, p1⟩, ⟨p2, p3⟩⟩ := HB.out.below hb4
         obtain ⟨⟨p4, p5⟩, ⟨p6, p7⟩, ⟨p8, p9⟩⟩ := HS.out.below hb4
         clear hown4 hgrow4))
  have hB4 := below_next hba hb4
  have hat2 : (at' : Int) + 1 ≤ (p.n : Int) := by omega
  have hz4 := hb4.size
  clear x0 x1 x2 x3 y0 y1 y2 y3 y4 y5 p4 p5 p6 p7 p8 p9 HS
  have HnB : Hid (∀ j u, (sc (fun i => p.s (at' + 1 + i)) (fun i => cv (at' + 1 + i)) (p.n - (at' + 1)))[j]? = some u → w4.cell? ((⟨b, off + (at' + 1) * 3, none⟩ : Addr).add j) = some u) := fun j u hj => by
    have e := sc_suffix (f := p.s) (kv := cv) hj
    rw [show at' + 1 + (p.n - (at' + 1)) = p.n by omega] at e
    rw [add_lit, show off + (at' + 1) * 3 + j = off + ((at' + 1) * 3 + j) by omega]
    exact (hB4.cell (p := ⟨b, off + ((at' + 1) * 3 + j), none⟩) hbw).trans (Hcell.out _ u e)
  have HnA : Hid (c = at' + 1 → ∀ j u, (sc (fun i => p.s (at' + 1 + i)) (fun i => cv (at' + 1 + i)) (p.n - (at' + 1)))[j]? = some u → w4.cell? ((⟨b, off, none⟩ : Addr).add j) = some u) := fun hce j u hj => by
    rw [show p.n - (at' + 1) = 0 by omega] at hj
    simp [sc] at hj
  have Hone : Hid (∀ u ∈ sc (fun i => p.s (at' + 1 + i)) (fun i => cv (at' + 1 + i)) (p.n - (at' + 1)), u.oneCell' = true) := sc_one _ _ _ (fun i hi => by obtain ⟨ka', kc', e⟩ := (Hcv.out (at' + 1 + i) (by omega)).form; rw [e]; rfl)
  go_wp2_with (first
    | (at_builtin; refine wpList_append_opt rfl _ _ 23 rfl W.heap.size 29 i1 (.agg #[.int .i64 0, .slice none 0 0, .string ⟨#[]⟩]) 3 48 (by kernel_rfl) HI1.out.1 HI1.out.2.1 HI1.out.2.2.1 HI1.out.2.2.2 rfl (by decide) (.slice (some ⟨g4, 0, none⟩) (at' + 1) c4) (at' + 1) _ rfl Hrow4.out _ (p.n - (at' + 1)) _ (sc (fun i => p.s (at' + 1 + i)) (fun i => cv (at' + 1 + i)) (p.n - (at' + 1))) rfl (sc_len _ _ _) Hone.out (by intro hm; exact ⟨b, off + (at' + 1) * 3, (by first | rw [if_neg (by omega)] | rfl | simp), fun j u hj => by have hq := HnB.out j u hj; rw [add_lit] at hq; exact hq⟩) ?c3 ?c4 ?c5 ?_))
  case c3 => unfold maxLen; omega
  case c4 => omega
  case c5 => omega
  all_goals
    intro v5 w5 hown5 hgrow5 _
    have hl := sc_set (s := s) (cv := cv) (kv := .slice ka s.kn kc) hat
    simp only [List.append_assoc, List.cons_append, List.nil_append] at hl hown5
    rw [show at' + 1 + (p.n - (at' + 1)) = p.n by omega, hl] at hown5
    clear hl
    obtain ⟨g5, c5, rfl, _⟩ := hown5.form (by omega)
    have hb5 : Below W.heap.size W w5 := hb4.grown hgrow5 hz4 (fun k hk => (Hrow4.out.lt k hk).1)
    have hB5 := below_next hba hb5
    have Hpa : Hid (PoolAt w5 0 w5.heap.size (.slice (some ⟨g5, 0, none⟩) p.n c5) (.slice a' p.hn c') (setS p at' s)) := by
      refine ⟨slotRow_at (by show p.n ≤ maxLen; unfold maxLen; omega) hown5 (fun i hi => ?_), (Hp.out.2.below hB5).all⟩
      by_cases e : i = at'
      · subst e
        rw [show (setS p i s).s i = s from if_pos rfl]
        simp only [if_true]
        exact (Hs.out.below hB5).all
      · rw [show (setS p at' s).s i = p.s i from if_neg e]
        simp only [if_neg e]
        exact ((Hcv.out i hi).below hB5).all
    have HR5 := hide (HR.out.below hb5)
    have hz5 : w.heap.size + 3 ≤ w5.heap.size := by have := hb5.size; omega
    clear hown5 hgrow5 p0 p1 p2 p3
    obtain ⟨⟨p0, p1⟩, ⟨p2, p3⟩⟩ := HB.out.below hb5
    go_wp2_with fail
    refine (clonePool_any _ _ 0 w5.heap.size (setS p at' s) _ Hpa.out (by have := set_small p at' s; have := Hn.out; omega)).mono ?_
    rintro e w6 ⟨s0, s1, rfl, ho6, hb6⟩
    obtain ⟨a6, c6, a7, c7, rfl, rfl⟩ := ho6.form
    have HR6 := hide (HR5.out.below hb6)
    have Ho6 := hide ho6
    have hB6 := below_next hB5 hb6
    clear ho6 hb6 p0 p1 p2 p3
    obtain ⟨⟨u0, u1⟩, ⟨u2, u3⟩⟩ := HR6.out
    go_wp2
    have HR7 := HR6.out.put (.slice a6 (setS p at' s).n c6) (.slice a7 (setS p at' s).hn c7)
    have hpr := pool_ret (R := w.heap.size + 1 + 1) Ho6.out (by omega) (by omega) (Nat.le_refl _) hB6
    exact bodyPost_ret (v := .agg #[.slice a6 (setS p at' s).n c6, .slice a7 (setS p at' s).hn c7]) (by simp [results, Try.results45, go_sem, HR7.1.1, HR7.2.1]) rfl ⟨_, _, rfl, hpr.1, hpr.2⟩

end Go.Proofs.Ytikhipekmlhibaa
