/- What spec.PoolSync and impl.PoolSync answer. -/
import Derived.Test.YtjbcjlednedboaaSyncA
namespace Go.Proofs.Ytjbcjlednedboaa
open Go.RowKit
set_option linter.unusedVariables false

theorem held_cell {w : World} {lo hi : Nat} {a : Option Addr} {n c : Nat} {f : Nat → Int} (h : IntsAt w lo hi (.slice a n c) n f) {k : Nat} (hk : k < n) : ∃ b off, a = some ⟨b, off, none⟩ ∧ w.cell? ⟨b, off + k, none⟩ = some (.int .i64 (f k)) := by
  obtain ⟨_, a2, c2, hv, _, hx⟩ := h
  simp only [Value.slice.injEq, true_and] at hv
  obtain ⟨rfl, rfl⟩ := hv
  obtain ⟨b, off, ha, _, _, h3⟩ := hx (by omega)
  exact ⟨b, off, ha, h3 k hk⟩

set_option maxRecDepth 20000 in
set_option maxHeartbeats 2000000 in
theorem specPoolSync_any (v0 v1 : Value) (lo hi : Nat) (p : PoolD) (w : World) (h1 : PoolAt w lo hi v0 v1 p) (hn : poolN p ≤ 1048576) : Calls Try.prog 18 #[.agg #[v0, v1]] w (NewPool (syncP p) w) := by
  have Hp := hide h1
  obtain ⟨a, c, a', c', rfl, rfl⟩ := h1.form
  have Hn := hide hn
  have hm1 : p.n ≤ 2 ^ 63 - 1 := h1.1.1
  have hm2 : p.hn ≤ 2 ^ 63 - 1 := h1.2.1
  have mc : p.n ≤ c := by obtain ⟨⟨_, _, _, e, h, _⟩, _⟩ := h1; simp only [Value.slice.injEq, true_and] at e; omega
  have mc' : p.hn ≤ c' := by obtain ⟨_, ⟨_, _, _, e, h, _⟩⟩ := h1; simp only [Value.slice.injEq, true_and] at e; omega
  clear h1 hn
  have hba := below_next (below_alloc w (.cells #[.slice a p.n c, .slice a' p.hn c'] 26)) (below_alloc _ (.cells #[.slice none 0 0, .slice none 0 0] 26))
  have HB := hide ((Box2.new w (.slice a p.n c) (.slice a' p.hn c') 26).below (below_alloc _ (.cells #[.slice none 0 0, .slice none 0 0] 26)))
  have hr3 := Box2.new (w.alloc (.cells #[.slice a p.n c, .slice a' p.hn c'] 26)) (.slice none 0 0) (.slice none 0 0) 26
  rw [World.size_alloc] at hr3
  have HR := hide hr3
  clear hr3
  go_enter Try.func18, Try.ntmps18
  go_wp2_with fail
  refine (l01Copy_any _ _ lo hi p _ (Hp.out.below hba) Hn.out).mono ?_
  rintro e w1 ⟨s0, s1, rfl, ho1, hb1⟩
  rw [World.size_alloc, World.size_alloc] at ho1
  have HB1 := hide (HB.out.below hb1)
  have HR1 := hide (HR.out.below hb1)
  have hB1 := below_next hba hb1
  have hz1 : w.heap.size + 2 ≤ w1.heap.size := by have := hb1.size; rw [World.size_alloc, World.size_alloc] at this; omega
  obtain ⟨a0, c0, a1, c1, rfl, rfl⟩ := ho1.form
  have Ho1 := hide ho1
  clear ho1 hb1 hba HB HR
  have hal := below_alloc w1 (.cells #[.slice a0 p.n c0, .slice a1 p.hn c1] 26)
  obtain ⟨⟨x0, x1⟩, ⟨x2, x3⟩⟩ := HB1.out.below hal
  go_wp2_with fail
  refine (specPoolRight_any _ _ lo hi p _ (Hp.out.below (below_next hB1 hal))).mono ?_
  rintro e w2 ⟨⟨t, rfl, ht⟩, hb2⟩
  have hax := below_next hal hb2
  have HB2 := hide (HB1.out.below hax)
  have HR2 := hide (HR1.out.below hax)
  have HO2 := hide ((Box2.new w1 (.slice a0 p.n c0) (.slice a1 p.hn c1) 26).below hb2)
  have Ho2 := hide (Ho1.out.below hax)
  have hB2 := below_next hB1 hax
  generalize w1.heap.size = OUT at hz1 HO2 Ho2 ⊢
  clear hal hb2 hax HB1 HR1 Ho1 hB1 x0 x1 x2 x3
  by_cases hR : Right p
  · have HRt := hide hR
    obtain rfl : t = true := ht.2 hR
    clear ht hR
    have hzo : OUT < w2.heap.size := HO2.out.1.lt
    go_wp2
    go_loopw [4] (fun i wr => ∃ k : Nat, k ≤ p.hn ∧ i = .int .i64 k ∧ Box2 wr w.heap.size (.slice a p.n c) (.slice a' p.hn c') ∧ Box2 wr (w.heap.size + 1) (.slice none 0 0) (.slice none 0 0) ∧ Box2 wr OUT (.slice a0 p.n c0) (.slice a1 p.hn c1) ∧
        PoolOwn wr (w.heap.size + 1 + 1) OUT (.slice a0 p.n c0) (.slice a1 p.hn c1) (freed p k) ∧ Below w.heap.size w wr ∧ OUT < wr.heap.size) (fun i _ => p.hn - (intOf i).toNat)
    case atStart => exact ⟨0, Nat.zero_le _, rfl, HB2.out, HR2.out, HO2.out, by rw [freed_zero]; exact Ho2.out, hB2, hzo⟩
    case round =>
      obtain ⟨k, hk, rfl, hx, hr, ho, hpo, hb, hzr⟩ := hrel
      have Hx := hide hx
      have Hr := hide hr
      have Ho := hide ho
      have Hpo := hide hpo
      clear hx hr ho hpo
      obtain ⟨⟨x0, x1⟩, ⟨x2, x3⟩⟩ := Hx.out
      obtain ⟨⟨y0, y1⟩, ⟨y2, y3⟩⟩ := Ho.out
      by_cases hlt : k < p.hn
      · have hlt' : (k : Int) < (p.hn : Int) := by omega
        obtain ⟨hh1, hh2, _⟩ := HRt.out.2.2 k hlt
        obtain ⟨m, hm⟩ := Int.eq_ofNat_of_zero_le hh1
        rw [hm] at hh1 hh2
        have hmn : m < p.n := by omega
        obtain ⟨hb0, ho0, rfl, hcell⟩ := held_cell Hp.out.2 hlt
        rw [hm] at hcell
        have hbw : hb0 < w.heap.size := lt_of_cell hcell
        have hcell' := (hb.cell (p := ⟨hb0, ho0 + k, none⟩) hbw).trans hcell
        obtain ⟨bs, off, rfl, hbs, ⟨q0, q1, q2, ⟨r0, r1⟩, ⟨r2, r3⟩, ⟨r4, r5⟩⟩, hset⟩ := Hpo.out.set (i := m) hmn
        have Hset := hide (hset zeroS 0 (.slice none 0 0) (w.heap.size + 1 + 1) OUT ⟨Nat.zero_le _, none, 0, rfl, Nat.le_refl _, fun h => absurd h (Nat.lt_irrefl _)⟩ (Nat.zero_le _) (fun h => absurd h (Nat.lt_irrefl _)) (Nat.le_refl _) (Nat.le_refl _))
        have Hm := hide hm
        have n0 : bs ≠ w.heap.size := by omega
        have n1 : bs ≠ OUT := by omega
        have n2 : bs ≠ hb0 := by omega
        clear hset hcell hm
        go_wp2_with fail
        go_region_held3 (fun w' => w'.cell? ⟨w.heap.size, 1, none⟩ = some (.slice (some ⟨hb0, ho0, none⟩) p.hn c') ∧ w'.cell? ⟨OUT, 0, none⟩ = some (.slice (some ⟨bs, off, none⟩) p.n c0) ∧ w'.cell? ⟨hb0, ho0 + k, none⟩ = some (.int .i64 (m : Int))) (go_keep) (fail)
        have tX := ((Turned.put wr bs (off + m * 3) (.int .i64 0)).trans (Turned.put _ bs (off + m * 3 + 1) (.slice none 0 0))).trans (Turned.put _ bs (off + m * 3 + 2) (.string ⟨#[]⟩))
        have HX1 := hide ((Hx.out.turned tX (by omega)).below (Below.refl _ _).drew)
        have HR1 := hide ((Hr.out.turned tX (by omega)).below (Below.refl _ _).drew)
        have HO1 := hide ((Ho.out.turned tX (by omega)).below (Below.refl _ _).drew)
        have hB1 := (hb.trans (tX.below (by omega) (fun k hk => by omega))).drew
        have hz := tX.size
        have HP1 := hide (Hset.out.below (Below.refl _ _).drew)
        clear tX Hset
        go_wp2
        go_roundw
        case rel =>
          refine ⟨k + 1, by omega, by go_num, HX1.out, HR1.out, HO1.out, ?_, hB1, by simp only [World.size_setCell, World.size_drew] at *; omega⟩
          rw [freed_succ Hm.out]
          exact HP1.out
        case measure => simp [intOf]; omega
      · obtain rfl : k = p.hn := by omega
        have HoS := hide ((Hpo.out.turned (Turned.put wr OUT 1 (.slice none 0 0)) (fun k hk => by omega)).noHeld)
        have HXS := hide (Hx.out.other (b' := OUT) (o' := 1) (.slice none 0 0) (by omega))
        have HRS := hide (Hr.out.other (b' := OUT) (o' := 1) (.slice none 0 0) (by omega))
        have HOS : Hid (Box2 (wr.setCell ⟨OUT, 1, none⟩ (.slice none 0 0)) OUT (.slice a0 p.n c0) (.slice none 0 0)) := ⟨Ho.out.1.other _ (Or.inr (by omega)), Ho.out.2.set _⟩
        have hBS := hb.setCell (p := ⟨OUT, 1, none⟩) (by show _ ≤ OUT; omega) (.slice none 0 0)
        go_wp2_with fail
        refine (specPoolRight_any _ _ (w.heap.size + 1 + 1) OUT (swept p) _ HoS.out.at).mono ?_
        rintro e w3 ⟨⟨t, rfl, ht⟩, hb3⟩
        have HX3 := hide (HXS.out.below hb3)
        have HR3 := hide (HRS.out.below hb3)
        have HO3 := hide (HOS.out.below hb3)
        have Ho3 := hide (HoS.out.below hb3)
        have hB3 := below_next hBS hb3
        have hz3 : OUT < w3.heap.size := HO3.out.1.lt
        clear hb3 HoS HXS HRS HOS hBS x0 x1 x2 x3 y0 y1 y2 y3
        by_cases hS : Right (swept p)
        · have HS := hide hS
          obtain rfl : t = true := ht.2 hS
          clear ht hS
          obtain ⟨⟨y0, y1⟩, ⟨y2, y3⟩⟩ := HO3.out
          obtain ⟨⟨u0, u1⟩, ⟨u2, u3⟩⟩ := HR3.out
          go_wp2
          have HR6 := HR3.out.put (.slice a0 p.n c0) (.slice none 0 0)
          have hpr := pool_ret (R := w.heap.size + 1) Ho3.out (by omega) (by omega) (by omega) hB3
          refine bodyPost_ret (v := .agg #[.slice a0 p.n c0, .slice none 0 0]) (by simp [results, Try.results18, go_sem, HR6.1.1, HR6.2.1]) rfl ⟨_, _, rfl, ?_, hpr.2⟩
          rw [sync_yes HRt.out HS.out]
          exact hpr.1
        · have HS := hide hS
          obtain rfl : t = false := bool_no ht hS
          clear ht hS
          obtain ⟨⟨y0, y1⟩, ⟨y2, y3⟩⟩ := HX3.out
          go_wp2_with fail
          refine (l01Copy_any _ _ lo hi p _ (Hp.out.below hB3) Hn.out).mono ?_
          rintro e w4 ⟨s0, s1, rfl, ho4, hb4⟩
          obtain ⟨a4, c4, a5, c5, rfl, rfl⟩ := ho4.form
          have HR4 := hide (HR3.out.below hb4)
          have Ho4 := hide ho4
          have hB4 := below_next hB3 hb4
          clear ho4 hb4
          obtain ⟨⟨u0, u1⟩, ⟨u2, u3⟩⟩ := HR4.out
          go_wp2
          have HR6 := HR4.out.put (.slice a4 p.n c4) (.slice a5 p.hn c5)
          have hpr := pool_ret (R := w.heap.size + 1) Ho4.out (by omega) (by omega) (Nat.le_refl _) hB4
          refine bodyPost_ret (v := .agg #[.slice a4 p.n c4, .slice a5 p.hn c5]) (by simp [results, Try.results18, go_sem, HR6.1.1, HR6.2.1]) rfl ⟨_, _, rfl, ?_, hpr.2⟩
          rw [sync_no (fun h => HS.out h.2)]
          exact hpr.1
  · have HRt := hide hR
    obtain rfl : t = false := bool_no ht hR
    clear ht hR
    obtain ⟨⟨y0, y1⟩, ⟨y2, y3⟩⟩ := HO2.out
    obtain ⟨⟨u0, u1⟩, ⟨u2, u3⟩⟩ := HR2.out
    have hzo : OUT < w2.heap.size := HO2.out.1.lt
    go_wp2
    have HR6 := HR2.out.put (.slice a0 p.n c0) (.slice a1 p.hn c1)
    have hpr := pool_ret (R := w.heap.size + 1) Ho2.out (by omega) (by omega) (by omega) hB2
    refine bodyPost_ret (v := .agg #[.slice a0 p.n c0, .slice a1 p.hn c1]) (by simp [results, Try.results18, go_sem, HR6.1.1, HR6.2.1]) rfl ⟨_, _, rfl, ?_, hpr.2⟩
    rw [sync_no (fun h => HRt.out h.1)]
    exact hpr.1

set_option maxRecDepth 20000 in
set_option maxHeartbeats 2000000 in
theorem implPoolSync_any (v0 v1 : Value) (lo hi : Nat) (p : PoolD) (w : World) (h1 : PoolAt w lo hi v0 v1 p) (hn : poolN p ≤ 1048576) : Calls Try.prog 17 #[.agg #[v0, v1]] w (NewPool (syncP p) w) := by
  have Hp := hide h1
  obtain ⟨a, c, a', c', rfl, rfl⟩ := h1.form
  have Hn := hide hn
  have hm1 : p.n ≤ 2 ^ 63 - 1 := h1.1.1
  have hm2 : p.hn ≤ 2 ^ 63 - 1 := h1.2.1
  have mc : p.n ≤ c := by obtain ⟨⟨_, _, _, e, h, _⟩, _⟩ := h1; simp only [Value.slice.injEq, true_and] at e; omega
  have mc' : p.hn ≤ c' := by obtain ⟨_, ⟨_, _, _, e, h, _⟩⟩ := h1; simp only [Value.slice.injEq, true_and] at e; omega
  clear h1 hn
  have hba := below_next (below_alloc w (.cells #[.slice a p.n c, .slice a' p.hn c'] 26)) (below_alloc _ (.cells #[.slice none 0 0, .slice none 0 0] 26))
  have HB := hide ((Box2.new w (.slice a p.n c) (.slice a' p.hn c') 26).below (below_alloc _ (.cells #[.slice none 0 0, .slice none 0 0] 26)))
  have hr3 := Box2.new (w.alloc (.cells #[.slice a p.n c, .slice a' p.hn c'] 26)) (.slice none 0 0) (.slice none 0 0) 26
  rw [World.size_alloc] at hr3
  have HR := hide hr3
  clear hr3
  go_enter Try.func17, Try.ntmps17
  go_wp2_with fail
  refine (clonePool_any _ _ lo hi p _ (Hp.out.below hba) Hn.out).mono ?_
  rintro e w1 ⟨s0, s1, rfl, ho1, hb1⟩
  rw [World.size_alloc, World.size_alloc] at ho1
  have HB1 := hide (HB.out.below hb1)
  have HR1 := hide (HR.out.below hb1)
  have hB1 := below_next hba hb1
  have hz1 : w.heap.size + 2 ≤ w1.heap.size := by have := hb1.size; rw [World.size_alloc, World.size_alloc] at this; omega
  obtain ⟨a0, c0, a1, c1, rfl, rfl⟩ := ho1.form
  have Ho1 := hide ho1
  clear ho1 hb1 hba HB HR
  have hal := below_alloc w1 (.cells #[.slice a0 p.n c0, .slice a1 p.hn c1] 26)
  obtain ⟨⟨x0, x1⟩, ⟨x2, x3⟩⟩ := HB1.out.below hal
  go_wp2_with fail
  refine (implPoolRight_any _ _ lo hi p _ (Hp.out.below (below_next hB1 hal))).mono ?_
  rintro e w2 ⟨⟨t, rfl, ht⟩, hb2⟩
  have hax := below_next hal hb2
  have HB2 := hide (HB1.out.below hax)
  have HR2 := hide (HR1.out.below hax)
  have HO2 := hide ((Box2.new w1 (.slice a0 p.n c0) (.slice a1 p.hn c1) 26).below hb2)
  have Ho2 := hide (Ho1.out.below hax)
  have hB2 := below_next hB1 hax
  generalize w1.heap.size = OUT at hz1 HO2 Ho2 ⊢
  clear hal hb2 hax HB1 HR1 Ho1 hB1 x0 x1 x2 x3
  by_cases hR : Right p
  · have HRt := hide hR
    obtain rfl : t = true := ht.2 hR
    clear ht hR
    obtain ⟨⟨x0, x1⟩, ⟨x2, x3⟩⟩ := HB2.out
    go_wp2_with fail
    refine (heldNeeded_any _ _ lo hi p _ (Hp.out.below hB2) (fun i hi => right_kn HRt.out hi)).mono ?_
    rintro e w3 ⟨⟨t, rfl, ht⟩, hb3⟩
    have HB3 := hide (HB2.out.below hb3)
    have HR3 := hide (HR2.out.below hb3)
    have HO3 := hide (HO2.out.below hb3)
    have Ho3 := hide (Ho2.out.below hb3)
    have hB3 := below_next hB2 hb3
    have hzo : OUT < w3.heap.size := HO3.out.1.lt
    clear hb3 HB2 HR2 HO2 Ho2 hB2 x0 x1 x2 x3
    by_cases hN : Needed p
    · have HN := hide ((needed_iff HRt.out).1 hN)
      obtain rfl : t = true := ht.2 hN
      clear ht hN
      obtain ⟨⟨y0, y1⟩, ⟨y2, y3⟩⟩ := HO3.out
      obtain ⟨⟨u0, u1⟩, ⟨u2, u3⟩⟩ := HR3.out
      go_wp2
      have HR6 := HR3.out.put (.slice a0 p.n c0) (.slice a1 p.hn c1)
      have hpr := pool_ret (R := w.heap.size + 1) Ho3.out (by omega) (by omega) (by omega) hB3
      refine bodyPost_ret (v := .agg #[.slice a0 p.n c0, .slice a1 p.hn c1]) (by simp [results, Try.results17, go_sem, HR6.1.1, HR6.2.1]) rfl ⟨_, _, rfl, ?_, hpr.2⟩
      rw [sync_no (fun h => HN.out h.2)]
      exact hpr.1
    · have HS : Hid (Right (swept p)) := Classical.byContradiction (fun h => hN ((needed_iff HRt.out).2 h))
      obtain rfl : t = false := bool_no ht hN
      clear ht hN
      obtain ⟨⟨x0, x1⟩, ⟨x2, x3⟩⟩ := HB3.out
      go_wp2
      go_loopw [5, 19] (fun _ i wr => ∃ k : Nat, k ≤ p.hn ∧ i = .int .i64 k ∧ Box2 wr (w.heap.size + 1) (.slice none 0 0) (.slice none 0 0) ∧ Box2 wr OUT (.slice a0 p.n c0) (.slice a1 p.hn c1) ∧
          PoolOwn wr (w.heap.size + 1 + 1) OUT (.slice a0 p.n c0) (.slice a1 p.hn c1) (freed p k) ∧ Below w.heap.size w wr ∧ OUT < wr.heap.size) (fun _ i _ => p.hn - (intOf i).toNat)
      case atStart => exact ⟨0, Nat.zero_le _, rfl, HR3.out, HO3.out, by rw [freed_zero]; exact Ho3.out, hB3, hzo⟩
      case round =>
        obtain ⟨k, hk, rfl, hr, ho, hpo, hb, hzr⟩ := hrel
        have Hr := hide hr
        have Ho := hide ho
        have Hpo := hide hpo
        clear hr ho hpo
        obtain ⟨⟨y0, y1⟩, ⟨y2, y3⟩⟩ := Ho.out
        by_cases hlt : k < p.hn
        · have hlt' : (k : Int) < (p.hn : Int) := by omega
          obtain ⟨hh1, hh2, _⟩ := HRt.out.2.2 k hlt
          obtain ⟨m, hm⟩ := Int.eq_ofNat_of_zero_le hh1
          rw [hm] at hh1 hh2
          have hmn : m < p.n := by omega
          obtain ⟨hb0, ho0, rfl, hcell⟩ := held_cell Hp.out.2 hlt
          rw [hm] at hcell
          have hbw : hb0 < w.heap.size := lt_of_cell hcell
          have hcell' := (hb.cell (p := ⟨hb0, ho0 + k, none⟩) hbw).trans hcell
          obtain ⟨bs, off, rfl, hbs, ⟨q0, q1, q2, ⟨r0, r1⟩, ⟨r2, r3⟩, ⟨r4, r5⟩⟩, hset⟩ := Hpo.out.set (i := m) hmn
          have Hset := hide (hset zeroS 0 (.slice none 0 0) (w.heap.size + 1 + 1) OUT ⟨Nat.zero_le _, none, 0, rfl, Nat.le_refl _, fun h => absurd h (Nat.lt_irrefl _)⟩ (Nat.zero_le _) (fun h => absurd h (Nat.lt_irrefl _)) (Nat.le_refl _) (Nat.le_refl _))
          have Hm := hide hm
          have tX := ((Turned.put wr bs (off + m * 3) (.int .i64 0)).trans (Turned.put _ bs (off + m * 3 + 1) (.slice none 0 0))).trans (Turned.put _ bs (off + m * 3 + 2) (.string ⟨#[]⟩))
          have HR1 := hide (Hr.out.turned tX (by omega))
          have HO1 := hide (Ho.out.turned tX (by omega))
          have hB1 := hb.trans (tX.below (by omega) (fun k hk => by omega))
          have hz := tX.size
          clear hset hcell hm tX
          go_wp2
          go_roundw
          case rel =>
            refine ⟨k + 1, by omega, by go_num, HR1.out, HO1.out, ?_, hB1, by omega⟩
            rw [freed_succ Hm.out]
            exact Hset.out
          case measure => simp [intOf]; omega
        · obtain rfl : k = p.hn := by omega
          have HoS := hide ((Hpo.out.turned (Turned.put wr OUT 1 (.slice none 0 0)) (fun k hk => by omega)).noHeld)
          have HRS := hide (Hr.out.other (b' := OUT) (o' := 1) (.slice none 0 0) (by omega))
          have HOS : Hid (Box2 (wr.setCell ⟨OUT, 1, none⟩ (.slice none 0 0)) OUT (.slice a0 p.n c0) (.slice none 0 0)) := ⟨Ho.out.1.other _ (Or.inr (by omega)), Ho.out.2.set _⟩
          have hBS := hb.setCell (p := ⟨OUT, 1, none⟩) (by show _ ≤ OUT; omega) (.slice none 0 0)
          have hz3 : OUT < (wr.setCell ⟨OUT, 1, none⟩ (.slice none 0 0)).heap.size := HOS.out.1.lt
          obtain ⟨⟨u0, u1⟩, ⟨u2, u3⟩⟩ := HRS.out
          obtain ⟨⟨t0, t1⟩, ⟨t2, t3⟩⟩ := HOS.out
          go_wp2
          have HR6 := HRS.out.put (.slice a0 p.n c0) (.slice none 0 0)
          have hpr := pool_ret (R := w.heap.size + 1) HoS.out (by omega) (by omega) (by omega) hBS
          refine bodyPost_ret (v := .agg #[.slice a0 p.n c0, .slice none 0 0]) (by simp [results, Try.results17, go_sem, HR6.1.1, HR6.2.1]) rfl ⟨_, _, rfl, ?_, hpr.2⟩
          rw [sync_yes HRt.out HS.out]
          exact hpr.1
  · have HRt := hide hR
    obtain rfl : t = false := bool_no ht hR
    clear ht hR
    obtain ⟨⟨y0, y1⟩, ⟨y2, y3⟩⟩ := HO2.out
    obtain ⟨⟨u0, u1⟩, ⟨u2, u3⟩⟩ := HR2.out
    have hzo : OUT < w2.heap.size := HO2.out.1.lt
    go_wp2
    have HR6 := HR2.out.put (.slice a0 p.n c0) (.slice a1 p.hn c1)
    have hpr := pool_ret (R := w.heap.size + 1) Ho2.out (by omega) (by omega) (by omega) hB2
    refine bodyPost_ret (v := .agg #[.slice a0 p.n c0, .slice a1 p.hn c1]) (by simp [results, Try.results17, go_sem, HR6.1.1, HR6.2.1]) rfl ⟨_, _, rfl, ?_, hpr.2⟩
    rw [sync_no (fun h => HRt.out h.1)]
    exact hpr.1

end Go.Proofs.Ytjbcjlednedboaa
