/- What the draws' l01Pool leaves: a new pool. -/
import Derived.Test.YtikhipekmlhibaaG11
import Derived.Test.YtikhipekmlhibaaG2
namespace Go.Proofs.Ytikhipekmlhibaa
open Go.RowKit
set_option linter.unusedVariables false

/-- The answer is a new pool as the draws make them. -/
def NewDrawn (N m B : Nat) (w : World) (e : Ending) (w' : World) : Prop :=
  ∃ q v0 v1, e = .returned (.agg #[v0, v1]) ∧ PoolOwn w' w.heap.size w'.heap.size v0 v1 q ∧ PoolB N m q ∧ Src w' B ∧ Turned (fun k => k = B) w w'

theorem put2_turned (w : World) (X : Nat) (u0 u1 : Value) : Turned (fun k => k = X) w ((w.setCell ⟨X, 0, none⟩ u0).setCell ⟨X, 1, none⟩ u1) :=
  (Turned.put w X 0 u0).trans (Turned.put _ X 1 u1)

theorem drawn_end0 {w wx : World} {B N m : Nat} {v0 v1 : Value} {q : PoolD} (hI : PoolI w wx B) (ho : PoolOwn wx (w.heap.size + 1) wx.heap.size v0 v1 q) (hb : PoolB N m q) :
    NewDrawn N m B w (.returned (.agg #[v0, v1])) ((wx.setCell ⟨w.heap.size, 0, none⟩ v0).setCell ⟨w.heap.size, 1, none⟩ v1) := by
  have t := put2_turned wx w.heap.size v0 v1
  have hz := t.size
  exact ⟨q, v0, v1, rfl, (ho.turned t (fun k hk => by omega)).wide (by omega) (by omega), hb, hI.src.turned t (fun k hk => by have := hI.place; omega), only_src hI.turn t (Nat.le_refl _)⟩

theorem PoolV.own1 {w wx : World} {X : Nat} {v0 v1 : Value} {q : PoolD} (h : PoolV w wx X v0 v1 q) : PoolOwn wx (w.heap.size + 1) wx.heap.size v0 v1 q := by
  obtain ⟨lo, hi, h1, h2, h3, h4⟩ := h.own
  exact h1.wide h2 h3

theorem PoolV.put {w wr wx : World} {X Y : Nat} {v0 v1 u0 u1 : Value} {q : PoolD} {o : OutD} (hV : PoolV w wx X v0 v1 q) (hO : OutV wr wx Y u0 u1 o) (hX : w.heap.size < X ∧ X < wr.heap.size) : PoolV w ((wx.setCell ⟨X, 0, none⟩ u0).setCell ⟨X, 1, none⟩ u1) X u0 u1 o.pool := by
  have t := put2_turned wx X u0 u1
  have hz := t.size
  obtain ⟨lo, hi, h1, h2, h3, h4⟩ := hO.own
  exact ⟨hV.box.put _ _, lo, hi, h1.turned t (fun k hk => by omega), by omega, by omega, Or.inr (by omega)⟩
theorem PoolV.new {w wr wx : World} {X : Nat} {v0 v1 u0 u1 : Value} {p : PoolD} (hB : Box2 wx X v0 v1) (ho : PoolOwn wx wr.heap.size wx.heap.size u0 u1 p) (hX : w.heap.size < X ∧ X < wr.heap.size) : PoolV w ((wx.setCell ⟨X, 0, none⟩ u0).setCell ⟨X, 1, none⟩ u1) X u0 u1 p := by
  have t := put2_turned wx X u0 u1
  have hz := t.size
  exact ⟨hB.put _ _, _, _, ho.turned t (fun k hk => by omega), by omega, hz, Or.inr (by omega)⟩

set_option maxRecDepth 20000 in
set_option maxHeartbeats 4000000 in
theorem pool_any (B : Nat) (w : World) (h : Src w B) :
    Calls Try.prog 40 #[.pointer (some ⟨B, 0, none⟩)] w (NewDrawn 12 21 B w) := by
  have hB := h.lt
  have ha := below_alloc w (.cells #[.slice none 0 0, .slice none 0 0] 26)
  have HR := hide (Box2.new w (.slice none 0 0) (.slice none 0 0) 26)
  go_enter Try.func40, Try.ntmps40
  go_wp2_with fail
  refine (n_any B 12 _ (h.below ha) (by omega)).mono ?_
  rintro e w1 ⟨⟨r1, rfl, h10, h11⟩, hs1, ht1⟩
  have HI1 : Hid (PoolI w w1 B) := ⟨hs1, (Turned.of_below (S := fun k => k = B) ha).trans ht1, HR.out.turned ht1 (by omega), hB⟩
  have hz1 : w.heap.size + 1 ≤ w1.heap.size := by have := ht1.size; rw [World.size_alloc] at this; omega
  clear hs1 ht1 HR h ha
  go_wp2_with fail
  refine (specPoolNew_any (1 + r1) _).mono ?_
  rintro e w2 ⟨v0, v1, rfl, ho2, hb2⟩
  have hmany : 1 ≤ many (1 + r1) ∧ many (1 + r1) ≤ 12 := by unfold many; rw [if_pos (by omega)]; omega
  generalize many (1 + r1) = n0 at ho2 hmany
  obtain ⟨a, c, a', c', rfl, rfl⟩ := ho2.form
  have hbx := below_alloc w2 (.cells #[.slice a (newP n0).n c, .slice a' (newP n0).hn c'] 26)
  have HIx := hide ((HI1.out.below hb2).below hbx)
  have HVx : Hid (PoolV w (w2.alloc (.cells #[.slice a (newP n0).n c, .slice a' (newP n0).hn c'] 26)) w2.heap.size (.slice a (newP n0).n c) (.slice a' (newP n0).hn c') (newP n0)) := ⟨Box2.new _ _ _ _, _, _, ho2.below hbx, by omega, by rw [World.size_alloc]; omega, Or.inl (Nat.le_refl _)⟩
  have hz2 : w.heap.size < w2.heap.size := by have := hb2.size; omega
  have hz3 : w2.heap.size < (w2.alloc (.cells #[.slice a (newP n0).n c, .slice a' (newP n0).hn c'] 26)).heap.size := by rw [World.size_alloc]; omega
  have HQ := hide (PoolB.new (N := 12) hmany.1 hmany.2)
  clear ho2 hb2 hbx HI1 hmany hz1
  obtain ⟨sa, sn, sc, sat, smix, ssize, hsrc⟩ := HIx.out.src
  have x0 := hsrc.c3.1
  have hsz := hsrc.sized
  clear hsrc
  go_wp2_with fail
  generalize w2.alloc (.cells #[.slice a (newP n0).n c, .slice a' (newP n0).hn c'] 26) = wx at HIx HVx hz3 x0 ⊢
  generalize w2.heap.size = X at hz2 hz3 HVx ⊢
  clear x0
  refine (n_any B (8 + ssize) _ HIx.out.src (by omega)).mono ?_
  rintro e w3 ⟨⟨r3, rfl, h30, h31⟩, hs3, ht3⟩
  obtain ⟨k3, rfl⟩ := Int.eq_ofNat_of_zero_le h30
  have HI3 := hide (HIx.out.next hs3 ht3)
  have HV3 := hide (HVx.out.turned ht3 hB (Nat.le_of_lt hz2))
  have hz4 : X < w3.heap.size := Nat.lt_of_lt_of_le hz3 ht3.size
  clear hs3 ht3 HIx HVx hz3 h30
  go_wp2
  go_loopw [4] (fun i wr => ∃ (k : Nat) (q : PoolD) (a : Option Addr) (c : Nat) (a' : Option Addr) (c' : Nat), k ≤ 20 ∧ i = .int .i64 k ∧ PoolI w wr B ∧ PoolV w wr X (.slice a q.n c) (.slice a' q.hn c') q ∧ PoolB 12 (20 - k) q ∧ X < wr.heap.size) (fun i _ => (intOf i).toNat)
  case atStart => exact ⟨k3, newP n0, _, _, _, _, by omega, rfl, HI3.out, HV3.out, HQ.out.mono (Nat.zero_le _), hz4⟩
  case round =>
    obtain ⟨k, q, qa, qc, qa', qc', hk, rfl, hI, hV, hb, hX⟩ := hrel
    have HI := hide hI
    have HV := hide hV
    have HQ2 := hide hb
    have HN := hide (hb.small (by omega) (by omega))
    have hqn : q.n ≤ 12 := hb.2.1
    clear hI hV hb HI3 HV3 HQ
    by_cases hk0 : 0 < k
    · have hk0' : (0 : Int) < (k : Int) := by omega
      obtain ⟨⟨x0, x1⟩, ⟨x2, x3⟩⟩ := HV.out.box
      go_upto_region 5 with fail
      go_cut [5] (fun v wc => ∃ (Y : Nat) (o : OutD) (oa : Option Addr) (oc : Nat) (oa' : Option Addr) (oc' : Nat), v = .pointer (some ⟨Y, 0, none⟩) ∧ PoolI w wc B ∧ Turned (fun k => k = B) wr wc ∧ OutV wr wc Y (.slice oa o.pool.n oc) (.slice oa' o.pool.hn oc') o ∧ (o.code = 0 → PoolB 12 (20 - (k - 1)) o.pool))
      case first =>
        have n0 : wr.heap.size ≠ X := by omega
        go_region_held3 (fun w' => w'.cell? ⟨X, 0, none⟩ = some (.slice qa q.n qc) ∧ w'.cell? ⟨X, 1, none⟩ = some (.slice qa' q.hn qc')) (go_keep)
          (first
            | (go_at_call 41
               refine (some_any B w.heap.size wr.heap.size _ _ q _ ?_ ?_ hB ?_ (by omega)).mono ?_
               (first | exact HI.out.src.below (Below.refl _ _).drew | exact HI.out.src.below (below_alloc _ _).drew | exact HI.out.src.below (below_next (Below.refl _ _).drew (below_alloc _ _)) | exact HI.out.src.below (below_alloc _ _))
               (first | exact HV.out.at.below (Below.refl _ _).drew | exact HV.out.at.below (below_alloc _ _).drew | exact HV.out.at.below (below_next (Below.refl _ _).drew (below_alloc _ _)) | exact HV.out.at.below (below_alloc _ _))
               (first | exact Nat.le_refl _ | exact (below_alloc _ _).size | (simp; done))
               rintro e ws ⟨s, kv, kb, rfl, hks, hpl, hk9, hd17, hss, hts⟩
               obtain ⟨_, ka, kc, rfl, _⟩ := id hks
               have hTs : Turned (fun k => k = B) wr ws := (by first | exact turned_undrew hts | exact (Turned.of_below (below_alloc _ _)).trans (turned_undrew hts) | exact (Turned.of_below (below_alloc _ _)).trans hts)
               (first | (have hLs : Box5 ws wr.heap.size (.slice none 0 0) (.slice none 0 0) (.int .i64 0) (.int .i64 0) (.int .i64 0) := (Box5.new wr _ _ _ _ _ _).turned (turned_undrew hts) (by have := HI.out.src.lt; omega)) | (have hLs : Box5 ws wr.heap.size (.slice none 0 0) (.slice none 0 0) (.int .i64 0) (.int .i64 0) (.int .i64 0) := (Box5.new wr _ _ _ _ _ _).turned hts (by have := HI.out.src.lt; omega)) | skip)
               have zp0 := (HV.out.box.turned hTs (by omega)).1.1
               have zp1 := (HV.out.box.turned hTs (by omega)).2.1
               have hpa := (HV.out.turned hTs hB (Nat.le_of_lt hz2)).at
               have hsa : SlotAt ws 0 ws.heap.size (.int .i64 s.birth) (.slice ka s.kn kc) (.string s.data) s := ⟨rfl, hks.at (fun h0 => ⟨Nat.zero_le _, (hpl h0).2⟩), rfl, (by unfold maxLen; omega)⟩
               have nsX : ws.heap.size ≠ X := (by have := hTs.size; omega))
            | (go_at_call 8
               refine (specPoolTake_any _ _ _ w.heap.size ws.heap.size 0 ws.heap.size q s _ ?_ ?_ ?_).mono ?_
               (first | exact hpa | exact hpa.below (below_alloc _ _) | exact hpa.below (Below.refl _ _).drew)
               (first | exact hsa | exact hsa.below (below_alloc _ _) | exact hsa.below (Below.refl _ _).drew)
               (have := HN.out; unfold slotN; omega)
               rintro e w2' ⟨u0, u1, rfl, ho2, hb2⟩
               obtain ⟨oa, oc, ob, od, rfl, rfl⟩ := ho2.form
               have hC2 : Below ws.heap.size ws w2' := (by first | exact hb2 | exact below_next (below_alloc _ _) hb2 | exact below_undrew hb2)
               (first | (have hL2 := hLs.below hC2; have l0 := hL2.1.1; have l1 := hL2.1.2; have l2 := hL2.2.1.1; have l3 := hL2.2.1.2; have l4 := hL2.2.2.1.1; have l5 := hL2.2.2.1.2; have l6 := hL2.2.2.2.1.1; have l7 := hL2.2.2.2.1.2; have l8 := hL2.2.2.2.2.1; have l9 := hL2.2.2.2.2.2) | (have hL2 : Box5 w2' ws.heap.size (.slice none 0 0) (.slice none 0 0) (.int .i64 0) (.int .i64 0) (.int .i64 0) := (Box5.new ws _ _ _ _ _ _).below hb2; have l0 := hL2.1.1; have l1 := hL2.1.2; have l2 := hL2.2.1.1; have l3 := hL2.2.1.2; have l4 := hL2.2.2.1.1; have l5 := hL2.2.2.1.2; have l6 := hL2.2.2.2.1.1; have l7 := hL2.2.2.2.1.2; have l8 := hL2.2.2.2.2.1; have l9 := hL2.2.2.2.2.2) | skip)
               have zr0 := ((HV.out.box.turned hTs (by omega)).below hC2).1.1
               have zr1 := ((HV.out.box.turned hTs (by omega)).below hC2).2.1))
        all_goals
          have HI5 := hide ((HI.out.next hss hTs).below hC2)
          have HT5 := hide (take_b (s := s) HQ2.out ⟨hk9, hd17⟩)
          have hzs := hTs.size
          have hzt := hC2.size
          go_wp2_with fail
          go_meet
        · exact ⟨_, takeP q s, oa, oc, ob, od, rfl, HI5.out.below (below_alloc _ _), hTs.trans (Turned.of_below (below_next hC2 (below_alloc _ _))), outV_late hzs hzt ho2, fun e => (HT5.out e).mono (by omega)⟩
        · exact ⟨_, takeP q s, oa, oc, ob, od, rfl, HI5.out.late (Turned.put5 _ _ _ _ _ _ _) (by omega), only_src (hTs.trans (Turned.of_below hC2)) (Turned.put5 _ _ _ _ _ _ _) (by omega), outV_early hL2 (by omega) (by rw [World.size_alloc]; exact Nat.lt_succ_self _) ho2, fun e => (HT5.out e).mono (by omega)⟩
        · exact ⟨_, takeP q s, oa, oc, ob, od, rfl, HI5.out.late (Turned.put5 _ _ _ _ _ _ _) (by omega), only_src (hTs.trans (Turned.of_below hC2)) (Turned.put5 _ _ _ _ _ _ _) (by omega), outV_early hL2 (by omega) hLs.1.lt ho2, fun e => (HT5.out e).mono (by omega)⟩
      case rest =>
        obtain ⟨Y, o, oa, oc, oa', oc', rfl, hI, hT6, hO, hoB⟩ := hcut
        have HI6 := hide hI
        have HT6 := hide hT6
        have HO6 := hide hO
        have HoB := hide hoB
        obtain ⟨wn, rfl⟩ : ∃ x, x = wc := ⟨_, rfl⟩
        clear hI hT6 hO hoB x0 x1 x2 x3
        go_wp2_with fail
        refine (one_any B 4 _ HI6.out.src (by omega)).mono ?_
        rintro e w7 ⟨⟨t7, rfl⟩, hs7, ht7⟩
        have HI7 := hide (HI6.out.next hs7 ht7)
        have HT7 := hide (HT6.out.trans ht7)
        have HV7 := hide (HV.out.turned HT7.out hB (Nat.le_of_lt hz2))
        have HO7 := hide (HO6.out.turned ht7 (by have := HI.out.src.lt; omega))
        clear hs7 ht7 HI6 HT6 HO6
        go_upto_if 27 with fail
        go_cut [5] (fun v wc => ∃ (o : OutD) (oa : Option Addr) (oc : Nat) (oa' : Option Addr) (oc' : Nat), v = .pointer (some ⟨Y, 0, none⟩) ∧ PoolI w wc B ∧ Turned (fun k => k = B) wr wc ∧ OutV wr wc Y (.slice oa o.pool.n oc) (.slice oa' o.pool.hn oc') o ∧ (o.code = 0 → PoolB 12 (20 - (k - 1)) o.pool))
        case first =>
          cases t7
          · go_wp2
            go_meet
            case rel => exact ⟨o, oa, oc, oa', oc', rfl, HI7.out, HT7.out, HO7.out, HoB.out⟩
          · obtain ⟨⟨x0, x1⟩, ⟨x2, x3⟩⟩ := HV7.out.box
            obtain ⟨⟨y0, y1⟩, ⟨y2, y3⟩, ⟨y4, y5⟩, ⟨y6, y7⟩, ⟨y8, y9⟩⟩ := HO7.out.box
            have hYp := HO7.out.place
            have n1 : Y ≠ X := by omega
            go_wp2_with fail
            go_region_held3 (fun w' => w'.cell? ⟨X, 0, none⟩ = some (.slice qa q.n qc) ∧ w'.cell? ⟨X, 1, none⟩ = some (.slice qa' q.hn qc')) (go_keep)
              (first
                | (go_at_call 97
                   refine (ptr_any B (w.heap.size + 1) w7.heap.size _ _ q _ ?_ ?_ (by omega) ?_ (by omega)).mono ?_
                   (first | exact HI7.out.src.below (Below.refl _ _).drew | exact HI7.out.src)
                   (first | exact HV7.out.at1.below (Below.refl _ _).drew | exact HV7.out.at1)
                   (first | exact Nat.le_refl _ | (simp; done))
                   rintro e ws ⟨⟨ps, pb, rfl⟩, hss, hts⟩
                   have hTs : Turned (fun k => k = B) w7 ws := (by first | exact turned_undrew hts | exact hts)
                   have zp0 := (HV7.out.box.turned hTs (by omega)).1.1
                   have zp1 := (HV7.out.box.turned hTs (by omega)).2.1
                   have hpa := (HV7.out.turned hTs hB (Nat.le_of_lt hz2)).at)
                | (go_at_call 17
                   refine (specPoolHold_any _ _ w.heap.size ws.heap.size q ps pb _ ?_ ?_).mono ?_
                   (first | exact hpa | exact hpa.below (Below.refl _ _).drew)
                   (have := HN.out; omega)
                   rintro e w2' ⟨u0, u1, rfl, ho2, hb2⟩
                   obtain ⟨pa, pc, pb', pd, rfl, rfl⟩ := ho2.form
                   have hC2 : Below ws.heap.size ws w2' := (by first | exact hb2 | exact below_undrew hb2)
                   have hL2 := (HO7.out.box.turned hTs (by have := HI.out.src.lt; omega)).below hC2
                   have l0 := hL2.1.1
                   have l1 := hL2.1.2
                   have l2 := hL2.2.1.1
                   have l3 := hL2.2.1.2
                   have l4 := hL2.2.2.1.1
                   have l5 := hL2.2.2.1.2
                   have l6 := hL2.2.2.2.1.1
                   have l7 := hL2.2.2.2.1.2
                   have l8 := hL2.2.2.2.2.1
                   have l9 := hL2.2.2.2.2.2
                   have zr0 := ((HV7.out.box.turned hTs (by omega)).below hC2).1.1
                   have zr1 := ((HV7.out.box.turned hTs (by omega)).below hC2).2.1))
            all_goals
              have HI8 := hide ((HI7.out.next hss hTs).below hC2)
              have HT8 := hide (hold_b (xs := ps) (xb := pb) HQ2.out)
              have hzs := hTs.size
              have hzt := hC2.size
              go_wp2_with fail
              go_meet
            exact ⟨holdP q ps pb, pa, pc, pb', pd, rfl, HI8.out.late (Turned.put5 _ _ _ _ _ _ _) (by omega), only_src ((HT7.out.trans hTs).trans (Turned.of_below hC2)) (Turned.put5 _ _ _ _ _ _ _) (by omega), outV_early hL2 (by omega) (by omega) ho2, fun e => (HT8.out e).mono (by omega)⟩
        case rest =>
          obtain ⟨o2, oa2, oc2, oa2', oc2', rfl, hI, hT8, hO, hoB⟩ := hcut
          have HI8 := hide hI
          have HV8 := hide (HV.out.turned hT8 hB (Nat.le_of_lt hz2))
          have HO8 := hide hO
          have HoB8 := hide hoB
          have hz8 : X < wc.heap.size := Nat.lt_of_lt_of_le hX hT8.size
          obtain ⟨wn2, rfl⟩ : ∃ x, x = wc := ⟨_, rfl⟩
          clear hI hT8 hO hoB HI7 HV7 HO7 HT7 HoB
          obtain ⟨⟨y0, y1⟩, ⟨y2, y3⟩, ⟨y4, y5⟩, ⟨y6, y7⟩, ⟨y8, y9⟩⟩ := HO8.out.box
          obtain ⟨⟨x0, x1⟩, ⟨x2, x3⟩⟩ := HV8.out.box
          have hYp := HO8.out.place
          have n1 : Y ≠ X := by omega
          go_upto_if 35 with fail
          go_cut [4] (fun v wc => v = .int .i64 k ∧ PoolI w wc B ∧ X < wc.heap.size ∧ ∃ (q : PoolD) (a : Option Addr) (c : Nat) (a' : Option Addr) (c' : Nat), PoolV w wc X (.slice a q.n c) (.slice a' q.hn c') q ∧ PoolB 12 (20 - (k - 1)) q)
          case first =>
            by_cases e0 : o2.code = 0
            · have f0 : (o2.code == 0) = true := by simp [e0]
              go_wp2
              go_meet
              case rel => exact ⟨rfl, HI8.out.late (put2_turned _ _ _ _) hz2, by simpa using hz8, o2.pool, _, _, _, _, HV8.out.put HO8.out ⟨hz2, hX⟩, HoB8.out e0⟩
            · have f0 : (o2.code == 0) = false := by simp [e0]
              go_wp2
              go_meet
              case rel => exact ⟨rfl, HI8.out, hz8, q, _, _, _, _, HV8.out, HQ2.out.mono (by omega)⟩
          case rest =>
            obtain ⟨rfl, hI, hz9, q9, a9, c9, a9', c9', hV9, hb9⟩ := hcut
            have HI9 := hide hI
            have HV9 := hide hV9
            have HB9 := hide hb9
            obtain ⟨wn3, rfl⟩ : ∃ x, x = wc := ⟨_, rfl⟩
            clear hI hV9 hb9 HI8 HV8 HO8 HoB8 x0 x1 x2 x3 y0 y1 y2 y3 y4 y5 y6 y7 y8 y9
            go_wp2_with fail
            refine (one_any B 8 _ HI9.out.src (by omega)).mono ?_
            rintro e w10 ⟨⟨t10, rfl⟩, hs10, ht10⟩
            have HI10 := hide (HI9.out.next hs10 ht10)
            have HV10 := hide (HV9.out.turned ht10 hB (Nat.le_of_lt hz2))
            have hz10 : X < w10.heap.size := Nat.lt_of_lt_of_le hz9 ht10.size
            clear hs10 ht10 HI9 HV9
            cases t10
            · go_wp2
              go_roundw
              case rel => exact ⟨k - 1, q9, _, _, _, _, by omega, congrArg (Value.int .i64) (by omega), HI10.out, HV10.out, HB9.out, hz10⟩
              case measure => simp [intOf]; omega
            · obtain ⟨⟨x0, x1⟩, ⟨x2, x3⟩⟩ := HV10.out.box
              go_wp2_with fail
              refine (specPoolSync_any _ _ w.heap.size w10.heap.size q9 _ HV10.out.at (by have := HB9.out.small (by omega) (by omega); omega)).mono ?_
              rintro e w11 ⟨u0, u1, rfl, ho11, hb11⟩
              obtain ⟨sa1, sc1, sa2, sc2, rfl, rfl⟩ := ho11.form
              have HI11 := hide (HI10.out.below hb11)
              have HX11 := hide (HV10.out.box.below hb11)
              have Ho11 := hide ho11
              have hz11 : X < w11.heap.size := Nat.lt_of_lt_of_le hz10 hb11.size
              clear ho11 hb11 x0 x1 x2 x3
              obtain ⟨⟨x0, x1⟩, ⟨x2, x3⟩⟩ := HX11.out
              go_wp2
              go_roundw
              case rel => exact ⟨k - 1, syncP q9, _, _, _, _, by omega, congrArg (Value.int .i64) (by omega), HI11.out.late (put2_turned _ _ _ _) hz2, PoolV.new HX11.out Ho11.out ⟨hz2, hz10⟩, HB9.out.sync, by simpa using hz11⟩
              case measure => simp [intOf]; omega
    · have hk0' : ¬ (0 : Int) < (k : Int) := by omega
      go_wp2_with fail
      refine (one_any B 20 _ HI.out.src (by omega)).mono ?_
      rintro e w5 ⟨⟨t5, rfl⟩, hs5, ht5⟩
      have HI5 := hide (HI.out.next hs5 ht5)
      have HV5 := hide (HV.out.turned ht5 hB (Nat.le_of_lt hz2))
      have hz5 : X < w5.heap.size := Nat.lt_of_lt_of_le hX ht5.size
      clear hs5 ht5 HI HV
      cases t5
      · obtain ⟨⟨x0, x1⟩, ⟨x2, x3⟩⟩ := HV5.out.box
        obtain ⟨⟨y0, y1⟩, ⟨y2, y3⟩⟩ := HI5.out.res
        have HO5 := hide HV5.out.own1
        go_wp2
        have HR9 := HI5.out.res.put (.slice qa q.n qc) (.slice qa' q.hn qc')
        exact bodyPost_ret (v := .agg #[.slice qa q.n qc, .slice qa' q.hn qc']) (by simp [results, Try.results40, go_sem, HR9.1.1, HR9.2.1]) rfl (drawn_end0 HI5.out HO5.out (HQ2.out.mono (by omega)))
      · go_wp2_with fail
        refine (n_any B 3 _ HI5.out.src (by omega)).mono ?_
        rintro e w6 ⟨⟨r6, rfl, h60, h61⟩, hs6, ht6⟩
        have HI6 := hide (HI5.out.next hs6 ht6)
        have HV6 := hide (HV5.out.turned ht6 hB (Nat.le_of_lt hz2))
        have hz6 : X < w6.heap.size := Nat.lt_of_lt_of_le hz5 ht6.size
        clear hs6 ht6 HI5 HV5
        by_cases e0 : r6 = 0
        · subst e0
          obtain ⟨lo, hi, ho6, hlo6, hhi6, hX6⟩ := HV6.out.own
          have Ho6 := hide ho6
          obtain ⟨bs, hb, kb, kv, _, _, hint, _, hpl⟩ := ho6
          have Hint := hide hint
          have Hpl : Hid (0 < q.hn → lo ≤ hb ∧ hb < hi) := fun h0 => hpl hb (Or.inr ⟨h0, rfl⟩)
          clear hpl hint
          obtain ⟨i0, hi0, hzz⟩ := Option.map_eq_some_iff.1 infoInt64
          simp only [Prod.mk.injEq] at hzz
          have HT := hide (And.intro hi0 hzz)
          clear hi0 hzz
          obtain ⟨⟨x0, x1⟩, ⟨x2, x3⟩⟩ := HV6.out.box
          by_cases hlt : q.hn < qc'
          · obtain ⟨hrow, rfl, hq0⟩ := Hint.out.row hlt
            have Hrow := hide hrow
            clear hrow
            go_wp2_with fail
            go_region_law
              (first
                | (refine step_append_lies _ rfl (.tmp 59) (.tmp 63) 24 rfl hb 2 i0 (.int .i64 0) 1 8 (by kernel_rfl) HT.out.1 HT.out.2.1 HT.out.2.2.1 HT.out.2.2.2 rfl (by decide) (.slice (some ⟨hb, 0, none⟩) q.hn qc') q.hn (ic q.h q.hn) (by simp [Act.eval]) ?_ ⟨w7.heap.size, 0, none⟩ 1 1 [.int .i64 (IntKind.i64.wrap (r7 - 1))] (by simp [Act.eval]) rfl ?_ ?_ (by decide) ?_ ?_ ?_ _ rfl ?_
                   exact (row_turned Hrow.out hT7 (by have := Hpl.out hq0; omega)).alloc _
                   exact news1 _ _ _
                   exact one1 _
                   (have := HQ2.out.2.2.2; unfold maxLen; omega)
                   (have := HQ2.out.2.2.2; omega)
                   (have := Hpl.out hq0; have := hT7.size; rw [World.size_alloc]; omega)
                   intro g9 c9 w9 hown9 hgrow9 hat9 hlt9
                   have ha7 := below_alloc w7 (.cells #[.int .i64 (IntKind.i64.wrap (r7 - 1))] 2)
                   have t9 := turned_of_grown hgrow9
                   have hpb := Hpl.out hq0
                   have hzT := hT7.size
                   have hgX : g9 ≠ X ∧ ((0 < q.hn ∧ (Value.slice (some ⟨hb, 0, none⟩) q.hn qc').ownBlock = some g9) ∨ ((w7.alloc (.cells #[.int .i64 (IntKind.i64.wrap (r7 - 1))] 2)).heap.size ≤ g9 ∧ w.heap.size + 1 ≤ g9)) := (by
                     rcases hat9 with h | h
                     · refine ⟨?_, Or.inl ⟨hq0, h⟩⟩
                       have : hb = g9 := by simpa [Value.ownBlock] using h
                       omega
                     · rw [World.size_alloc] at h
                       rw [World.size_alloc]
                       exact ⟨by omega, Or.inr ⟨by omega, by omega⟩⟩)
                   have hO9 := append_held (L := w.heap.size + 1) (X := X) ((Ho6.out.turned hT7 (fun k hk => by omega)).below ha7) (by rw [World.size_alloc]; omega) hlo6 (t9.mono (fun k hk => ⟨hq0, hk⟩)) hown9 hgX.2 hX6 hgX.1 (by have := HQ2.out.2.2.2; unfold maxLen; omega)
                   have hI9 := ((HI6.out.next hs7 hT7).below ha7).late (C := hb) (t9.mono (fun k hk => by simpa [Value.ownBlock, eq_comm] using hk)) (by omega)
                   have hX9 := (hV8.box.turned t9 (fun e => by have : hb = X := by simpa [Value.ownBlock] using e
                                                               omega))
                   have k0 := hX9.1.1
                   have k1 := hX9.1.2
                   have k2 := hX9.2.1
                   have k3 := hX9.2.2)
                | (go_simp; go_at_call 66
                   refine (n_any B 9 _ ?_ (by omega)).mono ?_
                   (first | exact HI6.out.src | exact HI6.out.src.below (Below.refl _ _).drew)
                   rintro e w7 ⟨⟨r7, rfl, h70, h71⟩, hs7, ht7⟩
                   have hT7 : Turned (fun k => k = B) w6 w7 := (by first | exact ht7 | exact turned_undrew ht7)
                   have hV7 := HV6.out.turned hT7 hB (Nat.le_of_lt hz2)
                   have z0 := hV7.box.2.1
                   have z1 := hV7.box.2.2
                   have hV8 := hV7.below (below_alloc w7 (.cells #[.int .i64 (IntKind.i64.wrap (r7 - 1))] 2))
                   have z2 := hV8.box.2.1
                   have z3 := hV8.box.2.2))
            all_goals
              have HI10 := hide (hI9.late (Turned.put w9 X 1 (.slice (some ⟨g9, 0, none⟩) (q.hn + 1) c9)) hz2)
              have HO10 := hide hO9
              obtain ⟨⟨y0, y1⟩, ⟨y2, y3⟩⟩ := HI10.out.res
              go_wp2
              have HR9 := HI10.out.res.put (.slice qa q.n qc) (.slice (some ⟨g9, 0, none⟩) (q.hn + 1) c9)
              exact bodyPost_ret (v := .agg #[.slice qa q.n qc, .slice (some ⟨g9, 0, none⟩) (q.hn + 1) c9]) (by simp [results, Try.results40, go_sem, HR9.1.1, HR9.2.1]) rfl (drawn_end0 HI10.out (HO10.out.wide (Nat.le_refl _) (by rw [World.size_setCell]; exact Nat.le_refl _)) ((HQ2.out.hold _).mono (by omega)))
          · have hqc : qc' = q.hn := by obtain ⟨_, _, _, e, h, _⟩ := Hint.out; simp only [Value.slice.injEq, true_and] at e; omega
            subst hqc
            have Hnone : Hid (qa' = none → q.hn = 0 ∧ q.hn = 0) := fun e => by
              by_cases h0 : 0 < q.hn
              · obtain ⟨_, a1, c1, ev, _, hc, _⟩ := Hint.out
                simp only [Value.slice.injEq, true_and] at ev
                obtain ⟨off, e2, _⟩ := hc h0
                rw [← ev.1, e] at e2
                simp at e2
              · omega
            have Hold : Hid (∀ w' : World, (0 < q.hn → ∀ o, w'.cell? ⟨hb, o, none⟩ = w6.cell? ⟨hb, o, none⟩) → ∀ b, qa' = some b → ∀ j u, (ic q.h q.hn)[j]? = some u → w'.cell? (b.add j) = some u) := fun w' hsame b1 e j u hj => by
              have hlen := (List.getElem?_eq_some_iff.1 hj).1
              rw [ic_len] at hlen
              obtain ⟨_, a1, c1, ev, _, hc, _⟩ := Hint.out
              simp only [Value.slice.injEq, true_and] at ev
              obtain ⟨off, e2, hcell⟩ := hc (by omega)
              rw [← ev.1, e] at e2
              simp only [Option.some.injEq] at e2
              subst e2
              rw [ic_at q.h q.hn j (by omega)] at hj
              rw [add_lit, hsame (by omega), (hcell j (by omega)).1]
              exact hj
            have hbl : 0 < q.hn → hb < w6.heap.size ∧ hb ≠ B := fun h0 => by have := Hpl.out h0; omega
            go_wp2_with fail
            go_region_law
              (first
                | (refine step_append_grows rfl (.tmp 59) (.tmp 63) 24 rfl 2 i0 (.int .i64 0) 1 8 (by kernel_rfl) HT.out.1 HT.out.2.1 HT.out.2.2.1 HT.out.2.2.2 rfl (by decide) qa' q.hn q.hn (ic q.h q.hn) (by simp [Act.eval]) ?_ (ic_len _ _) ?_ ⟨w7.heap.size, 0, none⟩ 1 1 [.int .i64 (IntKind.i64.wrap (r7 - 1))] (by simp [Act.eval]) rfl ?_ (one1 _) (by omega) ?_ ?_ ?_
                   exact Hnone.out
                   exact Hold.out _ (fun h0 o => ((below_alloc w7 _).cell (p := ⟨hb, o, none⟩) (by have := hbl h0; have := hT7.size; show hb < _; omega)).trans (hT7.cell (hbl h0).1 (hbl h0).2))
                   exact news1 _ _ _
                   (have := HQ2.out.2.2.2; unfold maxLen; omega)
                   (have := HQ2.out.2.2.2; omega)
                   intro v9 w9 hown9 hgrow9
                   obtain ⟨g9, c9, rfl, _⟩ := hown9.form (by omega)
                   have ha7 := below_alloc w7 (.cells #[.int .i64 (IntKind.i64.wrap (r7 - 1))] 2)
                   have t9 := turned_of_grown hgrow9
                   have hzT := hT7.size
                   have hg9 := (hown9.lt g9 rfl).1
                   have hgX : g9 ≠ X ∧ w.heap.size + 1 ≤ g9 := (by rw [World.size_alloc] at hg9; omega)
                   have hO9 := append_held (L := w.heap.size + 1) (X := X) ((Ho6.out.turned hT7 (fun k hk => by omega)).below ha7) (by rw [World.size_alloc]; omega) hlo6 (t9.mono (fun k hk => by cases hk)) hown9 (Or.inr ⟨hg9, hgX.2⟩) hX6 hgX.1 (by have := HQ2.out.2.2.2; unfold maxLen; omega)
                   have hI9 := ((HI6.out.next hs7 hT7).below ha7).late (C := X) (t9.mono (fun k hk => by cases hk)) hz2
                   have hX9 := (hV8.box.turned t9 (fun e => by cases e))
                   have k0 := hX9.1.1
                   have k1 := hX9.1.2
                   have k2 := hX9.2.1
                   have k3 := hX9.2.2)
                | (go_simp; go_at_call 66
                   refine (n_any B 9 _ ?_ (by omega)).mono ?_
                   (first | exact HI6.out.src | exact HI6.out.src.below (Below.refl _ _).drew)
                   rintro e w7 ⟨⟨r7, rfl, h70, h71⟩, hs7, ht7⟩
                   have hT7 : Turned (fun k => k = B) w6 w7 := (by first | exact ht7 | exact turned_undrew ht7)
                   have hV7 := HV6.out.turned hT7 hB (Nat.le_of_lt hz2)
                   have z0 := hV7.box.2.1
                   have z1 := hV7.box.2.2
                   have hV8 := hV7.below (below_alloc w7 (.cells #[.int .i64 (IntKind.i64.wrap (r7 - 1))] 2))
                   have z2 := hV8.box.2.1
                   have z3 := hV8.box.2.2))
            all_goals
              have HI10 := hide (hI9.late (Turned.put w9 X 1 (.slice (some ⟨g9, 0, none⟩) (q.hn + 1) c9)) hz2)
              have HO10 := hide hO9
              obtain ⟨⟨y0, y1⟩, ⟨y2, y3⟩⟩ := HI10.out.res
              go_wp2
              have HR9 := HI10.out.res.put (.slice qa q.n qc) (.slice (some ⟨g9, 0, none⟩) (q.hn + 1) c9)
              exact bodyPost_ret (v := .agg #[.slice qa q.n qc, .slice (some ⟨g9, 0, none⟩) (q.hn + 1) c9]) (by simp [results, Try.results40, go_sem, HR9.1.1, HR9.2.1]) rfl (drawn_end0 HI10.out (HO10.out.wide (Nat.le_refl _) (by rw [World.size_setCell]; exact Nat.le_refl _)) ((HQ2.out.hold _).mono (by omega)))
        have f0 : (r6 == 0) = false := by simp [e0]
        by_cases e1 : r6 = 1
        · subst e1
          have hq0 := HQ2.out.1
          obtain ⟨⟨x0, x1⟩, ⟨x2, x3⟩⟩ := HV6.out.box
          obtain ⟨lo, hi, ho6, hlo6, hhi6, hX6⟩ := HV6.out.own
          have Ho6 := hide ho6
          clear ho6
          go_wp2_with fail
          go_region_held3 (fun w' => w'.cell? ⟨X, 0, none⟩ = some (.slice qa q.n qc) ∧ w'.cell? ⟨X, 1, none⟩ = some (.slice qa' q.hn qc')) (go_keep)
            (first
              | (go_at_call 66
                 refine (n_any B q.n _ ?_ (by omega)).mono ?_
                 (first | exact HI6.out.src | exact HI6.out.src.below (Below.refl _ _).drew)
                 rintro e w7 ⟨⟨r7, rfl, h70, h71⟩, hs7, ht7⟩
                 obtain ⟨i7, rfl⟩ := Int.eq_ofNat_of_zero_le h70
                 have hi7 : i7 < q.n := (by omega)
                 have hi7' : (i7 : Int) < (q.n : Int) := (by omega)
                 have hT7 : Turned (fun k => k = B) w6 w7 := (by first | exact ht7 | exact turned_undrew ht7)
                 have hV7 := HV6.out.turned hT7 hB (Nat.le_of_lt hz2)
                 have hI7 := HI6.out.next hs7 hT7
                 have z0 := hV7.box.1.1
                 have z1 := hV7.box.2.1)
              | (go_at_call 41
                 refine (some_any B w.heap.size w7.heap.size _ _ q _ ?_ ?_ hB ?_ (by omega)).mono ?_
                 (first | exact hI7.src | exact hI7.src.below (Below.refl _ _).drew)
                 (first | exact hV7.at | exact hV7.at.below (Below.refl _ _).drew)
                 (first | exact Nat.le_refl _ | (simp; done))
                 rintro e w8 ⟨s, kv, kb, rfl, hks, hpl, hk9, hd17, hs8, ht8⟩
                 obtain ⟨_, ka, kc, rfl, _⟩ := id hks
                 have hT8 : Turned (fun k => k = B) w7 w8 := (by first | exact ht8 | exact turned_undrew ht8)
                 have hV8 := hV7.turned hT8 hB (Nat.le_of_lt hz2)
                 have hI8 := hI7.next hs8 hT8
                 have hzT := hT7.size
                 have ho8 := (Ho6.out.turned hT7 (fun k hk => by omega)).turned hT8 (fun k hk => by omega)
                 obtain ⟨bs, off, hqa, hbs, ⟨c0, c1, c2, ⟨k0, k1⟩, ⟨k2, k3⟩, ⟨k4, k5⟩⟩, hset⟩ := ho8.set hi7
                 subst hqa
                 have nbX : bs ≠ X := (by omega)
                 have z2 := hV8.box.1.1
                 have z3 := hV8.box.2.1))
          all_goals
            have tb := ((Turned.put w8 bs (off + i7 * 3) (.int .i64 s.birth)).trans (Turned.put _ bs (off + i7 * 3 + 1) (.slice ka s.kn kc))).trans (Turned.put _ bs (off + i7 * 3 + 2) (.string s.data))
            have hzT8 := hT8.size
            have HI9 := hide (hI8.late tb (by omega))
            have HX9 := hide (hV8.box.turned tb (by omega))
            have HO9 := hide (hset s kb (.slice ka s.kn kc) (w.heap.size + 1) w8.heap.size hks (by unfold maxLen; omega) (fun h0 => by have := hpl h0; omega) hlo6 (by omega))
            have HB9 := hide (HQ2.out.set i7 (s := s) ⟨hk9, hd17⟩)
            have hz9 := tb.size
            generalize (((w8.setCell ⟨bs, off + i7 * 3, none⟩ (.int .i64 s.birth)).setCell ⟨bs, off + i7 * 3 + 1, none⟩ (.slice ka s.kn kc)).setCell ⟨bs, off + i7 * 3 + 2, none⟩ (.string s.data)) = w9 at HI9 HX9 HO9 hz9 ⊢
            clear k0 k1 k2 k3 k4 k5 z0 z1 z2 z3 hset tb hks hpl hV7 hV8 hI7 hI8 ho8 x0 x1 x2 x3
            obtain ⟨⟨x0, x1⟩, ⟨x2, x3⟩⟩ := HX9.out
            obtain ⟨⟨y0, y1⟩, ⟨y2, y3⟩⟩ := HI9.out.res
            go_wp2
            have HR9 := HI9.out.res.put (.slice (some ⟨bs, off, none⟩) q.n qc) (.slice qa' q.hn qc')
            exact bodyPost_ret (v := .agg #[.slice (some ⟨bs, off, none⟩) q.n qc, .slice qa' q.hn qc']) (by simp [results, Try.results40, go_sem, HR9.1.1, HR9.2.1]) rfl (drawn_end0 HI9.out (HO9.out.wide (Nat.le_refl _) (by omega)) (HB9.out.mono (by omega)))
        · have f1 : (r6 == 1) = false := by simp [e1]
          have hq0 := HQ2.out.1
          obtain ⟨⟨x0, x1⟩, ⟨x2, x3⟩⟩ := HV6.out.box
          obtain ⟨lo, hi, ho6, hlo6, hhi6, hX6⟩ := HV6.out.own
          obtain ⟨bs, off, rfl, hbs, ⟨k0, k1⟩, hset⟩ := ho6.birth hq0
          have Hset := hide hset
          have hq0' : (0 : Int) < (q.n : Int) := by omega
          clear ho6 hset
          go_wp2_with fail
          go_region
          have tb := Turned.put w6 bs off (.int .i64 (wrap64 ((q.s 0).birth + 1)))
          have HI9 := hide ((HI6.out.late tb (by omega)).below (Below.refl _ _).drew)
          have HX9 := hide ((HV6.out.box.turned tb (by omega)).below (Below.refl _ _).drew)
          have HO9 := hide ((Hset.out (wrap64 ((q.s 0).birth + 1))).below (Below.refl _ _).drew)
          have HB9 := hide (HQ2.out.set 0 (s := { birth := wrap64 ((q.s 0).birth + 1), kn := (q.s 0).kn, ks := (q.s 0).ks, kb := (q.s 0).kb, data := (q.s 0).data }) (HQ2.out.2.2.1 0 hq0))
          have hz9 : w6.heap.size ≤ (w6.setCell ⟨bs, off, none⟩ (.int .i64 (wrap64 ((q.s 0).birth + 1)))).drew.heap.size := tb.size
          generalize (w6.setCell ⟨bs, off, none⟩ (.int .i64 (wrap64 ((q.s 0).birth + 1)))).drew = w9 at HI9 HX9 HO9 hz9 ⊢
          clear x0 x1 x2 x3 k0 k1 tb Hset
          obtain ⟨⟨x0, x1⟩, ⟨x2, x3⟩⟩ := HX9.out
          obtain ⟨⟨y0, y1⟩, ⟨y2, y3⟩⟩ := HI9.out.res
          go_wp2
          have HR9 := HI9.out.res.put (.slice (some ⟨bs, off, none⟩) q.n qc) (.slice qa' q.hn qc')
          exact bodyPost_ret (v := .agg #[.slice (some ⟨bs, off, none⟩) q.n qc, .slice qa' q.hn qc']) (by simp [results, Try.results40, go_sem, HR9.1.1, HR9.2.1]) rfl (drawn_end0 HI9.out (HO9.out.wide hlo6 (by omega)) (HB9.out.mono (by omega)))

end Go.Proofs.Ytikhipekmlhibaa

namespace Go.Proofs.Ytikhipekmlhibaa
open Go.RowKit
set_option linter.unusedVariables false

theorem four_at (a b c d : Int) {k : Nat} (h : k < 4) : ∃ y : Int, #[Value.int .i64 a, .int .i64 b, .int .i64 c, .int .i64 d][k]? = some (.int .i64 y) := by
  rcases k with _ | _ | _ | _ | k
  all_goals first | exact ⟨_, rfl⟩ | omega
theorem seven_at (a b c d e f g : Int) {k : Nat} (h : k < 7) : ∃ y : Int, #[Value.int .i64 a, .int .i64 b, .int .i64 c, .int .i64 d, .int .i64 e, .int .i64 f, .int .i64 g][k]? = some (.int .i64 y) := by
  rcases k with _ | _ | _ | _ | _ | _ | _ | k
  all_goals first | exact ⟨_, rfl⟩ | omega

set_option maxRecDepth 20000 in
set_option maxHeartbeats 1000000 in
theorem number_any (B : Nat) (w : World) (h : Src w B) :
    Calls Try.prog 62 #[.pointer (some ⟨B, 0, none⟩)] w fun e w' => (∃ r : Int, e = .returned (.int .i64 r)) ∧ Src w' B ∧ Turned (fun k => k = B) w w' := by
  have hB := h.lt
  have Hs := hideS h
  clear h
  go_enter Try.func62, Try.ntmps62
  go_wp2_with fail
  refine (one_any B 20 _ Hs.out (by omega)).mono ?_
  rintro e w1 ⟨⟨t, rfl⟩, hs1, ht1⟩
  have Hs1 := hideS hs1
  have hz1 := ht1.size
  clear hs1 Hs
  cases t with
  | true =>
    go_wp2_with fail
    refine (edge_any B _ Hs1.out).mono ?_
    rintro e w2 ⟨⟨x, rfl⟩, hs2, ht2⟩
    have Hs2 := hideS hs2
    have hz2 := ht2.size
    have ha := below_alloc w2 (.cells #[.int .i64 (-1), .int .i64 63, .int .i64 64, .int .i64 x] 2)
    clear hs2 Hs1
    go_wp2_with fail
    refine (n_any B 4 _ (Hs2.out.below ha) (by omega)).mono ?_
    rintro e w3 ⟨⟨r, rfl, h0, h1⟩, hs3, ht3⟩
    obtain ⟨k, rfl⟩ := Int.eq_ofNat_of_zero_le h0
    have hk : k < 4 := by omega
    have hk' : (k : Int) < 4 := by omega
    obtain ⟨y, hy⟩ := four_at (-1) 63 64 x hk
    have hc : w3.cell? ⟨w2.heap.size, k, none⟩ = some (.int .i64 y) := ((cell_of_block (i := k) (heap_alloc_new w2 (.cells #[.int .i64 (-1), .int .i64 63, .int .i64 64, .int .i64 x] 2)) hy).turned ht3 (by omega)).1
    have Hs3 := hideS hs3
    have Ht := hideS (((ht1.trans ht2).trans (Turned.of_below (S := fun k => k = B) ha)).trans ht3)
    clear hs3 ht3 ha hy h1 ht1 ht2 Hs2
    go_wp2
    go_ret
    exact ⟨⟨_, rfl⟩, Hs3.out, Ht.out⟩
  | false =>
    have ha := below_alloc w1 (.cells #[.int .i64 0, .int .i64 1, .int .i64 2, .int .i64 7, .int .i64 8, .int .i64 9, .int .i64 63] 2)
    go_wp2_with fail
    refine (n_any B 7 _ (Hs1.out.below ha) (by omega)).mono ?_
    rintro e w3 ⟨⟨r, rfl, h0, h1⟩, hs3, ht3⟩
    obtain ⟨k, rfl⟩ := Int.eq_ofNat_of_zero_le h0
    have hk : k < 7 := by omega
    have hk' : (k : Int) < 7 := by omega
    obtain ⟨y, hy⟩ := seven_at 0 1 2 7 8 9 63 hk
    have hc : w3.cell? ⟨w1.heap.size, k, none⟩ = some (.int .i64 y) := ((cell_of_block (i := k) (heap_alloc_new w1 (.cells #[.int .i64 0, .int .i64 1, .int .i64 2, .int .i64 7, .int .i64 8, .int .i64 9, .int .i64 63] 2)) hy).turned ht3 (by omega)).1
    have Hs3 := hideS hs3
    have Ht := hideS ((ht1.trans (Turned.of_below (S := fun k => k = B) ha)).trans ht3)
    clear hs3 ht3 ha hy h1 ht1 Hs1
    go_wp2
    go_ret
    exact ⟨⟨_, rfl⟩, Hs3.out, Ht.out⟩

set_option maxRecDepth 20000 in
set_option maxHeartbeats 1000000 in
theorem birth_any (B : Nat) (w : World) (h : Src w B) :
    Calls Try.prog 67 #[.pointer (some ⟨B, 0, none⟩)] w fun e w' => (∃ r : Int, e = .returned (.int .i64 r)) ∧ Src w' B ∧ Turned (fun k => k = B) w w' := by
  have hB := h.lt
  have Hs := hideS h
  clear h
  go_enter Try.func67, Try.ntmps67
  go_wp2_with fail
  refine (one_any B 12 _ Hs.out (by omega)).mono ?_
  rintro e w1 ⟨⟨t, rfl⟩, hs1, ht1⟩
  have Hs1 := hideS hs1
  have hz1 := ht1.size
  clear hs1 Hs
  cases t with
  | true =>
    go_wp2_with fail
    refine (edge_any B _ Hs1.out).mono ?_
    rintro e w2 ⟨⟨x, rfl⟩, hs2, ht2⟩
    have Hs2 := hideS hs2
    have hz2 := ht2.size
    have ha := below_alloc w2 (.cells #[.int .i64 0, .int .i64 1000000, .int .i64 1000001, .int .i64 x] 2)
    clear hs2 Hs1
    go_wp2_with fail
    refine (n_any B 4 _ (Hs2.out.below ha) (by omega)).mono ?_
    rintro e w3 ⟨⟨r, rfl, h0, h1⟩, hs3, ht3⟩
    obtain ⟨k, rfl⟩ := Int.eq_ofNat_of_zero_le h0
    have hk : k < 4 := by omega
    have hk' : (k : Int) < 4 := by omega
    obtain ⟨y, hy⟩ := four_at 0 1000000 1000001 x hk
    have hc : w3.cell? ⟨w2.heap.size, k, none⟩ = some (.int .i64 y) := ((cell_of_block (i := k) (heap_alloc_new w2 (.cells #[.int .i64 0, .int .i64 1000000, .int .i64 1000001, .int .i64 x] 2)) hy).turned ht3 (by omega)).1
    have Hs3 := hideS hs3
    have Ht := hideS (((ht1.trans ht2).trans (Turned.of_below (S := fun k => k = B) ha)).trans ht3)
    clear hs3 ht3 ha hy h1 ht1 ht2 Hs2
    go_wp2
    go_ret
    exact ⟨⟨_, rfl⟩, Hs3.out, Ht.out⟩
  | false =>
    go_wp2_with fail
    refine (n_any B 20 _ Hs1.out (by omega)).mono ?_
    rintro e w3 ⟨⟨r, rfl, h0, h1⟩, hs3, ht3⟩
    have Hs3 := hideS hs3
    have Ht := hideS (ht1.trans ht3)
    have hr : r < 20 := by omega
    clear hs3 ht3 h1 ht1 Hs1
    go_wp2
    go_ret
    exact ⟨⟨_, rfl⟩, Hs3.out, Ht.out⟩

end Go.Proofs.Ytikhipekmlhibaa
