/- What spec.l01Points, spec.l01Fits and spec.PoolRight answer. -/
import Derived.Test.YtiijnmpenljniadSpecRight
import Derived.Test.YtiijnmpenljniadOwn
namespace Go.Proofs.Ytiijnmpenljniad
open Go.RowKit
set_option linter.unusedVariables false

set_option maxRecDepth 20000 in
set_option maxHeartbeats 1000000 in
theorem l01Points_any (v0 v1 : Value) (lo hi : Nat) (p : PoolD) (xs xb : Int) (w : World) (h1 : PoolAt w lo hi v0 v1 p) :
    Calls Try.prog 58 #[.agg #[v0, v1], .agg #[.int .i64 xs, .int .i64 xb]] w fun e w' => BoolIs (Points p xs xb) e ∧ Below w.heap.size w w' := by
  obtain ⟨⟨m1, a, c, rfl, mc, g1⟩, ⟨_, a', c', rfl, _⟩⟩ := h1
  unfold maxLen at m1
  have G1 : Hid (0 < p.n → ∃ b off, a = some ⟨b, off, none⟩ ∧ lo ≤ b ∧ b < hi ∧ ∀ i, i < p.n → ∃ v0 v1 v2, w.cell? ⟨b, off + i * 3, none⟩ = some v0 ∧ w.cell? ⟨b, off + i * 3 + 1, none⟩ = some v1 ∧ w.cell? ⟨b, off + i * 3 + 2, none⟩ = some v2 ∧ SlotAt w lo hi v0 v1 v2 (p.s i)) := g1
  clear g1
  have hbw := ((Below.refl w.heap.size w).alloc (Nat.le_refl _) (.cells #[.slice a p.n c, .slice a' p.hn c'] 33)).alloc (by simp) (.cells #[.int .i64 xs, .int .i64 xb] 35)
  have Hbw : Hid (Below w.heap.size w ((w.alloc (.cells #[.slice a p.n c, .slice a' p.hn c'] 33)).alloc (.cells #[.int .i64 xs, .int .i64 xb] 35))) := hbw
  clear hbw
  by_cases h1 : 1 ≤ xb
  · by_cases h2 : 0 ≤ xs
    · by_cases h3 : xs < p.n
      · obtain ⟨x, rfl⟩ := Int.eq_ofNat_of_zero_le h2
        have h3n : x < p.n := by omega
        obtain ⟨b, off, rfl, _, _, k1⟩ := G1.out (by omega)
        obtain ⟨x0, x1, x2, c0, c1, c2, hs⟩ := k1 x h3n
        obtain ⟨rfl, _⟩ := hs
        have hlt := lt_of_cell c0
        clear k1 G1 c1 c2
        by_cases h4 : (p.s x).birth = xb
        · have H : Hid (Points p x xb) := ⟨h1, h2, h3, by rw [Int.toNat_natCast]; exact h4⟩
          have e4 : ((p.s x).birth == xb) = true := by simp [h4]
          clear h4
          go_enter Try.func58, Try.ntmps58
          go_wp2_with fail
          go_quiet (fail)
          go_wp2
          go_ret
          exact ⟨BoolIs.yes H.out, below_drewN Hbw.out _⟩
        · have H : Hid (¬ Points p x xb) := fun h => h4 (by have := h.2.2.2; rw [Int.toNat_natCast] at this; exact this)
          have e4 : ((p.s x).birth == xb) = false := by simp [h4]
          clear h4
          go_enter Try.func58, Try.ntmps58
          go_wp2_with fail
          go_quiet (fail)
          go_wp2
          go_ret
          exact ⟨BoolIs.no H.out, below_drewN Hbw.out _⟩
      · have H : Hid (¬ Points p xs xb) := fun h => h3 h.2.2.1
        have e3 : decide (xs < (p.n : Int)) = false := by simpa using h3
        go_enter Try.func58, Try.ntmps58
        go_wp2_with fail
        go_quiet (fail)
        go_wp2
        go_ret
        exact ⟨BoolIs.no H.out, below_drewN Hbw.out _⟩
    · have H : Hid (¬ Points p xs xb) := fun h => h2 h.2.1
      have e3 : decide (0 ≤ xs) = false := by simpa using h2
      go_enter Try.func58, Try.ntmps58
      go_wp2_with fail
      go_quiet (fail)
      go_wp2
      go_ret
      exact ⟨BoolIs.no H.out, below_drewN Hbw.out _⟩
  · have H : Hid (¬ Points p xs xb) := fun h => h1 h.1
    have e3 : decide (1 ≤ xb) = false := by simpa using h1
    go_enter Try.func58, Try.ntmps58
    go_wp2_with fail
    go_quiet (fail)
    go_wp2
    go_ret
    exact ⟨BoolIs.no H.out, below_drewN Hbw.out _⟩

theorem Box2.two (w : World) (v0 v1 : Value) (t : TypeId) (o : Obj) : Box2 ((w.alloc (.cells #[v0, v1] t)).alloc o) w.heap.size v0 v1 := (Box2.new w v0 v1 t).below (below_alloc _ _)
theorem Box3.second (w : World) (v0 v1 v2 : Value) (t : TypeId) (o : Obj) : Box3 ((w.alloc o).alloc (.cells #[v0, v1, v2] t)) (w.heap.size + 1) v0 v1 v2 := by
  have := Box3.new (w.alloc o) v0 v1 v2 t
  rw [World.size_alloc] at this
  exact this

set_option maxRecDepth 20000 in
set_option maxHeartbeats 1000000 in
theorem l01Fits_any (v0 v1 s0 s1 s2 : Value) (lo hi lo' hi' : Nat) (p : PoolD) (s : SlotD) (w : World) (h1 : PoolAt w lo hi v0 v1 p) (h2 : SlotAt w lo' hi' s0 s1 s2 s) :
    Calls Try.prog 39 #[.agg #[v0, v1], .agg #[s0, s1, s2]] w fun e w' => BoolIs (Fits p s) e ∧ Below w.heap.size w w' := by
  have Hp : Hid (PoolAt w lo hi v0 v1 p) := h1
  obtain ⟨⟨m1, a, c, rfl, _⟩, ⟨_, a', c', rfl, _⟩⟩ := h1
  obtain ⟨rfl, hk, rfl, m3⟩ := h2
  obtain ⟨m2, ka, kc, rfl, mkc, g1⟩ := hk
  have G1 : Hid (0 < s.kn → ∃ b off, ka = some ⟨b, off, none⟩ ∧ lo' ≤ b ∧ b < hi' ∧ ∀ i, i < s.kn → w.cell? ⟨b, off + i * 2, none⟩ = some (.int .i64 (s.ks i)) ∧ w.cell? ⟨b, off + i * 2 + 1, none⟩ = some (.int .i64 (s.kb i))) := g1
  clear g1
  unfold maxLen at m1 m2 m3
  have hbw := ((Below.refl w.heap.size w).alloc (Nat.le_refl _) (.cells #[.slice a p.n c, .slice a' p.hn c'] 33)).alloc (by simp) (.cells #[.int .i64 s.birth, .slice ka s.kn kc, .string s.data] 42)
  have Hbw : Hid (Below w.heap.size w ((w.alloc (.cells #[.slice a p.n c, .slice a' p.hn c'] 33)).alloc (.cells #[.int .i64 s.birth, .slice ka s.kn kc, .string s.data] 42))) := hbw
  clear hbw
  by_cases hB : BirthOk s.birth
  · by_cases hk0 : s.kn = 0
    · have e2 : ((s.kn : Int) == 0) = true := by simp [hk0]
      by_cases hd : s.data.size = 16
      · have H : Hid (Fits p s) := ⟨hB, Or.inl ⟨hk0, hd⟩⟩
        have HB : Hid (BirthOk s.birth) := hB
        have e3 : ((s.data.size : Int) == 16) = true := by simp [hd]
        clear hk0 hd hB
        go_enter Try.func39, Try.ntmps39
        go_wp2_with (go_at_call 75; refine (l01Birth_any _ _).mono ?_; rintro e w' ⟨⟨t, rfl, ht⟩, rfl⟩; obtain rfl : t = true := ht.2 HB.out; clear ht)
        go_ret
        exact ⟨BoolIs.yes H.out, Hbw.out⟩
      · have H : Hid (¬ Fits p s) := fun h => by
          rcases h.2 with h | h
          · exact hd h.2
          · omega
        have HB : Hid (BirthOk s.birth) := hB
        have e3 : ((s.data.size : Int) == 16) = false := by simp; omega
        clear hk0 hd hB
        go_enter Try.func39, Try.ntmps39
        go_wp2_with (go_at_call 75; refine (l01Birth_any _ _).mono ?_; rintro e w' ⟨⟨t, rfl, ht⟩, rfl⟩; obtain rfl : t = true := ht.2 HB.out; clear ht)
        go_ret
        exact ⟨BoolIs.no H.out, Hbw.out⟩
    · have e2 : ((s.kn : Int) == 0) = false := by simp; omega
      by_cases hk8 : s.kn = 8
      · by_cases hd : s.data.toList.isEmpty = true
        · have HB : Hid (BirthOk s.birth) := hB
          have e3 : ((s.kn : Int) != 8) = false := by simp; omega
          have H8 : Hid (s.kn = 8) := hk8
          have hk8' : (s.kn : Int) ≤ 8 := by omega
          clear hk8 hB hk0
          have HD : Hid (s.data.toList.isEmpty = true) := hd
          go_enter Try.func39, Try.ntmps39
          go_wp2_with (go_at_call 75; refine (l01Birth_any _ _).mono ?_; rintro e w' ⟨⟨t, rfl, ht⟩, rfl⟩; obtain rfl : t = true := ht.2 HB.out; clear ht)
          go_loopw [5] (fun i wr => ∃ k : Nat, k ≤ s.kn ∧ i = .int .i64 k ∧ (∀ j, j < k → KidOk p s.birth (s.ks j) (s.kb j)) ∧ Box2 wr w.heap.size (.slice a p.n c) (.slice a' p.hn c') ∧ Box3 wr (w.heap.size + 1) (.int .i64 s.birth) (.slice ka s.kn kc) (.string s.data) ∧ Below w.heap.size w wr) (fun i _ => s.kn - (intOf i).toNat)
          case atStart => exact ⟨0, Nat.zero_le _, rfl, fun j hj => absurd hj (Nat.not_lt_zero _), Box2.two _ _ _ _ _, Box3.second _ _ _ _ _ _, Hbw.out⟩
          case round =>
            obtain ⟨k, hk, rfl, hall, hx2, hx3, hb⟩ := hrel
            have Hall : Hid (∀ j, j < k → KidOk p s.birth (s.ks j) (s.kb j)) := hall
            have Hx2 : Hid (Box2 wr w.heap.size (.slice a p.n c) (.slice a' p.hn c')) := hx2
            have Hx3 : Hid (Box3 wr (w.heap.size + 1) (.int .i64 s.birth) (.slice ka s.kn kc) (.string s.data)) := hx3
            clear hall hx2 hx3
            have hz0 : w.heap.size < wr.heap.size := Hx2.out.1.lt
            have hz1 : w.heap.size + 1 < wr.heap.size := Hx3.out.1.lt
            obtain ⟨⟨y0, y1⟩, ⟨y2, y3⟩⟩ := Hx2.out
            obtain ⟨⟨z0, z1⟩, ⟨z2, z3⟩, ⟨z4, z5⟩⟩ := Hx3.out
            by_cases hlt : k < s.kn
            · have hlt' : (k : Int) < (s.kn : Int) := by omega
              obtain ⟨b, off, rfl, _, _, k1⟩ := G1.out (by omega)
              have hc1 := (hb.cell (lt_of_cell (k1 k hlt).1)).trans (k1 k hlt).1
              have hd1 := (hb.cell (lt_of_cell (k1 k hlt).2)).trans (k1 k hlt).2
              clear k1 G1
              go_wp2_with fail
              have hal := below_alloc wr (.cells #[.int .i64 (s.ks k), .int .i64 (s.kb k)] 35)
              refine (l01None_any _ _ _).mono ?_
              rintro e w1 ⟨⟨t, rfl, ht⟩, hb1⟩
              have HX2 : Hid (Box2 w1 w.heap.size (.slice a p.n c) (.slice a' p.hn c')) := (Hx2.out.below hal).below hb1
              have HX3 : Hid (Box3 w1 (w.heap.size + 1) (.int .i64 s.birth) (.slice (some ⟨b, off, none⟩) s.kn kc) (.string s.data)) := (Hx3.out.below hal).below hb1
              have HX4 : Hid (Box2 w1 wr.heap.size (.int .i64 (s.ks k)) (.int .i64 (s.kb k))) := (Box2.new wr _ _ _).below hb1
              have hbN : Below w.heap.size w w1 := below_next (below_next hb hal) hb1
              clear hal hb1 y0 y1 y2 y3 z0 z1 z2 z3 z4 z5 hc1 hd1 Hx2 Hx3
              by_cases hnone : PtrEq (s.ks k) (s.kb k) 0 0
              · obtain rfl : t = true := ht.2 hnone
                have HK : Hid (KidOk p s.birth (s.ks k) (s.kb k)) := Or.inl hnone
                clear ht hnone
                go_wp2
                go_roundw
                case rel => exact ⟨k + 1, by omega, by go_num, relNext hlt Hall.out HK.out, HX2.out, HX3.out, hbN⟩
                case measure => simp [intOf]; omega
              · obtain rfl : t = false := Bool.eq_false_iff.2 (fun h => hnone (ht.1 h))
                have HN : Hid (¬ PtrEq (s.ks k) (s.kb k) 0 0) := hnone
                clear ht hnone
                obtain ⟨⟨y0, y1⟩, ⟨y2, y3⟩⟩ := HX2.out
                obtain ⟨⟨q0, q1⟩, ⟨q2, q3⟩⟩ := HX4.out
                go_wp2_with fail
                refine (l01Points_any _ _ lo hi p _ _ _ (Hp.out.below hbN)).mono ?_
                rintro e w2 ⟨⟨t, rfl, ht⟩, hb2⟩
                have HY2 : Hid (Box2 w2 w.heap.size (.slice a p.n c) (.slice a' p.hn c')) := HX2.out.below hb2
                have HY3 : Hid (Box3 w2 (w.heap.size + 1) (.int .i64 s.birth) (.slice (some ⟨b, off, none⟩) s.kn kc) (.string s.data)) := HX3.out.below hb2
                have HY4 : Hid (Box2 w2 wr.heap.size (.int .i64 (s.ks k)) (.int .i64 (s.kb k))) := HX4.out.below hb2
                have hbM : Below w.heap.size w w2 := below_next hbN hb2
                clear hb2 hbN y0 y1 y2 y3 q0 q1 q2 q3 HX2 HX3 HX4
                by_cases hpo : Points p (s.ks k) (s.kb k)
                · obtain rfl : t = true := ht.2 hpo
                  have HP : Hid (Points p (s.ks k) (s.kb k)) := hpo
                  clear ht hpo
                  obtain ⟨⟨q0, q1⟩, ⟨q2, q3⟩⟩ := HY4.out
                  obtain ⟨⟨z0, z1⟩, ⟨z2, z3⟩, ⟨z4, z5⟩⟩ := HY3.out
                  by_cases hle : s.birth < s.kb k
                  · go_wp2
                    go_ret
                    refine ⟨BoolIs.no fun h => ?_, hbM⟩
                    rcases h.2 with h | h
                    · omega
                    · rcases h.2.2 k hlt with h | h
                      · exact HN.out h
                      · have := h.2; omega
                  · have HK : Hid (KidOk p s.birth (s.ks k) (s.kb k)) := Or.inr ⟨HP.out, by omega⟩
                    go_wp2
                    go_roundw
                    case rel => exact ⟨k + 1, by omega, by go_num, relNext hlt Hall.out HK.out, HY2.out, HY3.out, hbM⟩
                    case measure => simp [intOf]; omega
                · obtain rfl : t = false := Bool.eq_false_iff.2 (fun h => hpo (ht.1 h))
                  have HP : Hid (¬ Points p (s.ks k) (s.kb k)) := hpo
                  clear ht hpo
                  go_wp2
                  go_ret
                  refine ⟨BoolIs.no fun h => ?_, hbM⟩
                  rcases h.2 with h | h
                  · omega
                  · rcases h.2.2 k hlt with h | h
                    · exact HN.out h
                    · exact HP.out h.1
            · go_wp2
              go_ret
              exact ⟨BoolIs.yes ⟨HB.out, Or.inr ⟨H8.out, HD.out, fun i hi => Hall.out i (by omega)⟩⟩, hb⟩
        · have H : Hid (¬ Fits p s) := fun h => by
            rcases h.2 with h | h
            · omega
            · exact hd h.2.1
          have HB : Hid (BirthOk s.birth) := hB
          have e3 : ((s.kn : Int) != 8) = false := by simp; omega
          have e4 : s.data.toList.isEmpty = false := by simpa using hd
          clear hk8 hB hk0 hd
          go_enter Try.func39, Try.ntmps39
          go_wp2_with (go_at_call 75; refine (l01Birth_any _ _).mono ?_; rintro e w' ⟨⟨t, rfl, ht⟩, rfl⟩; obtain rfl : t = true := ht.2 HB.out; clear ht)
          go_ret
          exact ⟨BoolIs.no H.out, Hbw.out⟩
      · have H : Hid (¬ Fits p s) := fun h => by
          rcases h.2 with h | h
          · omega
          · exact hk8 h.1
        have HB : Hid (BirthOk s.birth) := hB
        have e3 : ((s.kn : Int) != 8) = true := by simp; omega
        clear hk8 hB hk0
        go_enter Try.func39, Try.ntmps39
        go_wp2_with (go_at_call 75; refine (l01Birth_any _ _).mono ?_; rintro e w' ⟨⟨t, rfl, ht⟩, rfl⟩; obtain rfl : t = true := ht.2 HB.out; clear ht)
        go_ret
        exact ⟨BoolIs.no H.out, Hbw.out⟩
  · have HB : Hid (¬ BirthOk s.birth) := hB
    clear hB
    go_enter Try.func39, Try.ntmps39
    go_wp2_with (go_at_call 75; refine (l01Birth_any _ _).mono ?_; rintro e w' ⟨⟨t, rfl, ht⟩, rfl⟩; obtain rfl : t = false := Bool.eq_false_iff.2 (fun h => HB.out (ht.1 h)); clear ht)
    go_ret
    exact ⟨BoolIs.no fun h => HB.out h.1, Hbw.out⟩

end Go.Proofs.Ytiijnmpenljniad
