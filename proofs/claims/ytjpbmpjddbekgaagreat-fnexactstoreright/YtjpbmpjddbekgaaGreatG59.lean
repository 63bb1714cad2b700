/- What spec.l07Same answers. -/
import Derived.Test.YtjpbmpjddbekgaaGreatG2
import Derived.Test.YtjpbmpjddbekgaaGreatG3
import Derived.BigQuiet
import Derived.Test.YtjpbmpjddbekgaaGreatG1
import Derived.Test.YtjpbmpjddbekgaaGreatG37
namespace Go.Proofs.YtjpbmpjddbekgaaGreat
open Go.RowKit Go.Maps
set_option linter.unusedVariables false

theorem ptr_neq {a b c d : Int} (h : ¬ (a = c ∧ b = d)) : (a == c) = false ∨ (a == c) = true ∧ (b == d) = false := by
  by_cases e : a = c
  · right
    refine ⟨by simp [e], ?_⟩
    have : ¬ b = d := fun e' => h ⟨e, e'⟩
    simp [this]
  · left
    simp [e]
theorem int_spell {a b : Int} (h : a = b) : (a == b) = true ∧ (a != b) = false ∧ decide (a = b) = true := by subst h; simp
theorem int_spelt {a b : Int} (h : ¬ a = b) : (a == b) = false ∧ (a != b) = true ∧ decide (a = b) = false := by simp [h]

set_option maxRecDepth 20000 in
set_option maxHeartbeats 1000000 in
theorem l07Same_any (lo hi lo' hi' : Nat) (s t : SlotD) (pa qa : Option Addr) (pc qc : Nat) (w : World) (h1 : SlotAt w lo hi (.int .i64 s.birth) (.slice pa s.kn pc) (.string s.data) s) (h2 : SlotAt w lo' hi' (.int .i64 t.birth) (.slice qa t.kn qc) (.string t.data) t) :
    Calls Tryz.prog 102 #[.agg #[.int .i64 s.birth, .slice pa s.kn pc, .string s.data], .agg #[.int .i64 t.birth, .slice qa t.kn qc, .string t.data]] w fun e w' => BoolIs (SlotEq s t) e ∧ Below w.heap.size w w' := by
  have H1 := hideW h1.2.1
  have H2 := hideW h2.2.1
  have hm1 := h1.2.1.1
  have hm2 := h2.2.1.1
  unfold maxLen at hm1 hm2
  clear h1 h2
  have ha := below_alloc w (.cells #[.int .i64 s.birth, .slice pa s.kn pc, .string s.data] 84)
  have ha2 := below_alloc (w.alloc (.cells #[.int .i64 s.birth, .slice pa s.kn pc, .string s.data] 84)) (.cells #[.int .i64 t.birth, .slice qa t.kn qc, .string t.data] 84)
  have hA := below_next ha ha2
  have HX := hideW ((Box3.new w (.int .i64 s.birth) (.slice pa s.kn pc) (.string s.data) 84).below ha2)
  have hy := Box3.new (w.alloc (.cells #[.int .i64 s.birth, .slice pa s.kn pc, .string s.data] 84)) (.int .i64 t.birth) (.slice qa t.kn qc) (.string t.data) 84
  rw [World.size_alloc] at hy
  have HY := hideW hy
  clear hy ha ha2
  obtain ⟨⟨x0, -⟩, ⟨x1, -⟩, ⟨x2, -⟩⟩ := HX.out
  obtain ⟨⟨y0, -⟩, ⟨y1, -⟩, ⟨y2, -⟩⟩ := HY.out
  by_cases e1 : s.birth = t.birth
  rotate_left
  · have H := hideW e1
    obtain ⟨i1, i2, i3⟩ := int_spelt e1
    go_enter Tryz.func102, Tryz.ntmps102
    go_wp2
    go_ret
    exact ⟨BoolIs.no fun h => H.out h.1, hA⟩
  have E1 := hideW e1
  obtain ⟨i1, i2, i3⟩ := int_spell e1
  clear e1
  by_cases e2 : s.data = t.data
  rotate_left
  · have H := hideW e2
    have i4 := str_ne e2
    clear e2
    go_enter Tryz.func102, Tryz.ntmps102
    go_wp2
    go_ret
    exact ⟨BoolIs.no fun h => H.out h.2.2, hA⟩
  have E2 := hideW e2
  have i4 := str_eq e2
  clear e2
  by_cases e3 : s.kn = t.kn
  rotate_left
  · have H := hideW e3
    obtain ⟨i5, i6, i7⟩ := int_spelt (show ¬ (s.kn : Int) = (t.kn : Int) by omega)
    clear e3
    go_enter Tryz.func102, Tryz.ntmps102
    go_wp2
    go_ret
    exact ⟨BoolIs.no fun h => H.out h.2.1.1, hA⟩
  have E3 := hideW e3
  obtain ⟨i5, i6, i7⟩ := int_spell (show (s.kn : Int) = (t.kn : Int) by omega)
  clear e3
  go_enter Tryz.func102, Tryz.ntmps102
  go_wp2
  clear x0 x1 x2 y0 y1 y2 i1 i2 i3 i4 i5 i6 i7
  go_loopw [5] (fun i wr => ∃ k : Nat, k ≤ s.kn ∧ i = .int .i64 k ∧ (∀ j, j < k → s.ks j = t.ks j ∧ s.kb j = t.kb j) ∧ Box3 wr w.heap.size (.int .i64 s.birth) (.slice pa s.kn pc) (.string s.data) ∧ Box3 wr (w.heap.size + 1) (.int .i64 t.birth) (.slice qa t.kn qc) (.string t.data) ∧ Below w.heap.size w wr) (fun i _ => s.kn - (intOf i).toNat)
  case atStart => exact ⟨0, Nat.zero_le _, rfl, fun j h => absurd h (Nat.not_lt_zero _), HX.out, HY.out, hA⟩
  case round =>
    obtain ⟨k, hk, rfl, hall, hX, hY, hb⟩ := hrel
    have Hall := hideW hall
    have HXr := hideW hX
    have HYr := hideW hY
    clear hall hX hY
    obtain ⟨⟨x0, -⟩, ⟨x1, -⟩, ⟨x2, -⟩⟩ := HXr.out
    obtain ⟨⟨y0, -⟩, ⟨y1, -⟩, ⟨y2, -⟩⟩ := HYr.out
    by_cases hlt : k < s.kn
    · have hlt' : (k : Int) < (s.kn : Int) := by omega
      have hlt2 : k < t.kn := by have := E3.out; omega
      have hlt3 : (k : Int) < (t.kn : Int) := by omega
      obtain ⟨b, off, rfl, q0, q1⟩ := (H1.out.below hb).cellsD hlt
      obtain ⟨b', off', rfl, r0, r1⟩ := (H2.out.below hb).cellsD hlt2
      by_cases he : s.ks k = t.ks k ∧ s.kb k = t.kb k
      · have H := hideW he
        rw [he.1] at q0
        rw [he.2] at q1
        clear he
        go_wp2
        go_quiet (fail)
        go_wp2
        go_roundw
        case rel =>
          refine ⟨k + 1, by omega, by go_num, ?_, HXr.out.below (below_drewN (Below.refl _ _) _), HYr.out.below (below_drewN (Below.refl _ _) _), below_drewN hb _⟩
          intro j hj
          by_cases e : j = k
          · subst e; exact H.out
          · exact Hall.out j (by omega)
        case measure => simp [intOf]; omega
      · have H := hideW he
        have e0 := ptr_neq he
        clear he
        rcases e0 with e0 | ⟨e0, e1⟩
        all_goals
          go_wp2
          go_quiet (fail)
          go_wp2
          go_ret
          exact ⟨BoolIs.no fun h => H.out (h.2.1.2 k hlt), below_drewN hb _⟩
    · obtain rfl : k = s.kn := by omega
      go_wp2
      go_ret
      exact ⟨BoolIs.yes ⟨E1.out, ⟨E3.out, Hall.out⟩, E2.out⟩, hb⟩

end Go.Proofs.YtjpbmpjddbekgaaGreat

namespace Go.Proofs.YtjpbmpjddbekgaaGreat
open Go.RowKit Go.Maps
set_option linter.unusedVariables false

set_option maxRecDepth 20000 in
set_option maxHeartbeats 1000000 in
theorem equalP_any (v v' : Value) (n n' lo hi lo' hi' : Nat) (f g f' g' : Nat → Int) (w : World) (h1 : PtrsAt w lo hi v n f g) (h2 : PtrsAt w lo' hi' v' n' f' g') :
    Calls Tryz.prog 184 #[v, v'] w fun e w' => BoolIs (PtrsEq n n' f g f' g') e ∧ Below w.heap.size w w' := by
  have H1 := hideW h1
  have H2 := hideW h2
  obtain ⟨m1, a, c, rfl, mc, -⟩ := id h1
  obtain ⟨m2, a', c', rfl, mc', -⟩ := id h2
  unfold maxLen at m1 m2
  clear h1 h2
  by_cases e3 : n = n'
  rotate_left
  · have H := hideW e3
    obtain ⟨i5, i6, i7⟩ := int_spelt (show ¬ (n : Int) = (n' : Int) by omega)
    clear e3
    go_enter Tryz.func184, Tryz.ntmps184
    go_wp2
    go_ret
    exact ⟨BoolIs.no fun h => H.out h.1, Below.refl _ _⟩
  subst e3
  have hne : ((n : Int) != (n : Int)) = false := by simp
  go_enter Tryz.func184, Tryz.ntmps184
  go_wp2
  go_loopw [13] (fun i wr => ∃ k : Nat, k ≤ n ∧ i = .int .i64 k ∧ (∀ j, j < k → f j = f' j ∧ g j = g' j) ∧ Below w.heap.size w wr) (fun i _ => n - (intOf i).toNat)
  case atStart => exact ⟨0, Nat.zero_le _, rfl, fun j h => absurd h (Nat.not_lt_zero _), Below.refl _ _⟩
  case round =>
    obtain ⟨k, hk, rfl, hall, hb⟩ := hrel
    have Hall := hideW hall
    clear hall
    by_cases hlt : k < n
    · have hlt' : (k : Int) < (n : Int) := by omega
      obtain ⟨b, off, rfl, q0, q1⟩ := (H1.out.below hb).cellsD hlt
      obtain ⟨b', off', rfl, r0, r1⟩ := (H2.out.below hb).cellsD hlt
      by_cases he : f k = f' k ∧ g k = g' k
      · have H := hideW he
        rw [he.1] at q0
        rw [he.2] at q1
        clear he
        go_wp2
        go_quiet (fail)
        go_wp2
        go_roundw
        case rel =>
          refine ⟨k + 1, by omega, by go_num, ?_, below_drewN hb _⟩
          intro j hj
          by_cases e : j = k
          · subst e; exact H.out
          · exact Hall.out j (by omega)
        case measure => simp [intOf]; omega
      · have H := hideW he
        have e0 := ptr_neq he
        clear he
        rcases e0 with e0 | ⟨e0, e1⟩
        all_goals
          go_wp2
          go_quiet (fail)
          go_wp2
          go_ret
          exact ⟨BoolIs.no fun h => H.out (h.2 k hlt), below_drewN hb _⟩
    · obtain rfl : k = n := by omega
      go_wp2
      go_ret
      exact ⟨BoolIs.yes ⟨rfl, Hall.out⟩, hb⟩

set_option maxRecDepth 20000 in
set_option maxHeartbeats 1000000 in
theorem slotSame_any (lo hi lo' hi' : Nat) (s t : SlotD) (pa qa : Option Addr) (pc qc : Nat) (w : World) (h1 : SlotAt w lo hi (.int .i64 s.birth) (.slice pa s.kn pc) (.string s.data) s) (h2 : SlotAt w lo' hi' (.int .i64 t.birth) (.slice qa t.kn qc) (.string t.data) t) :
    Calls Tryz.prog 175 #[.agg #[.int .i64 s.birth, .slice pa s.kn pc, .string s.data], .agg #[.int .i64 t.birth, .slice qa t.kn qc, .string t.data]] w fun e w' => BoolIs (SlotEq s t) e ∧ Below w.heap.size w w' := by
  have H1 := hideW h1.2.1
  have H2 := hideW h2.2.1
  clear h1 h2
  have ha := below_alloc w (.cells #[.int .i64 s.birth, .slice pa s.kn pc, .string s.data] 84)
  have ha2 := below_alloc (w.alloc (.cells #[.int .i64 s.birth, .slice pa s.kn pc, .string s.data] 84)) (.cells #[.int .i64 t.birth, .slice qa t.kn qc, .string t.data] 84)
  have hA := below_next ha ha2
  obtain ⟨⟨x0, -⟩, ⟨x1, -⟩, ⟨x2, -⟩⟩ := (Box3.new w (.int .i64 s.birth) (.slice pa s.kn pc) (.string s.data) 84).below ha2
  have hy := Box3.new (w.alloc (.cells #[.int .i64 s.birth, .slice pa s.kn pc, .string s.data] 84)) (.int .i64 t.birth) (.slice qa t.kn qc) (.string t.data) 84
  rw [World.size_alloc] at hy
  obtain ⟨⟨y0, -⟩, ⟨y1, -⟩, ⟨y2, -⟩⟩ := hy
  clear ha ha2
  by_cases e1 : s.birth = t.birth
  rotate_left
  · have H := hideW e1
    obtain ⟨i1, i2, i3⟩ := int_spelt e1
    go_enter Tryz.func175, Tryz.ntmps175
    go_wp2
    go_ret
    exact ⟨BoolIs.no fun h => H.out h.1, hA⟩
  have E1 := hideW e1
  obtain ⟨i1, i2, i3⟩ := int_spell e1
  clear e1
  by_cases e2 : s.data = t.data
  rotate_left
  · have H := hideW e2
    have i4 := str_ne e2
    clear e2
    go_enter Tryz.func175, Tryz.ntmps175
    go_wp2
    go_ret
    exact ⟨BoolIs.no fun h => H.out h.2.2, hA⟩
  have E2 := hideW e2
  have i4 := str_eq e2
  clear e2
  go_enter Tryz.func175, Tryz.ntmps175
  go_wp2_with fail
  refine (equalP_any _ _ s.kn t.kn lo hi lo' hi' _ _ _ _ _ (H1.out.below hA) (H2.out.below hA)).mono ?_
  rintro e w1 ⟨⟨r, rfl, hr⟩, hb1⟩
  have Hr := hideW hr
  have hB1 := below_next hA hb1
  clear hr hb1 x0 x1 x2 y0 y1 y2 i1 i2 i3 i4 hA
  go_wp2
  go_ret
  exact ⟨⟨r, rfl, ⟨fun h => ⟨E1.out, Hr.out.1 h, E2.out⟩, fun h => Hr.out.2 h.2.1⟩⟩, hB1⟩

set_option maxRecDepth 20000 in
set_option maxHeartbeats 1000000 in
theorem holdsNothing_any (u0 u2 u3 : Value) (ha : Option Addr) (hc : Nat) (W : WorldD) (hm : W.pool.hn ≤ maxLen) (w : World) :
    Calls Tryz.prog 140 #[.agg #[u0, .slice ha W.pool.hn hc, .int .i64 W.time, .int .i64 W.next, u2, u3]] w fun e w' => BoolIs (W.pool.hn = 0) e ∧ Below w.heap.size w w' := by
  unfold maxLen at hm
  have hA := below_alloc w (.cells #[u0, .slice ha W.pool.hn hc, .int .i64 W.time, .int .i64 W.next, u2, u3] 131)
  obtain ⟨⟨x0, -⟩, ⟨x1, -⟩, ⟨x2, -⟩, ⟨x3, -⟩, ⟨x4, -⟩, ⟨x5, -⟩⟩ := Box6.new w u0 (.slice ha W.pool.hn hc) (.int .i64 W.time) (.int .i64 W.next) u2 u3 131
  by_cases e : W.pool.hn = 0
  · have H := hideW e
    obtain ⟨i1, i2, i3⟩ := int_spell (show (W.pool.hn : Int) = 0 by omega)
    clear e
    go_enter Tryz.func140, Tryz.ntmps140
    go_wp2
    go_ret
    exact ⟨⟨true, rfl, ⟨fun _ => H.out, fun _ => rfl⟩⟩, hA⟩
  · have H := hideW e
    obtain ⟨i1, i2, i3⟩ := int_spelt (show ¬ (W.pool.hn : Int) = 0 by omega)
    clear e
    go_enter Tryz.func140, Tryz.ntmps140
    go_wp2
    go_ret
    exact ⟨⟨false, rfl, ⟨fun h => absurd h (by simp), fun h => absurd h H.out⟩⟩, hA⟩

/-- The live world keeps what the safe one has. -/
structure KeepsI (S : StoreD) : Prop where
  many : S.live.pool.n = S.safe.pool.n
  time : S.safe.time ≤ S.live.time
  next : S.safe.next ≤ S.live.next
  slots : ∀ i, i < S.safe.pool.n → ¬ Free (S.safe.pool.s i) → SlotEq (S.safe.pool.s i) (S.live.pool.s i)

set_option maxRecDepth 20000 in
set_option maxHeartbeats 4000000 in
theorem keeps_any (v0 v1 v2 v3 u0 u1 u2 u3 : Value) (lo hi : Nat) (S : StoreD) (w : World) (h : StoreAt w lo hi v0 v1 v2 v3 u0 u1 u2 u3 S) :
    Calls Tryz.prog 141 #[worldV v0 v1 v2 v3 S.live, worldV u0 u1 u2 u3 S.safe] w fun e w' => BoolIs (KeepsI S) e ∧ Below w.heap.size w w' := by
  have Hp := hideW h
  obtain ⟨m1, la, lc, rfl, ml, -⟩ := id h.live.pool.1
  obtain ⟨m2, sa, sc, rfl, ms, -⟩ := id h.safe.pool.1
  obtain ⟨m3, ha, hc, rfl, mh, -⟩ := id h.safe.pool.2
  unfold maxLen at m1 m2 m3
  clear h
  have hal := below_alloc w (.cells #[.slice la S.live.pool.n lc, v1, .int .i64 S.live.time, .int .i64 S.live.next, v2, v3] 130)
  have hal2 := below_alloc (w.alloc (.cells #[.slice la S.live.pool.n lc, v1, .int .i64 S.live.time, .int .i64 S.live.next, v2, v3] 130)) (.cells #[.slice sa S.safe.pool.n sc, .slice ha S.safe.pool.hn hc, .int .i64 S.safe.time, .int .i64 S.safe.next, u2, u3] 131)
  have hA := below_next hal hal2
  have HX := hideW ((Box6.new w (.slice la S.live.pool.n lc) v1 (.int .i64 S.live.time) (.int .i64 S.live.next) v2 v3 130).below hal2)
  have hy := Box6.new (w.alloc (.cells #[.slice la S.live.pool.n lc, v1, .int .i64 S.live.time, .int .i64 S.live.next, v2, v3] 130)) (.slice sa S.safe.pool.n sc) (.slice ha S.safe.pool.hn hc) (.int .i64 S.safe.time) (.int .i64 S.safe.next) u2 u3 131
  rw [World.size_alloc] at hy
  have HY := hideW hy
  clear hy hal hal2
  obtain ⟨⟨x0, -⟩, ⟨x1, -⟩, ⟨x2, -⟩, ⟨x3, -⟩, ⟨x4, -⟩, ⟨x5, -⟩⟩ := HX.out
  obtain ⟨⟨y0, -⟩, ⟨y1, -⟩, ⟨y2, -⟩, ⟨y3, -⟩, ⟨y4, -⟩, ⟨y5, -⟩⟩ := HY.out
  by_cases e1 : S.live.pool.n = S.safe.pool.n
  rotate_left
  · obtain ⟨i1, i2, i3⟩ := int_spelt (show ¬ (S.live.pool.n : Int) = (S.safe.pool.n : Int) by omega)
    have H := hideW e1
    clear e1
    go_enter Tryz.func141, Tryz.ntmps141
    go_wp2
    go_ret
    exact ⟨BoolIs.no fun h => H.out h.many, hA⟩
  obtain ⟨i1, i2, i3⟩ := int_spell (show (S.live.pool.n : Int) = (S.safe.pool.n : Int) by omega)
  have E1 := hideW e1
  clear e1
  by_cases e3 : S.live.time < S.safe.time
  · have H := hideW e3
    go_enter Tryz.func141, Tryz.ntmps141
    go_wp2
    go_ret
    exact ⟨BoolIs.no fun h => by have := h.time; have := H.out; omega, hA⟩
  have E3 := hideW (show S.safe.time ≤ S.live.time by omega)
  by_cases e4 : S.live.next < S.safe.next
  · have H := hideW e4
    go_enter Tryz.func141, Tryz.ntmps141
    go_wp2
    go_ret
    exact ⟨BoolIs.no fun h => by have := h.next; have := H.out; omega, hA⟩
  have E4 := hideW (show S.safe.next ≤ S.live.next by omega)
  go_enter Tryz.func141, Tryz.ntmps141
  go_wp2
  clear x0 x1 x2 x3 x4 x5 y0 y1 y2 y3 y4 y5 i1 i2 i3 e3 e4
  go_loopw [41] (fun i wr => ∃ k : Nat, k ≤ S.safe.pool.n ∧ i = .int .i64 k ∧ (∀ j, j < k → ¬ Free (S.safe.pool.s j) → SlotEq (S.safe.pool.s j) (S.live.pool.s j)) ∧ Box6 wr w.heap.size (.slice la S.live.pool.n lc) v1 (.int .i64 S.live.time) (.int .i64 S.live.next) v2 v3 ∧ Below w.heap.size w wr) (fun i _ => S.safe.pool.n - (intOf i).toNat)
  case atStart => exact ⟨0, Nat.zero_le _, rfl, fun j h => absurd h (Nat.not_lt_zero _), HX.out, hA⟩
  case round =>
    obtain ⟨k, hk, rfl, hall, hX, hb⟩ := hrel
    have Hall := hideW hall
    have HXr := hideW hX
    clear hall hX
    by_cases hlt : k < S.safe.pool.n
    · have hlt' : (k : Int) < (S.safe.pool.n : Int) := by omega
      have hlt2 : k < S.live.pool.n := by have := E1.out; omega
      have hlt3 : (k : Int) < (S.live.pool.n : Int) := by omega
      obtain ⟨b, off, ka, kc, rfl, hs⟩ := (Hp.out.safe.pool.1.below hb).cells hlt
      obtain ⟨b', off', pa, pc, rfl, hs'⟩ := (Hp.out.live.pool.1.below hb).cells hlt2
      obtain ⟨q0, q1, q2, hsl⟩ := hs
      obtain ⟨r0, r1, r2, hsl'⟩ := hs'
      have hal := below_alloc wr (.cells #[.int .i64 (S.safe.pool.s k).birth, .slice ka (S.safe.pool.s k).kn kc, .string (S.safe.pool.s k).data] 84)
      have HV := hideW (Box3.new wr (.int .i64 (S.safe.pool.s k).birth) (.slice ka (S.safe.pool.s k).kn kc) (.string (S.safe.pool.s k).data) 84)
      have HXs := hideW (HXr.out.below hal)
      have HSl := hideW (hsl.below hal)
      have HSl' := hideW (hsl'.below hal)
      have hbs := below_next hb hal
      have R0 := (hal.cell (lt_of_cell r0)).trans r0
      have R1 := (hal.cell (lt_of_cell r1)).trans r1
      have R2 := (hal.cell (lt_of_cell r2)).trans r2
      clear hsl hsl' r0 r1 r2
      obtain ⟨⟨z0, -⟩, ⟨z1, -⟩, ⟨z2, -⟩⟩ := HV.out
      go_wp2_with fail
      clear q0 q1 q2 hal
      generalize wr.alloc (.cells #[.int .i64 (S.safe.pool.s k).birth, .slice ka (S.safe.pool.s k).kn kc, .string (S.safe.pool.s k).data] 84) = W5 at HV HXs HSl HSl' hbs R0 R1 R2 z0 z1 z2 ⊢
      generalize wr.heap.size = V at HV z0 z1 z2 ⊢
      obtain ⟨⟨x0, -⟩, ⟨x1, -⟩, ⟨x2, -⟩, ⟨x3, -⟩, ⟨x4, -⟩, ⟨x5, -⟩⟩ := HXs.out
      by_cases hfr : Free (S.safe.pool.s k)
      · have Hfr := hideW hfr
        clear hfr
        refine wp_region_held_drew (S := (fun w' => w'.cell? ⟨w.heap.size, 0, none⟩ = some (.slice (some ⟨b', off', none⟩) S.live.pool.n lc) ∧ w'.cell? ⟨w.heap.size, 1, none⟩ = some (v1) ∧ w'.cell? ⟨w.heap.size, 2, none⟩ = some (.int .i64 S.live.time) ∧ w'.cell? ⟨w.heap.size, 3, none⟩ = some (.int .i64 S.live.next) ∧ w'.cell? ⟨w.heap.size, 4, none⟩ = some (v2) ∧ w'.cell? ⟨w.heap.size, 5, none⟩ = some (v3) ∧ w'.cell? ⟨V, 0, none⟩ = some (.int .i64 (S.safe.pool.s k).birth) ∧ w'.cell? ⟨V, 1, none⟩ = some (.slice ka (S.safe.pool.s k).kn kc) ∧ w'.cell? ⟨V, 2, none⟩ = some (.string (S.safe.pool.s k).data) ∧ w'.cell? ⟨b', off' + k * 3, none⟩ = some (.int .i64 (S.live.pool.s k).birth) ∧ w'.cell? ⟨b', off' + k * 3 + 1, none⟩ = some (.slice pa (S.live.pool.s k).kn pc) ∧ w'.cell? ⟨b', off' + k * 3 + 2, none⟩ = some (.string (S.live.pool.s k).data))) (by kernel_rfl) ?_ (fun hHeld => ?_)
        · (try dsimp only)
          go_keep
        refine tk 0 (h := ?_)
        refine rd [1] (rc (fun K hK => ?_) .nil)
        go_simp
        go_at_call 152
        refine (isFree_any _ _ _ lo hi (S.safe.pool.s k) _ ?_).mono ?_
        · exact HSl.out.below (below_drewN (Below.refl _ _) 1)
        rintro e w6 ⟨⟨t6, rfl, ht6⟩, hb6⟩
        obtain rfl : t6 = true := ht6.2 Hfr.out
        clear ht6
        have hC6 : Below W5.heap.size W5 w6 := (by first | exact hb6 | exact below_undrew hb6)
        obtain ⟨⟨m0, -⟩, ⟨m1, -⟩, ⟨m2, -⟩, ⟨m3, -⟩, ⟨m4, -⟩, ⟨m5, -⟩⟩ := HXs.out.below hC6
        obtain ⟨⟨Z0, -⟩, ⟨Z1, -⟩, ⟨Z2, -⟩⟩ := HV.out.below hC6
        have RR0 := (hC6.cell (lt_of_cell R0)).trans R0
        have RR1 := (hC6.cell (lt_of_cell R1)).trans R1
        have RR2 := (hC6.cell (lt_of_cell R2)).trans R2
        (try go_wp2_with fail)
        refine hK.out _ _ (by (try dsimp only); go_keep) ?_
        clear hK K hHeld
        intro hHeld
        try simp only [Act.put, s1, s2, s3]
        refine tk 2 (h := tk 3 (h := ts 4 (h := ts 5 (h := ts 6 (h := ts 7 (h := ts 8 (h := ts 9 (h := ts 10 (h := ts 11 (h := ?_))))))))))
        refine rd [12] (rc (fun K hK => ?_) .nil)
        split
        · rename_i hwt
          exact absurd (show false = true from hwt) Bool.false_ne_true
        refine hK.out _ _ (by assumption) (fun hHeld => ?_)
        clear hK K
        try simp only [Act.put, s1, s2, s3]
        refine ts 13 (h := tk 14 (h := ?_))
        refine wpAnyH_done (by kernel_rfl) ?_ _
        go_wp2
        go_roundw
        case rel =>
          refine ⟨k + 1, by omega, by go_num, ?_, HXs.out.below hC6, below_next hbs hC6⟩
          intro j hj hn
          by_cases e : j = k
          · subst e; exact absurd Hfr.out hn
          · exact Hall.out j (by omega) hn
        case measure => simp [intOf]; omega
      · have Hfr := hideW hfr
        clear hfr
        by_cases hq : SlotEq (S.safe.pool.s k) (S.live.pool.s k)
        · have Hq := hideW hq
          clear hq
          refine wp_region_held_drew (S := (fun w' => w'.cell? ⟨w.heap.size, 0, none⟩ = some (.slice (some ⟨b', off', none⟩) S.live.pool.n lc) ∧ w'.cell? ⟨w.heap.size, 1, none⟩ = some (v1) ∧ w'.cell? ⟨w.heap.size, 2, none⟩ = some (.int .i64 S.live.time) ∧ w'.cell? ⟨w.heap.size, 3, none⟩ = some (.int .i64 S.live.next) ∧ w'.cell? ⟨w.heap.size, 4, none⟩ = some (v2) ∧ w'.cell? ⟨w.heap.size, 5, none⟩ = some (v3) ∧ w'.cell? ⟨V, 0, none⟩ = some (.int .i64 (S.safe.pool.s k).birth) ∧ w'.cell? ⟨V, 1, none⟩ = some (.slice ka (S.safe.pool.s k).kn kc) ∧ w'.cell? ⟨V, 2, none⟩ = some (.string (S.safe.pool.s k).data) ∧ w'.cell? ⟨b', off' + k * 3, none⟩ = some (.int .i64 (S.live.pool.s k).birth) ∧ w'.cell? ⟨b', off' + k * 3 + 1, none⟩ = some (.slice pa (S.live.pool.s k).kn pc) ∧ w'.cell? ⟨b', off' + k * 3 + 2, none⟩ = some (.string (S.live.pool.s k).data))) (by kernel_rfl) ?_ (fun hHeld => ?_)
          · (try dsimp only)
            go_keep
          refine tk 0 (h := ?_)
          refine rd [1] (rc (fun K hK => ?_) .nil)
          go_simp
          go_at_call 152
          refine (isFree_any _ _ _ lo hi (S.safe.pool.s k) _ ?_).mono ?_
          · exact HSl.out.below (below_drewN (Below.refl _ _) 1)
          rintro e w6 ⟨⟨t6, rfl, ht6⟩, hb6⟩
          obtain rfl : t6 = false := bool_no ht6 Hfr.out
          clear ht6
          have hC6 : Below W5.heap.size W5 w6 := (by first | exact hb6 | exact below_undrew hb6)
          obtain ⟨⟨m0, -⟩, ⟨m1, -⟩, ⟨m2, -⟩, ⟨m3, -⟩, ⟨m4, -⟩, ⟨m5, -⟩⟩ := HXs.out.below hC6
          obtain ⟨⟨Z0, -⟩, ⟨Z1, -⟩, ⟨Z2, -⟩⟩ := HV.out.below hC6
          have RR0 := (hC6.cell (lt_of_cell R0)).trans R0
          have RR1 := (hC6.cell (lt_of_cell R1)).trans R1
          have RR2 := (hC6.cell (lt_of_cell R2)).trans R2
          (try go_wp2_with fail)
          refine hK.out _ _ (by (try dsimp only); go_keep) ?_
          clear hK K hHeld
          intro hHeld
          try simp only [Act.put, s1, s2, s3]
          refine tk 2 (h := tk 3 (h := tk 4 (h := tk 5 (h := tk 6 (h := tk 7 (h := tk 8 (h := tk 9 (h := tk 10 (h := tk 11 (h := ?_))))))))))
          refine rd [12] (rc (fun K hK => ?_) .nil)
          go_simp
          go_at_call 175
          refine (slotSame_any lo hi lo hi (S.safe.pool.s k) (S.live.pool.s k) ka pa kc pc _ ?_ ?_).mono ?_
          · exact HSl.out.below hC6
          · exact HSl'.out.below hC6
          rintro e w7 ⟨⟨t7, rfl, ht7⟩, hb7⟩
          obtain rfl : t7 = true := ht7.2 Hq.out
          clear ht7
          have hC7 := below_next hC6 hb7
          obtain ⟨⟨n0, -⟩, ⟨n1, -⟩, ⟨n2, -⟩, ⟨n3, -⟩, ⟨n4, -⟩, ⟨n5, -⟩⟩ := HXs.out.below hC7
          obtain ⟨⟨y0, -⟩, ⟨y1, -⟩, ⟨y2, -⟩⟩ := HV.out.below hC7
          have sq0 := (hC7.cell (lt_of_cell R0)).trans R0
          have sq1 := (hC7.cell (lt_of_cell R1)).trans R1
          have sq2 := (hC7.cell (lt_of_cell R2)).trans R2
          (try go_wp2_with fail)
          refine hK.out _ _ (by (try dsimp only); go_keep) ?_
          clear hK K hHeld
          intro hHeld
          try simp only [Act.put, s1, s2, s3]
          refine tk 13 (h := tk 14 (h := ?_))
          refine wpAnyH_done (by kernel_rfl) ?_ _
          go_wp2
          go_roundw
          case rel =>
            refine ⟨k + 1, by omega, by go_num, ?_, HXs.out.below hC7, below_next hbs hC7⟩
            intro j hj hn
            by_cases e : j = k
            · subst e; exact Hq.out
            · exact Hall.out j (by omega) hn
          case measure => simp [intOf]; omega
        · have Hq := hideW hq
          clear hq
          refine wp_region_held_drew (S := (fun w' => w'.cell? ⟨w.heap.size, 0, none⟩ = some (.slice (some ⟨b', off', none⟩) S.live.pool.n lc) ∧ w'.cell? ⟨w.heap.size, 1, none⟩ = some (v1) ∧ w'.cell? ⟨w.heap.size, 2, none⟩ = some (.int .i64 S.live.time) ∧ w'.cell? ⟨w.heap.size, 3, none⟩ = some (.int .i64 S.live.next) ∧ w'.cell? ⟨w.heap.size, 4, none⟩ = some (v2) ∧ w'.cell? ⟨w.heap.size, 5, none⟩ = some (v3) ∧ w'.cell? ⟨V, 0, none⟩ = some (.int .i64 (S.safe.pool.s k).birth) ∧ w'.cell? ⟨V, 1, none⟩ = some (.slice ka (S.safe.pool.s k).kn kc) ∧ w'.cell? ⟨V, 2, none⟩ = some (.string (S.safe.pool.s k).data) ∧ w'.cell? ⟨b', off' + k * 3, none⟩ = some (.int .i64 (S.live.pool.s k).birth) ∧ w'.cell? ⟨b', off' + k * 3 + 1, none⟩ = some (.slice pa (S.live.pool.s k).kn pc) ∧ w'.cell? ⟨b', off' + k * 3 + 2, none⟩ = some (.string (S.live.pool.s k).data))) (by kernel_rfl) ?_ (fun hHeld => ?_)
          · (try dsimp only)
            go_keep
          refine tk 0 (h := ?_)
          refine rd [1] (rc (fun K hK => ?_) .nil)
          go_simp
          go_at_call 152
          refine (isFree_any _ _ _ lo hi (S.safe.pool.s k) _ ?_).mono ?_
          · exact HSl.out.below (below_drewN (Below.refl _ _) 1)
          rintro e w6 ⟨⟨t6, rfl, ht6⟩, hb6⟩
          obtain rfl : t6 = false := bool_no ht6 Hfr.out
          clear ht6
          have hC6 : Below W5.heap.size W5 w6 := (by first | exact hb6 | exact below_undrew hb6)
          obtain ⟨⟨m0, -⟩, ⟨m1, -⟩, ⟨m2, -⟩, ⟨m3, -⟩, ⟨m4, -⟩, ⟨m5, -⟩⟩ := HXs.out.below hC6
          obtain ⟨⟨Z0, -⟩, ⟨Z1, -⟩, ⟨Z2, -⟩⟩ := HV.out.below hC6
          have RR0 := (hC6.cell (lt_of_cell R0)).trans R0
          have RR1 := (hC6.cell (lt_of_cell R1)).trans R1
          have RR2 := (hC6.cell (lt_of_cell R2)).trans R2
          (try go_wp2_with fail)
          refine hK.out _ _ (by (try dsimp only); go_keep) ?_
          clear hK K hHeld
          intro hHeld
          try simp only [Act.put, s1, s2, s3]
          refine tk 2 (h := tk 3 (h := tk 4 (h := tk 5 (h := tk 6 (h := tk 7 (h := tk 8 (h := tk 9 (h := tk 10 (h := tk 11 (h := ?_))))))))))
          refine rd [12] (rc (fun K hK => ?_) .nil)
          go_simp
          go_at_call 175
          refine (slotSame_any lo hi lo hi (S.safe.pool.s k) (S.live.pool.s k) ka pa kc pc _ ?_ ?_).mono ?_
          · exact HSl.out.below hC6
          · exact HSl'.out.below hC6
          rintro e w7 ⟨⟨t7, rfl, ht7⟩, hb7⟩
          obtain rfl : t7 = false := bool_no ht7 Hq.out
          clear ht7
          have hC7 := below_next hC6 hb7
          obtain ⟨⟨n0, -⟩, ⟨n1, -⟩, ⟨n2, -⟩, ⟨n3, -⟩, ⟨n4, -⟩, ⟨n5, -⟩⟩ := HXs.out.below hC7
          obtain ⟨⟨y0, -⟩, ⟨y1, -⟩, ⟨y2, -⟩⟩ := HV.out.below hC7
          have sq0 := (hC7.cell (lt_of_cell R0)).trans R0
          have sq1 := (hC7.cell (lt_of_cell R1)).trans R1
          have sq2 := (hC7.cell (lt_of_cell R2)).trans R2
          (try go_wp2_with fail)
          refine hK.out _ _ (by (try dsimp only); go_keep) ?_
          clear hK K hHeld
          intro hHeld
          try simp only [Act.put, s1, s2, s3]
          refine tk 13 (h := tk 14 (h := ?_))
          refine wpAnyH_done (by kernel_rfl) ?_ _
          go_wp2
          go_ret
          exact ⟨BoolIs.no fun h => Hq.out (h.slots k hlt Hfr.out), below_next hbs hC7⟩
    · obtain rfl : k = S.safe.pool.n := by omega
      go_wp2
      go_ret
      exact ⟨BoolIs.yes ⟨E1.out, E3.out, E4.out, Hall.out⟩, hb⟩

end Go.Proofs.YtjpbmpjddbekgaaGreat

namespace Go.Proofs.YtjpbmpjddbekgaaGreat
open Go.RowKit
set_option linter.unusedVariables false

/-- A variable of 12 cells. -/
def Box12 (w : World) (b : Nat) (v0 v1 v2 v3 v4 v5 v6 v7 v8 v9 v10 v11 : Value) : Prop := Cell w b 0 v0 ∧ Cell w b 1 v1 ∧ Cell w b 2 v2 ∧ Cell w b 3 v3 ∧ Cell w b 4 v4 ∧ Cell w b 5 v5 ∧ Cell w b 6 v6 ∧ Cell w b 7 v7 ∧ Cell w b 8 v8 ∧ Cell w b 9 v9 ∧ Cell w b 10 v10 ∧ Cell w b 11 v11
theorem Box12.below {w w' : World} {b : Nat} {v0 v1 v2 v3 v4 v5 v6 v7 v8 v9 v10 v11 : Value} (h : Box12 w b v0 v1 v2 v3 v4 v5 v6 v7 v8 v9 v10 v11) (t : Below w.heap.size w w') : Box12 w' b v0 v1 v2 v3 v4 v5 v6 v7 v8 v9 v10 v11 := ⟨h.1.below t, h.2.1.below t, h.2.2.1.below t, h.2.2.2.1.below t, h.2.2.2.2.1.below t, h.2.2.2.2.2.1.below t, h.2.2.2.2.2.2.1.below t, h.2.2.2.2.2.2.2.1.below t, h.2.2.2.2.2.2.2.2.1.below t, h.2.2.2.2.2.2.2.2.2.1.below t, h.2.2.2.2.2.2.2.2.2.2.1.below t, h.2.2.2.2.2.2.2.2.2.2.2.below t⟩
theorem Box12.turned {S : Nat → Prop} {w w' : World} {b : Nat} {v0 v1 v2 v3 v4 v5 v6 v7 v8 v9 v10 v11 : Value} (h : Box12 w b v0 v1 v2 v3 v4 v5 v6 v7 v8 v9 v10 v11) (t : Turned S w w') (hs : ¬ S b) : Box12 w' b v0 v1 v2 v3 v4 v5 v6 v7 v8 v9 v10 v11 := ⟨h.1.turned t hs, h.2.1.turned t hs, h.2.2.1.turned t hs, h.2.2.2.1.turned t hs, h.2.2.2.2.1.turned t hs, h.2.2.2.2.2.1.turned t hs, h.2.2.2.2.2.2.1.turned t hs, h.2.2.2.2.2.2.2.1.turned t hs, h.2.2.2.2.2.2.2.2.1.turned t hs, h.2.2.2.2.2.2.2.2.2.1.turned t hs, h.2.2.2.2.2.2.2.2.2.2.1.turned t hs, h.2.2.2.2.2.2.2.2.2.2.2.turned t hs⟩
theorem Box12.new (w : World) (v0 v1 v2 v3 v4 v5 v6 v7 v8 v9 v10 v11 : Value) (t : TypeId) : Box12 (w.alloc (.cells #[v0, v1, v2, v3, v4, v5, v6, v7, v8, v9, v10, v11] t)) w.heap.size v0 v1 v2 v3 v4 v5 v6 v7 v8 v9 v10 v11 := by
  have hb : (w.alloc (.cells #[v0, v1, v2, v3, v4, v5, v6, v7, v8, v9, v10, v11] t)).heap[w.heap.size]? = some (.cells #[v0, v1, v2, v3, v4, v5, v6, v7, v8, v9, v10, v11] t) := heap_alloc_new _ _
  exact ⟨cell_of_block hb rfl, cell_of_block hb rfl, cell_of_block hb rfl, cell_of_block hb rfl, cell_of_block hb rfl, cell_of_block hb rfl, cell_of_block hb rfl, cell_of_block hb rfl, cell_of_block hb rfl, cell_of_block hb rfl, cell_of_block hb rfl, cell_of_block hb rfl⟩
abbrev put12 (w : World) (b : Nat) (u0 u1 u2 u3 u4 u5 u6 u7 u8 u9 u10 u11 : Value) : World := (((((((((((w.setCell ⟨b, 0, none⟩ u0).setCell ⟨b, 1, none⟩ u1).setCell ⟨b, 2, none⟩ u2).setCell ⟨b, 3, none⟩ u3).setCell ⟨b, 4, none⟩ u4).setCell ⟨b, 5, none⟩ u5).setCell ⟨b, 6, none⟩ u6).setCell ⟨b, 7, none⟩ u7).setCell ⟨b, 8, none⟩ u8).setCell ⟨b, 9, none⟩ u9).setCell ⟨b, 10, none⟩ u10).setCell ⟨b, 11, none⟩ u11
theorem Box12.put {w : World} {b : Nat} {v0 v1 v2 v3 v4 v5 v6 v7 v8 v9 v10 v11 : Value} (h : Box12 w b v0 v1 v2 v3 v4 v5 v6 v7 v8 v9 v10 v11) (u0 u1 u2 u3 u4 u5 u6 u7 u8 u9 u10 u11 : Value) : Box12 (put12 w b u0 u1 u2 u3 u4 u5 u6 u7 u8 u9 u10 u11) b u0 u1 u2 u3 u4 u5 u6 u7 u8 u9 u10 u11 := by
  obtain ⟨h0, h1, h2, h3, h4, h5, h6, h7, h8, h9, h10, h11⟩ := h
  refine ⟨?_, ?_, ?_, ?_, ?_, ?_, ?_, ?_, ?_, ?_, ?_, ?_⟩
  · exact (((((((((((h0.set _).other _ (Or.inr (by omega))).other _ (Or.inr (by omega))).other _ (Or.inr (by omega))).other _ (Or.inr (by omega))).other _ (Or.inr (by omega))).other _ (Or.inr (by omega))).other _ (Or.inr (by omega))).other _ (Or.inr (by omega))).other _ (Or.inr (by omega))).other _ (Or.inr (by omega))).other _ (Or.inr (by omega))
  · exact (((((((((((h1.other _ (Or.inr (by omega))).set _).other _ (Or.inr (by omega))).other _ (Or.inr (by omega))).other _ (Or.inr (by omega))).other _ (Or.inr (by omega))).other _ (Or.inr (by omega))).other _ (Or.inr (by omega))).other _ (Or.inr (by omega))).other _ (Or.inr (by omega))).other _ (Or.inr (by omega))).other _ (Or.inr (by omega))
  · exact (((((((((((h2.other _ (Or.inr (by omega))).other _ (Or.inr (by omega))).set _).other _ (Or.inr (by omega))).other _ (Or.inr (by omega))).other _ (Or.inr (by omega))).other _ (Or.inr (by omega))).other _ (Or.inr (by omega))).other _ (Or.inr (by omega))).other _ (Or.inr (by omega))).other _ (Or.inr (by omega))).other _ (Or.inr (by omega))
  · exact (((((((((((h3.other _ (Or.inr (by omega))).other _ (Or.inr (by omega))).other _ (Or.inr (by omega))).set _).other _ (Or.inr (by omega))).other _ (Or.inr (by omega))).other _ (Or.inr (by omega))).other _ (Or.inr (by omega))).other _ (Or.inr (by omega))).other _ (Or.inr (by omega))).other _ (Or.inr (by omega))).other _ (Or.inr (by omega))
  · exact (((((((((((h4.other _ (Or.inr (by omega))).other _ (Or.inr (by omega))).other _ (Or.inr (by omega))).other _ (Or.inr (by omega))).set _).other _ (Or.inr (by omega))).other _ (Or.inr (by omega))).other _ (Or.inr (by omega))).other _ (Or.inr (by omega))).other _ (Or.inr (by omega))).other _ (Or.inr (by omega))).other _ (Or.inr (by omega))
  · exact (((((((((((h5.other _ (Or.inr (by omega))).other _ (Or.inr (by omega))).other _ (Or.inr (by omega))).other _ (Or.inr (by omega))).other _ (Or.inr (by omega))).set _).other _ (Or.inr (by omega))).other _ (Or.inr (by omega))).other _ (Or.inr (by omega))).other _ (Or.inr (by omega))).other _ (Or.inr (by omega))).other _ (Or.inr (by omega))
  · exact (((((((((((h6.other _ (Or.inr (by omega))).other _ (Or.inr (by omega))).other _ (Or.inr (by omega))).other _ (Or.inr (by omega))).other _ (Or.inr (by omega))).other _ (Or.inr (by omega))).set _).other _ (Or.inr (by omega))).other _ (Or.inr (by omega))).other _ (Or.inr (by omega))).other _ (Or.inr (by omega))).other _ (Or.inr (by omega))
  · exact (((((((((((h7.other _ (Or.inr (by omega))).other _ (Or.inr (by omega))).other _ (Or.inr (by omega))).other _ (Or.inr (by omega))).other _ (Or.inr (by omega))).other _ (Or.inr (by omega))).other _ (Or.inr (by omega))).set _).other _ (Or.inr (by omega))).other _ (Or.inr (by omega))).other _ (Or.inr (by omega))).other _ (Or.inr (by omega))
  · exact (((((((((((h8.other _ (Or.inr (by omega))).other _ (Or.inr (by omega))).other _ (Or.inr (by omega))).other _ (Or.inr (by omega))).other _ (Or.inr (by omega))).other _ (Or.inr (by omega))).other _ (Or.inr (by omega))).other _ (Or.inr (by omega))).set _).other _ (Or.inr (by omega))).other _ (Or.inr (by omega))).other _ (Or.inr (by omega))
  · exact (((((((((((h9.other _ (Or.inr (by omega))).other _ (Or.inr (by omega))).other _ (Or.inr (by omega))).other _ (Or.inr (by omega))).other _ (Or.inr (by omega))).other _ (Or.inr (by omega))).other _ (Or.inr (by omega))).other _ (Or.inr (by omega))).other _ (Or.inr (by omega))).set _).other _ (Or.inr (by omega))).other _ (Or.inr (by omega))
  · exact (((((((((((h10.other _ (Or.inr (by omega))).other _ (Or.inr (by omega))).other _ (Or.inr (by omega))).other _ (Or.inr (by omega))).other _ (Or.inr (by omega))).other _ (Or.inr (by omega))).other _ (Or.inr (by omega))).other _ (Or.inr (by omega))).other _ (Or.inr (by omega))).other _ (Or.inr (by omega))).set _).other _ (Or.inr (by omega))
  · exact (((((((((((h11.other _ (Or.inr (by omega))).other _ (Or.inr (by omega))).other _ (Or.inr (by omega))).other _ (Or.inr (by omega))).other _ (Or.inr (by omega))).other _ (Or.inr (by omega))).other _ (Or.inr (by omega))).other _ (Or.inr (by omega))).other _ (Or.inr (by omega))).other _ (Or.inr (by omega))).other _ (Or.inr (by omega))).set _
theorem Turned.put12 (w : World) (b : Nat) (u0 u1 u2 u3 u4 u5 u6 u7 u8 u9 u10 u11 : Value) : Turned (fun k => k = b) w (put12 w b u0 u1 u2 u3 u4 u5 u6 u7 u8 u9 u10 u11) :=
  (((((((((((Turned.put w b 0 u0).trans (Turned.put _ b 1 u1)).trans (Turned.put _ b 2 u2)).trans (Turned.put _ b 3 u3)).trans (Turned.put _ b 4 u4)).trans (Turned.put _ b 5 u5)).trans (Turned.put _ b 6 u6)).trans (Turned.put _ b 7 u7)).trans (Turned.put _ b 8 u8)).trans (Turned.put _ b 9 u9)).trans (Turned.put _ b 10 u10)).trans (Turned.put _ b 11 u11)

theorem Box12.put12a {w : World} {b : Nat} {v0 v1 v2 v3 v4 v5 v6 v7 v8 v9 v10 v11 : Value} (h : Box12 w b v0 v1 v2 v3 v4 v5 v6 v7 v8 v9 v10 v11) (u0 u1 u2 u3 u4 u5 : Value) : Box12 ((((((w.setCell ⟨b, 0, none⟩ u0).setCell ⟨b, 1, none⟩ u1).setCell ⟨b, 2, none⟩ u2).setCell ⟨b, 3, none⟩ u3).setCell ⟨b, 4, none⟩ u4).setCell ⟨b, 5, none⟩ u5) b u0 u1 u2 u3 u4 u5 v6 v7 v8 v9 v10 v11 := by
  obtain ⟨h0, h1, h2, h3, h4, h5, h6, h7, h8, h9, h10, h11⟩ := h
  refine ⟨?_, ?_, ?_, ?_, ?_, ?_, ?_, ?_, ?_, ?_, ?_, ?_⟩
  · exact (((((h0.set _).other _ (Or.inr (by omega))).other _ (Or.inr (by omega))).other _ (Or.inr (by omega))).other _ (Or.inr (by omega))).other _ (Or.inr (by omega))
  · exact (((((h1.other _ (Or.inr (by omega))).set _).other _ (Or.inr (by omega))).other _ (Or.inr (by omega))).other _ (Or.inr (by omega))).other _ (Or.inr (by omega))
  · exact (((((h2.other _ (Or.inr (by omega))).other _ (Or.inr (by omega))).set _).other _ (Or.inr (by omega))).other _ (Or.inr (by omega))).other _ (Or.inr (by omega))
  · exact (((((h3.other _ (Or.inr (by omega))).other _ (Or.inr (by omega))).other _ (Or.inr (by omega))).set _).other _ (Or.inr (by omega))).other _ (Or.inr (by omega))
  · exact (((((h4.other _ (Or.inr (by omega))).other _ (Or.inr (by omega))).other _ (Or.inr (by omega))).other _ (Or.inr (by omega))).set _).other _ (Or.inr (by omega))
  · exact (((((h5.other _ (Or.inr (by omega))).other _ (Or.inr (by omega))).other _ (Or.inr (by omega))).other _ (Or.inr (by omega))).other _ (Or.inr (by omega))).set _
  · exact (((((h6.other _ (Or.inr (by omega))).other _ (Or.inr (by omega))).other _ (Or.inr (by omega))).other _ (Or.inr (by omega))).other _ (Or.inr (by omega))).other _ (Or.inr (by omega))
  · exact (((((h7.other _ (Or.inr (by omega))).other _ (Or.inr (by omega))).other _ (Or.inr (by omega))).other _ (Or.inr (by omega))).other _ (Or.inr (by omega))).other _ (Or.inr (by omega))
  · exact (((((h8.other _ (Or.inr (by omega))).other _ (Or.inr (by omega))).other _ (Or.inr (by omega))).other _ (Or.inr (by omega))).other _ (Or.inr (by omega))).other _ (Or.inr (by omega))
  · exact (((((h9.other _ (Or.inr (by omega))).other _ (Or.inr (by omega))).other _ (Or.inr (by omega))).other _ (Or.inr (by omega))).other _ (Or.inr (by omega))).other _ (Or.inr (by omega))
  · exact (((((h10.other _ (Or.inr (by omega))).other _ (Or.inr (by omega))).other _ (Or.inr (by omega))).other _ (Or.inr (by omega))).other _ (Or.inr (by omega))).other _ (Or.inr (by omega))
  · exact (((((h11.other _ (Or.inr (by omega))).other _ (Or.inr (by omega))).other _ (Or.inr (by omega))).other _ (Or.inr (by omega))).other _ (Or.inr (by omega))).other _ (Or.inr (by omega))
theorem Turned.put12a (w : World) (b : Nat) (u0 u1 u2 u3 u4 u5 : Value) : Turned (fun k => k = b) w ((((((w.setCell ⟨b, 0, none⟩ u0).setCell ⟨b, 1, none⟩ u1).setCell ⟨b, 2, none⟩ u2).setCell ⟨b, 3, none⟩ u3).setCell ⟨b, 4, none⟩ u4).setCell ⟨b, 5, none⟩ u5) :=
  (((((Turned.put w b 0 u0).trans (Turned.put _ b 1 u1)).trans (Turned.put _ b 2 u2)).trans (Turned.put _ b 3 u3)).trans (Turned.put _ b 4 u4)).trans (Turned.put _ b 5 u5)

theorem Box12.put12b {w : World} {b : Nat} {v0 v1 v2 v3 v4 v5 v6 v7 v8 v9 v10 v11 : Value} (h : Box12 w b v0 v1 v2 v3 v4 v5 v6 v7 v8 v9 v10 v11) (u6 u7 u8 u9 u10 u11 : Value) : Box12 ((((((w.setCell ⟨b, 6, none⟩ u6).setCell ⟨b, 7, none⟩ u7).setCell ⟨b, 8, none⟩ u8).setCell ⟨b, 9, none⟩ u9).setCell ⟨b, 10, none⟩ u10).setCell ⟨b, 11, none⟩ u11) b v0 v1 v2 v3 v4 v5 u6 u7 u8 u9 u10 u11 := by
  obtain ⟨h0, h1, h2, h3, h4, h5, h6, h7, h8, h9, h10, h11⟩ := h
  refine ⟨?_, ?_, ?_, ?_, ?_, ?_, ?_, ?_, ?_, ?_, ?_, ?_⟩
  · exact (((((h0.other _ (Or.inr (by omega))).other _ (Or.inr (by omega))).other _ (Or.inr (by omega))).other _ (Or.inr (by omega))).other _ (Or.inr (by omega))).other _ (Or.inr (by omega))
  · exact (((((h1.other _ (Or.inr (by omega))).other _ (Or.inr (by omega))).other _ (Or.inr (by omega))).other _ (Or.inr (by omega))).other _ (Or.inr (by omega))).other _ (Or.inr (by omega))
  · exact (((((h2.other _ (Or.inr (by omega))).other _ (Or.inr (by omega))).other _ (Or.inr (by omega))).other _ (Or.inr (by omega))).other _ (Or.inr (by omega))).other _ (Or.inr (by omega))
  · exact (((((h3.other _ (Or.inr (by omega))).other _ (Or.inr (by omega))).other _ (Or.inr (by omega))).other _ (Or.inr (by omega))).other _ (Or.inr (by omega))).other _ (Or.inr (by omega))
  · exact (((((h4.other _ (Or.inr (by omega))).other _ (Or.inr (by omega))).other _ (Or.inr (by omega))).other _ (Or.inr (by omega))).other _ (Or.inr (by omega))).other _ (Or.inr (by omega))
  · exact (((((h5.other _ (Or.inr (by omega))).other _ (Or.inr (by omega))).other _ (Or.inr (by omega))).other _ (Or.inr (by omega))).other _ (Or.inr (by omega))).other _ (Or.inr (by omega))
  · exact (((((h6.set _).other _ (Or.inr (by omega))).other _ (Or.inr (by omega))).other _ (Or.inr (by omega))).other _ (Or.inr (by omega))).other _ (Or.inr (by omega))
  · exact (((((h7.other _ (Or.inr (by omega))).set _).other _ (Or.inr (by omega))).other _ (Or.inr (by omega))).other _ (Or.inr (by omega))).other _ (Or.inr (by omega))
  · exact (((((h8.other _ (Or.inr (by omega))).other _ (Or.inr (by omega))).set _).other _ (Or.inr (by omega))).other _ (Or.inr (by omega))).other _ (Or.inr (by omega))
  · exact (((((h9.other _ (Or.inr (by omega))).other _ (Or.inr (by omega))).other _ (Or.inr (by omega))).set _).other _ (Or.inr (by omega))).other _ (Or.inr (by omega))
  · exact (((((h10.other _ (Or.inr (by omega))).other _ (Or.inr (by omega))).other _ (Or.inr (by omega))).other _ (Or.inr (by omega))).set _).other _ (Or.inr (by omega))
  · exact (((((h11.other _ (Or.inr (by omega))).other _ (Or.inr (by omega))).other _ (Or.inr (by omega))).other _ (Or.inr (by omega))).other _ (Or.inr (by omega))).set _
theorem Turned.put12b (w : World) (b : Nat) (u6 u7 u8 u9 u10 u11 : Value) : Turned (fun k => k = b) w ((((((w.setCell ⟨b, 6, none⟩ u6).setCell ⟨b, 7, none⟩ u7).setCell ⟨b, 8, none⟩ u8).setCell ⟨b, 9, none⟩ u9).setCell ⟨b, 10, none⟩ u10).setCell ⟨b, 11, none⟩ u11) :=
  (((((Turned.put w b 6 u6).trans (Turned.put _ b 7 u7)).trans (Turned.put _ b 8 u8)).trans (Turned.put _ b 9 u9)).trans (Turned.put _ b 10 u10)).trans (Turned.put _ b 11 u11)

end Go.Proofs.YtjpbmpjddbekgaaGreat
