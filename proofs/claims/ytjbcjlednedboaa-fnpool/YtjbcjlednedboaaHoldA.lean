/- What spec.PoolHold and impl.PoolHold answer. -/
import Derived.Test.YtjbcjlednedboaaOutBase
import Derived.Test.YtjbcjlednedboaaCopy2
import Derived.Test.YtjbcjlednedboaaIsPtr
import Derived.Test.YtjbcjlednedboaaSpecRight3
import Derived.Deep.RegionLawGrows
namespace Go.Proofs.Ytjbcjlednedboaa
open Go.RowKit
set_option linter.unusedVariables false

/-- One more is held. -/
def holdD (p : PoolD) (xs : Int) : PoolD := { n := p.n, s := p.s, hn := p.hn + 1, h := fun i => if i = p.hn then xs else p.h i }
open Classical in
noncomputable def holdP (p : PoolD) (xs xb : Int) : OutD := if Right p then (if Points p xs xb ∧ ¬ Has p.hn p.h xs then ⟨holdD p xs, 0, 0, 0⟩ else ⟨newP 0, 0, 0, 4⟩) else ⟨newP 0, 0, 0, 1⟩
theorem hold_form {p : PoolD} {xs xb : Int} (h : ¬ Right p) : holdP p xs xb = ⟨newP 0, 0, 0, 1⟩ := if_neg h
theorem hold_none {p : PoolD} {xs xb : Int} (h : Right p) (h' : ¬ (Points p xs xb ∧ ¬ Has p.hn p.h xs)) : holdP p xs xb = ⟨newP 0, 0, 0, 4⟩ := (if_pos h).trans (if_neg h')
theorem hold_ok {p : PoolD} {xs xb : Int} (h : Right p) (h' : Points p xs xb) (h'' : ¬ Has p.hn p.h xs) : holdP p xs xb = ⟨holdD p xs, 0, 0, 0⟩ := (if_pos h).trans (if_pos ⟨h', h''⟩)

theorem ic_congr {f g : Nat → Int} {n : Nat} (h : ∀ i, i < n → f i = g i) : ic f n = ic g n := by
  induction n with
  | zero => rfl
  | succ n ih =>
    unfold ic
    rw [ih (fun i hi => h i (by omega)), h n (by omega)]
theorem ic_hold (p : PoolD) (xs : Int) : ic (holdD p xs).h (p.hn + 1) = ic p.h p.hn ++ [.int .i64 xs] := by
  show ic (holdD p xs).h p.hn ++ [.int .i64 ((holdD p xs).h p.hn)] = _
  rw [ic_congr (f := (holdD p xs).h) (g := p.h) (fun i hi => if_neg (by omega)), show (holdD p xs).h p.hn = xs from if_pos rfl]

/-- The three variables with which the calls begin. -/
theorem start3 (w : World) (a0 a1 x0 x1 : Value) (t1 t2 t3 : TypeId) :
    Box2 (((w.alloc (.cells #[a0, a1] t1)).alloc (.cells #[x0, x1] t2)).alloc (.cells #[.slice none 0 0, .slice none 0 0, .int .i64 0, .int .i64 0, .int .i64 0] t3)) w.heap.size a0 a1 ∧
    Box2 (((w.alloc (.cells #[a0, a1] t1)).alloc (.cells #[x0, x1] t2)).alloc (.cells #[.slice none 0 0, .slice none 0 0, .int .i64 0, .int .i64 0, .int .i64 0] t3)) (w.heap.size + 1) x0 x1 ∧
    Box5 (((w.alloc (.cells #[a0, a1] t1)).alloc (.cells #[x0, x1] t2)).alloc (.cells #[.slice none 0 0, .slice none 0 0, .int .i64 0, .int .i64 0, .int .i64 0] t3)) (w.heap.size + 1 + 1) (.slice none 0 0) (.slice none 0 0) (.int .i64 0) (.int .i64 0) (.int .i64 0) ∧
    Below w.heap.size w (((w.alloc (.cells #[a0, a1] t1)).alloc (.cells #[x0, x1] t2)).alloc (.cells #[.slice none 0 0, .slice none 0 0, .int .i64 0, .int .i64 0, .int .i64 0] t3)) ∧
    (((w.alloc (.cells #[a0, a1] t1)).alloc (.cells #[x0, x1] t2)).alloc (.cells #[.slice none 0 0, .slice none 0 0, .int .i64 0, .int .i64 0, .int .i64 0] t3)).heap.size = w.heap.size + 3 := by
  refine ⟨((Box2.new w a0 a1 t1).below (below_alloc _ _)).below (below_alloc _ _), ?_, ?_, below_next (below_next (below_alloc _ _) (below_alloc _ _)) (below_alloc _ _), by simp⟩
  · have := (Box2.new (w.alloc (.cells #[a0, a1] t1)) x0 x1 t2).below (below_alloc _ (.cells #[.slice none 0 0, .slice none 0 0, .int .i64 0, .int .i64 0, .int .i64 0] t3))
    rw [World.size_alloc] at this
    exact this
  · have := Box5.new ((w.alloc (.cells #[a0, a1] t1)).alloc (.cells #[x0, x1] t2)) (.slice none 0 0) (.slice none 0 0) (.int .i64 0) (.int .i64 0) (.int .i64 0) t3
    rw [World.size_alloc, World.size_alloc] at this
    exact this

/-- An answer is laid into the variable of the result. -/
theorem out_ret {w wr : World} {lo hi R : Nat} {s0 s1 u2 u3 u4 : Value} {p : PoolD} (ho : PoolOwn wr lo hi s0 s1 p) (hR1 : R < lo) (hlo : w.heap.size ≤ R) (hhi : hi ≤ wr.heap.size) (hb : Below w.heap.size w wr) :
    PoolOwn (put5 wr R s0 s1 u2 u3 u4) w.heap.size (put5 wr R s0 s1 u2 u3 u4).heap.size s0 s1 p ∧ Below w.heap.size w (put5 wr R s0 s1 u2 u3 u4) := by
  have t := Turned.put5 wr R s0 s1 u2 u3 u4
  have hz := t.size
  exact ⟨(ho.turned t (fun k hk => by omega)).wide (by omega) (by omega), hb.trans (t.below (by have := hb.size; omega) (fun k hk => by omega))⟩
theorem none_ret {w wr : World} {R : Nat} {u2 u3 u4 : Value} (hlo : w.heap.size ≤ R) (hb : Below w.heap.size w wr) :
    PoolOwn (put5 wr R (.slice none 0 0) (.slice none 0 0) u2 u3 u4) w.heap.size (put5 wr R (.slice none 0 0) (.slice none 0 0) u2 u3 u4).heap.size (.slice none 0 0) (.slice none 0 0) (newP 0) ∧ Below w.heap.size w (put5 wr R (.slice none 0 0) (.slice none 0 0) u2 u3 u4) := by
  have t := Turned.put5 wr R (.slice none 0 0) (.slice none 0 0) u2 u3 u4
  exact ⟨none_own, hb.trans (t.below (by have := hb.size; omega) (fun k hk => by omega))⟩

theorem grown_of_turned {b : Nat} {w w' : World} (t : Turned (fun k => k = b) w w') : w.grownBy w' (some b) := ⟨t.os, t.tape, t.output, t.size, fun k hk hne => t.block k hk (fun e => hne (by rw [e]))⟩

theorem news1 (w : World) (x : Value) (t : TypeId) : ∀ j u, [x][j]? = some u → (w.alloc (.cells #[x] t)).cell? ((⟨w.heap.size, 0, none⟩ : Addr).add j) = some u := by
  intro j u hj
  match j, hj with
  | 0, hj => simp at hj; subst hj; simp [Addr.add]
  | (j + 1), hj => simp at hj
theorem one1 (x : Int) : ∀ u ∈ [Value.int .i64 x], u.oneCell' = true := by
  intro u hu
  simp only [List.mem_cons, List.not_mem_nil, or_false] at hu
  rw [hu]; rfl

set_option maxRecDepth 20000 in
set_option maxHeartbeats 2000000 in
theorem specPoolHold_any (v0 v1 : Value) (lo hi : Nat) (p : PoolD) (xs xb : Int) (w : World) (h1 : PoolAt w lo hi v0 v1 p) (hn : poolN p ≤ 1048576) :
    Calls Try.prog 16 #[.agg #[v0, v1], .agg #[.int .i64 xs, .int .i64 xb]] w (NewOut (holdP p xs xb) w) := by
  have Hp := hide h1
  obtain ⟨a, c, a', c', rfl, rfl⟩ := h1.form
  have Hn := hide hn
  have hm2 : p.hn ≤ 1048576 := by unfold poolN at hn; omega
  have hst := start3 w (.slice a p.n c) (.slice a' p.hn c') (.int .i64 xs) (.int .i64 xb) 26 33 35
  obtain ⟨i0, hi0, hzz⟩ := Option.map_eq_some_iff.1 infoInt64
  simp only [Prod.mk.injEq] at hzz
  have HI := hide (And.intro hi0 hzz)
  clear h1 hn hi0 hzz
  go_enter Try.func16, Try.ntmps16
  go_wp2_with fail
  generalize ((w.alloc (.cells #[.slice a p.n c, .slice a' p.hn c'] 26)).alloc (.cells #[.int .i64 xs, .int .i64 xb] 33)).alloc (.cells #[.slice none 0 0, .slice none 0 0, .int .i64 0, .int .i64 0, .int .i64 0] 35) = W at hst ⊢
  obtain ⟨hB, hX, hR, hba, hz⟩ := hst
  refine (specPoolRight_any _ _ lo hi p _ (Hp.out.below hba)).mono ?_
  rintro e w1 ⟨⟨t, rfl, ht⟩, hb1⟩
  have HB1 := hide (hB.below hb1)
  have HX1 := hide (hX.below hb1)
  have HR1 := hide (hR.below hb1)
  have hB1 := below_next hba hb1
  have hz1 : w.heap.size + 3 ≤ w1.heap.size := by have := hb1.size; omega
  clear hB hX hR hba hb1 hz
  by_cases hRt : Right p
  · have HRt := hide hRt
    obtain rfl : t = true := ht.2 hRt
    clear ht hRt
    obtain ⟨⟨x0, x1⟩, ⟨x2, x3⟩⟩ := HB1.out
    obtain ⟨⟨y0, y1⟩, ⟨y2, y3⟩⟩ := HX1.out
    go_wp2_with fail
    refine (l01Points_any _ _ lo hi p xs xb _ (Hp.out.below hB1)).mono ?_
    rintro e w2 ⟨⟨t, rfl, ht⟩, hb2⟩
    have HB2 := hide (HB1.out.below hb2)
    have HX2 := hide (HX1.out.below hb2)
    have HR2 := hide (HR1.out.below hb2)
    have hB2 := below_next hB1 hb2
    have hz2 : w.heap.size + 3 ≤ w2.heap.size := by have := hb2.size; omega
    clear hb2 hB1 HB1 HX1 HR1 hz1 x0 x1 x2 x3 y0 y1 y2 y3
    by_cases hP : Points p xs xb
    · have HP := hide hP
      obtain rfl : t = true := ht.2 hP
      clear ht hP
      obtain ⟨⟨x0, x1⟩, ⟨x2, x3⟩⟩ := HB2.out
      obtain ⟨⟨y0, y1⟩, ⟨y2, y3⟩⟩ := HX2.out
      go_wp2_with fail
      refine (l01Has_any _ p.hn lo hi p.h _ _ (Hp.out.2.below hB2)).mono ?_
      rintro e w3 ⟨⟨t, rfl, ht⟩, rfl⟩
      by_cases hH : Has p.hn p.h xs
      · have HH := hide hH
        obtain rfl : t = true := ht.2 hH
        clear ht hH
        obtain ⟨⟨u0, u1⟩, ⟨u2, u3⟩, ⟨u4, u5⟩, ⟨u6, u7⟩, ⟨u8, u9⟩⟩ := HR2.out
        go_wp2
        have HR6 := HR2.out.put (.slice none 0 0) (.slice none 0 0) (.int .i64 0) (.int .i64 0) (.int .i64 4)
        have hpr := none_ret (R := w.heap.size + 1 + 1) (u2 := .int .i64 0) (u3 := .int .i64 0) (u4 := .int .i64 4) (by omega) hB2
        rw [hold_none HRt.out (fun h => h.2 HH.out)]
        exact bodyPost_ret (v := .agg #[.slice none 0 0, .slice none 0 0, .int .i64 0, .int .i64 0, .int .i64 4]) (by simp [results, Try.results16, go_sem, HR6.1.1, HR6.2.1.1, HR6.2.2.1.1, HR6.2.2.2.1.1, HR6.2.2.2.2.1]) rfl ⟨_, _, rfl, hpr.1, hpr.2⟩
      · have HH := hide hH
        obtain rfl : t = false := bool_no ht hH
        clear ht hH
        go_wp2_with fail
        refine (l01Copy_parts _ _ lo hi p _ (Hp.out.below hB2) Hn.out).mono ?_
        rintro e w4 ⟨s0, s1, M, bs, kb, kv, rfl, g1, g2, g3, g4, g5, g6, g7, g8, _⟩
        obtain ⟨a4, c4, rfl⟩ : ∃ a4 c4, s0 = .slice a4 p.n c4 := by obtain ⟨_, a4, c4, h, _⟩ := g1; exact ⟨a4, c4, h⟩
        obtain ⟨a5, c5, rfl, _⟩ := owns_form g4
        have HG := hide (And.intro g1 (And.intro g2 (And.intro g3 (And.intro g4 (And.intro g5 (And.intro g6 g7))))))
        have HX4 := hide (HX2.out.below g8)
        have HR4 := hide (HR2.out.below g8)
        have hB4 := below_next hB2 g8
        have hz4 := g8.size
        clear g1 g2 g3 g4 g5 g6 g7 g8 HB2 HX2 HR2 hB2 x0 x1 x2 x3 y0 y1 y2 y3
        have ha1 := below_alloc w4 (.cells #[.slice a4 p.n c4, .slice a5 p.hn c5] 26)
        have ha2 := below_next ha1 (below_alloc _ (.cells #[.int .i64 xs] 2))
        obtain ⟨⟨y0, y1⟩, _⟩ := HX4.out.below ha1
        go_wp2_with (first
          | (at_builtin; refine wpList_append_lies _ rfl _ _ 24 rfl w3.heap.size 2 i0 (.int .i64 0) 1 8 (by kernel_rfl) HI.out.1 HI.out.2.1 HI.out.2.2.1 HI.out.2.2.2 rfl (by decide) (.slice a5 p.hn c5) p.hn (ic p.h p.hn) rfl ?c0 ⟨w4.heap.size + 1, 0, none⟩ 1 1 [.int .i64 xs] rfl rfl ?c1 (one1 _) (by decide) ?c3 ?c4 ?c5 _ rfl ?_))
        case c0 => exact (HG.out.2.2.2.1.alloc _).alloc _
        case c1 =>
          have := news1 (w4.alloc (.cells #[.slice a4 p.n c4, .slice a5 p.hn c5] 26)) (.int .i64 xs) 2
          rw [World.size_alloc] at this
          exact this
        case c3 => unfold maxLen; omega
        case c4 => omega
        case c5 => simp; omega
        intro g cap w5 hown5 hgrow5 hat5 hlt5
        obtain ⟨g1, g2, g3, g4, g5, g6, g7⟩ := HG.out
        have t5 := turned_of_grown hgrow5
        have hzs : w4.heap.size + 2 ≤ w5.heap.size := by have := t5.size; rw [World.size_alloc, World.size_alloc] at this; omega
        have hO5 : Box2 w5 w4.heap.size (.slice a4 p.n c4) (.slice a5 p.hn c5) := ((Box2.new w4 _ _ _).below (below_alloc _ _)).turned t5 (fun e => by have := g5 _ e; omega)
        have HR5 := hide ((HR4.out.below ha2).turned t5 (fun e => by have := g5 _ e; omega))
        have hB5 : Below w.heap.size w w5 := (below_next hB4 ha2).trans (t5.below (by have := ha2.size; omega) (fun k e => by have := g5 _ e; omega))
        have g1' : SlotsOwn w5 bs kb kv (.slice a4 p.n c4) p.n p.s := (g1.below ha2).turned t5 (fun h0 e => by have := g5 _ e; have := g3 bs (Or.inl ⟨h0, rfl⟩); omega) (fun i hi h0 e => by have := g5 _ e; have := g3 _ (Or.inr ⟨i, hi, h0, rfl⟩); omega)
        have hg5 : g ≠ w4.heap.size ∧ w3.heap.size ≤ g ∧ (g < M ∨ w4.heap.size < g) := by
          rcases hat5 with h | h
          · have := g5 _ h; omega
          · have : g = w4.heap.size + 1 + 1 := by simpa using h
            omega
        have t6 := Turned.put w5 w4.heap.size 1 (.slice (some ⟨g, 0, none⟩) (p.hn + 1) cap)
        have g4' : (w5.setCell ⟨w4.heap.size, 1, none⟩ (.slice (some ⟨g, 0, none⟩) (p.hn + 1) cap)).ownsRow w3.heap.size 2 1 (.slice (some ⟨g, 0, none⟩) (p.hn + 1) cap) (p.hn + 1) (ic (holdD p xs).h (p.hn + 1)) := by
          rw [ic_hold]
          exact hown5.kept (grown_of_turned t6) (Or.inr (by simp [Value.ownBlock]; exact hg5.1))
        have g1'' := g1'.turned t6 (fun h0 e => by have := g3 bs (Or.inl ⟨h0, rfl⟩); omega) (fun i hi h0 e => by have := g3 _ (Or.inr ⟨i, hi, h0, rfl⟩); omega)
        have hz6 : w5.heap.size = (w5.setCell ⟨w4.heap.size, 1, none⟩ (.slice (some ⟨g, 0, none⟩) (p.hn + 1) cap)).heap.size := by rw [World.size_setCell]
        have Hpo := hide (parts_own (p := holdD p xs) (B := w3.heap.size) (M := M) g1'' g2 (fun k hk => by have := g3 k hk; omega) (by show p.hn + 1 ≤ maxLen; unfold maxLen; omega) g4' (fun k e => by
          have e' : g = k := by simpa [Value.ownBlock] using e
          subst e'
          refine ⟨hg5.2.1, ?_⟩
          rcases hg5.2.2 with h | h
          · exact Or.inl h
          · exact Or.inr (Or.inr ⟨by omega, fun hx => by have := g3 _ hx; omega⟩)) g6 (fun e => absurd e (Nat.succ_ne_zero _)))
        have HO5 : Hid (Box2 (w5.setCell ⟨w4.heap.size, 1, none⟩ (.slice (some ⟨g, 0, none⟩) (p.hn + 1) cap)) w4.heap.size (.slice a4 p.n c4) (.slice (some ⟨g, 0, none⟩) (p.hn + 1) cap)) := ⟨hO5.1.other _ (Or.inr (by omega)), hO5.2.set _⟩
        have HR6 := hide (HR5.out.turned t6 (by omega))
        have hB6 := hB5.trans (t6.below (by have := hB5.size; omega) (fun k e => by omega))
        obtain ⟨⟨x0, x1⟩, ⟨x2, x3⟩⟩ := hO5
        clear g1 g2 g3 g4 g5 g6 g7 t5 t6 g1' g4' g1'' hown5 hgrow5 hat5 hlt5 hg5 HG HR5 HR4 HX4 hB4 hB5 y0 y1 ha1 ha2
        obtain ⟨⟨u0, u1⟩, ⟨u2, u3⟩, ⟨u4, u5⟩, ⟨u6, u7⟩, ⟨u8, u9⟩⟩ := HR6.out
        obtain ⟨⟨y0, y1⟩, ⟨y2, y3⟩⟩ := HO5.out
        go_wp2
        have HR7 := HR6.out.put (.slice a4 p.n c4) (.slice (some ⟨g, 0, none⟩) (p.hn + 1) cap) (.int .i64 0) (.int .i64 0) (.int .i64 0)
        have hpr := out_ret (R := w.heap.size + 1 + 1) (u2 := .int .i64 0) (u3 := .int .i64 0) (u4 := .int .i64 0) Hpo.out (by omega) (by omega) (Nat.le_refl _) hB6
        rw [hold_ok HRt.out HP.out HH.out]
        exact bodyPost_ret (v := .agg #[.slice a4 p.n c4, .slice (some ⟨g, 0, none⟩) (p.hn + 1) cap, .int .i64 0, .int .i64 0, .int .i64 0]) (by simp [results, Try.results16, go_sem, HR7.1.1, HR7.2.1.1, HR7.2.2.1.1, HR7.2.2.2.1.1, HR7.2.2.2.2.1]) rfl ⟨_, _, rfl, hpr.1, hpr.2⟩
    · have HP := hide hP
      obtain rfl : t = false := bool_no ht hP
      clear ht hP
      obtain ⟨⟨u0, u1⟩, ⟨u2, u3⟩, ⟨u4, u5⟩, ⟨u6, u7⟩, ⟨u8, u9⟩⟩ := HR2.out
      go_wp2
      have HR6 := HR2.out.put (.slice none 0 0) (.slice none 0 0) (.int .i64 0) (.int .i64 0) (.int .i64 4)
      have hpr := none_ret (R := w.heap.size + 1 + 1) (u2 := .int .i64 0) (u3 := .int .i64 0) (u4 := .int .i64 4) (by omega) hB2
      rw [hold_none HRt.out (fun h => HP.out h.1)]
      exact bodyPost_ret (v := .agg #[.slice none 0 0, .slice none 0 0, .int .i64 0, .int .i64 0, .int .i64 4]) (by simp [results, Try.results16, go_sem, HR6.1.1, HR6.2.1.1, HR6.2.2.1.1, HR6.2.2.2.1.1, HR6.2.2.2.2.1]) rfl ⟨_, _, rfl, hpr.1, hpr.2⟩
  · have HRt := hide hRt
    obtain rfl : t = false := bool_no ht hRt
    clear ht hRt
    obtain ⟨⟨u0, u1⟩, ⟨u2, u3⟩, ⟨u4, u5⟩, ⟨u6, u7⟩, ⟨u8, u9⟩⟩ := HR1.out
    go_wp2
    have HR6 := HR1.out.put (.slice none 0 0) (.slice none 0 0) (.int .i64 0) (.int .i64 0) (.int .i64 1)
    have hpr := none_ret (R := w.heap.size + 1 + 1) (u2 := .int .i64 0) (u3 := .int .i64 0) (u4 := .int .i64 1) (by omega) hB1
    rw [hold_form HRt.out]
    exact bodyPost_ret (v := .agg #[.slice none 0 0, .slice none 0 0, .int .i64 0, .int .i64 0, .int .i64 1]) (by simp [results, Try.results16, go_sem, HR6.1.1, HR6.2.1.1, HR6.2.2.1.1, HR6.2.2.2.1.1, HR6.2.2.2.2.1]) rfl ⟨_, _, rfl, hpr.1, hpr.2⟩

end Go.Proofs.Ytjbcjlednedboaa
