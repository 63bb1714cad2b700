/- What impl.withSlot leaves. -/
import Derived.Test.YtjbcjlednedboaaTakeA
namespace Go.Proofs.Ytjbcjlednedboaa
open Go.RowKit
set_option linter.unusedVariables false

theorem IntsAt.wide {w : World} {lo hi lo' hi' : Nat} {v : Value} {n : Nat} {f : Nat → Int} (h : IntsAt w lo hi v n f) (h1 : lo' ≤ lo) (h2 : hi ≤ hi') : IntsAt w lo' hi' v n f := by
  obtain ⟨h0, a, cap, hv, hcc, hc⟩ := h
  refine ⟨h0, a, cap, hv, hcc, fun hn => ?_⟩
  obtain ⟨b, off, ha, g1, g2, g3⟩ := hc hn
  exact ⟨b, off, ha, by omega, by omega, g3⟩
theorem PtrsAt.wide {w : World} {lo hi lo' hi' : Nat} {v : Value} {n : Nat} {f g : Nat → Int} (h : PtrsAt w lo hi v n f g) (h1 : lo' ≤ lo) (h2 : hi ≤ hi') : PtrsAt w lo' hi' v n f g := by
  obtain ⟨h0, a, cap, hv, hcc, hc⟩ := h
  refine ⟨h0, a, cap, hv, hcc, fun hn => ?_⟩
  obtain ⟨b, off, ha, g1, g2, g3⟩ := hc hn
  exact ⟨b, off, ha, by omega, by omega, g3⟩
theorem PtrsAt.all {w : World} {lo hi : Nat} {v : Value} {n : Nat} {f g : Nat → Int} (h : PtrsAt w lo hi v n f g) : PtrsAt w 0 w.heap.size v n f g := by
  obtain ⟨h0, a, cap, hv, hcc, hc⟩ := h
  refine ⟨h0, a, cap, hv, hcc, fun hn => ?_⟩
  obtain ⟨b, off, ha, g1, g2, g3⟩ := hc hn
  exact ⟨b, off, ha, Nat.zero_le _, lt_of_cell (g3 0 hn).1, g3⟩
theorem SlotAt.all {w : World} {lo hi : Nat} {v0 v1 v2 : Value} {s : SlotD} (h : SlotAt w lo hi v0 v1 v2 s) : SlotAt w 0 w.heap.size v0 v1 v2 s := ⟨h.1, h.2.1.all, h.2.2⟩
theorem IntsAt.all {w : World} {lo hi : Nat} {v : Value} {n : Nat} {f : Nat → Int} (h : IntsAt w lo hi v n f) : IntsAt w 0 w.heap.size v n f := by
  obtain ⟨h0, a, cap, hv, hcc, hc⟩ := h
  refine ⟨h0, a, cap, hv, hcc, fun hn => ?_⟩
  obtain ⟨b, off, ha, g1, g2, g3⟩ := hc hn
  exact ⟨b, off, ha, Nat.zero_le _, lt_of_cell (g3 0 hn), g3⟩

theorem sc_congr2 {f g : Nat → SlotD} {kv kv' : Nat → Value} {k : Nat} (h : ∀ i, i < k → f i = g i ∧ kv i = kv' i) : sc f kv k = sc g kv' k := by
  induction k with
  | zero => rfl
  | succ k ih =>
    unfold sc
    rw [ih (fun i hi => h i (by omega)), (h k (by omega)).1, (h k (by omega)).2]
theorem sc_append (f : Nat → SlotD) (kv : Nat → Value) (k m : Nat) : sc f kv (k + m) = sc f kv k ++ sc (fun i => f (k + i)) (fun i => kv (k + i)) m := by
  induction m with
  | zero => simp [sc]
  | succ m ih =>
    show sc f kv (k + m) ++ [.int .i64 (f (k + m)).birth, kv (k + m), .string (f (k + m)).data] = sc f kv k ++ (sc (fun i => f (k + i)) (fun i => kv (k + i)) m ++ [.int .i64 (f (k + m)).birth, kv (k + m), .string (f (k + m)).data])
    rw [ih, List.append_assoc]
theorem sc_prefix {f : Nat → SlotD} {kv : Nat → Value} {k n j : Nat} {u : Value} (h : k ≤ n) (hj : (sc f kv k)[j]? = some u) : (sc f kv n)[j]? = some u := by
  obtain ⟨m, rfl⟩ := Nat.exists_eq_add_of_le h
  have hlt := (List.getElem?_eq_some_iff.1 hj).1
  rw [sc_append, List.getElem?_append_left hlt]
  exact hj
theorem sc_suffix {f : Nat → SlotD} {kv : Nat → Value} {k m j : Nat} {u : Value} (hj : (sc (fun i => f (k + i)) (fun i => kv (k + i)) m)[j]? = some u) : (sc f kv (k + m))[k * 3 + j]? = some u := by
  rw [sc_append, List.getElem?_append_right (by rw [sc_len]; omega), sc_len]
  rw [show k * 3 + j - k * 3 = j by omega]
  exact hj

theorem slotsN_set (f : Nat → SlotD) (i : Nat) (s : SlotD) : ∀ n, slotsN (fun j => if j = i then s else f j) n ≤ slotsN f n + (if i < n then slotN s else 0)
  | 0 => Nat.zero_le _
  | n + 1 => by
    have ih := slotsN_set f i s n
    show slotsN (fun j => if j = i then s else f j) n + slotN (if n = i then s else f n) ≤ slotsN f n + slotN (f n) + _
    by_cases e : n = i
    · rw [if_pos e, if_pos (by omega)]
      rw [if_neg (by omega)] at ih
      omega
    · rw [if_neg e]
      by_cases e2 : i < n
      · rw [if_pos e2] at ih
        rw [if_pos (by omega)]
        omega
      · rw [if_neg e2] at ih
        rw [if_neg (by omega)]
        omega
theorem set_small (p : PoolD) (i : Nat) (s : SlotD) : poolN (setS p i s) ≤ poolN p + slotN s := by
  have h := slotsN_set p.s i s p.n
  have h2 : (if i < p.n then slotN s else 0) ≤ slotN s := by split <;> omega
  show p.n + slotsN (fun j => if j = i then s else p.s j) p.n + p.hn ≤ p.n + slotsN p.s p.n + p.hn + slotN s
  omega

theorem sc_set {p : PoolD} {s : SlotD} {cv : Nat → Value} {kv : Value} {at' : Nat} (h : at' < p.n) :
    sc p.s cv at' ++ [.int .i64 s.birth, kv, .string s.data] ++ sc (fun i => p.s (at' + 1 + i)) (fun i => cv (at' + 1 + i)) (p.n - (at' + 1)) = sc (setS p at' s).s (fun j => if j = at' then kv else cv j) p.n := by
  have e := sc_append (setS p at' s).s (fun j => if j = at' then kv else cv j) (at' + 1) (p.n - (at' + 1))
  rw [show at' + 1 + (p.n - (at' + 1)) = p.n by omega] at e
  rw [e]
  congr 1
  · show _ = sc (setS p at' s).s (fun j => if j = at' then kv else cv j) at' ++ [.int .i64 ((setS p at' s).s at').birth, (if at' = at' then kv else cv at'), .string ((setS p at' s).s at').data]
    rw [show (setS p at' s).s at' = s from if_pos rfl, if_pos rfl]
    congr 1
    exact sc_congr2 fun i hi => ⟨(if_neg (by omega : ¬ i = at')).symm, (if_neg (by omega : ¬ i = at')).symm⟩
  · exact sc_congr2 fun i hi => ⟨(if_neg (by omega : ¬ at' + 1 + i = at')).symm, (if_neg (by omega : ¬ at' + 1 + i = at')).symm⟩

theorem row_at {w : World} {base e n : Nat} {f : Nat → SlotD} {cv : Nat → Value} {v : Value} (hm : n ≤ maxLen) (h : w.ownsRow base e 3 v n (sc f cv n)) (hs : ∀ i, i < n → SlotAt w 0 w.heap.size (.int .i64 (f i).birth) (cv i) (.string (f i).data) (f i)) : SlotsAt w 0 w.heap.size v n f := by
  by_cases h0 : 0 < n
  · obtain ⟨g, cap, rfl, hcp, hb, hlt, hcell⟩ := owns_cell h h0
    refine ⟨hm, _, cap, rfl, hcp, fun _ => ⟨g, 0, rfl, Nat.zero_le _, hlt, fun i hi => ⟨_, _, _, ?_, ?_, ?_, hs i hi⟩⟩⟩
    · have := (hcell (i * 3 + 0) _ (sc_at f cv n i 0 hi (by omega))).1; simpa using this
    · have := (hcell (i * 3 + 1) _ (sc_at f cv n i 1 hi (by omega))).1; simpa using this
    · have := (hcell (i * 3 + 2) _ (sc_at f cv n i 2 hi (by omega))).1; simpa using this
  · obtain ⟨a, cap, rfl, hcp⟩ := owns_form h
    exact ⟨hm, a, cap, rfl, hcp, fun h => absurd h h0⟩

set_option maxRecDepth 20000 in
set_option maxHeartbeats 2000000 in
theorem withSlot_any (v0 v1 kv : Value) (lo hi lo' hi' at' : Nat) (p : PoolD) (s : SlotD) (w : World) (h1 : PoolAt w lo hi v0 v1 p) (h2 : SlotAt w lo' hi' (.int .i64 s.birth) kv (.string s.data) s) (hat : at' < p.n) (hn : poolN p + slotN s ≤ 1048576) :
    Calls Try.prog 37 #[.agg #[v0, v1], .int .i64 (at' : Int), .agg #[.int .i64 s.birth, kv, .string s.data]] w (NewPool (setS p at' s) w) := by
  have Hp := hide h1
  have Hs := hide h2
  have Hn := hide hn
  have hm1 : p.n ≤ 1048576 := by unfold poolN at hn; omega
  have hm2 : p.hn ≤ 1048576 := by unfold poolN at hn; omega
  obtain ⟨a, c, a', c', rfl, rfl⟩ := h1.form
  obtain ⟨ka, kc, rfl⟩ := h2.form
  have mc : p.n ≤ c := by obtain ⟨⟨_, _, _, e, h, _⟩, _⟩ := h1; simp only [Value.slice.injEq, true_and] at e; omega
  obtain ⟨cv, hcv, hsrc⟩ := h1.1.values
  obtain ⟨b, off, rfl, hb1, hb2, hcell⟩ := hsrc (by omega)
  have Hcv := hide hcv
  have Hcell := hide hcell
  have hbw : b < w.heap.size := by
    have := hcell 0 _ (by have := sc_at p.s cv p.n 0 0 (by omega) (by omega); simpa using this)
    exact lt_of_cell this
  obtain ⟨i1, hi1, hzz1⟩ := Option.map_eq_some_iff.1 infoSlotT
  simp only [Prod.mk.injEq] at hzz1
  have HI1 := hide (And.intro hi1 hzz1)
  clear h1 h2 hn hcv hsrc hcell hi1 hzz1 hb1 hb2
  have ha1 := below_alloc w (.cells #[.slice (some ⟨b, off, none⟩) p.n c, .slice a' p.hn c'] 26)
  have ha2 := below_next ha1 (below_alloc _ (.cells #[.int .i64 s.birth, .slice ka s.kn kc, .string s.data] 29))
  have hba := below_next ha2 (below_alloc _ (.cells #[.slice none 0 0, .slice none 0 0] 26))
  have HB := hide (((Box2.new w (.slice (some ⟨b, off, none⟩) p.n c) (.slice a' p.hn c') 26).below (below_alloc _ (.cells #[.int .i64 s.birth, .slice ka s.kn kc, .string s.data] 29))).below (below_alloc _ (.cells #[.slice none 0 0, .slice none 0 0] 26)))
  have hs3 := (Box3.new (w.alloc (.cells #[.slice (some ⟨b, off, none⟩) p.n c, .slice a' p.hn c'] 26)) (.int .i64 s.birth) (.slice ka s.kn kc) (.string s.data) 29).below (below_alloc _ (.cells #[.slice none 0 0, .slice none 0 0] 26))
  rw [World.size_alloc] at hs3
  have HS := hide hs3
  have hr3 := Box2.new ((w.alloc (.cells #[.slice (some ⟨b, off, none⟩) p.n c, .slice a' p.hn c'] 26)).alloc (.cells #[.int .i64 s.birth, .slice ka s.kn kc, .string s.data] 29)) (.slice none 0 0) (.slice none 0 0) 26
  rw [World.size_alloc, World.size_alloc] at hr3
  have HR := hide hr3
  clear ha1 ha2 hs3 hr3
  go_enter Try.func37, Try.ntmps37
  go_wp2_with fail
  generalize hW : ((w.alloc (.cells #[.slice (some ⟨b, off, none⟩) p.n c, .slice a' p.hn c'] 26)).alloc (.cells #[.int .i64 s.birth, .slice ka s.kn kc, .string s.data] 29)).alloc (.cells #[.slice none 0 0, .slice none 0 0] 26) = W at HB HS HR hba ⊢
  have hz : W.heap.size = w.heap.size + 3 := by rw [← hW, World.size_alloc, World.size_alloc, World.size_alloc]
  clear hW
  obtain ⟨⟨x0, x1⟩, ⟨x2, x3⟩⟩ := HB.out
  obtain ⟨⟨y0, y1⟩, ⟨y2, y3⟩, ⟨y4, y5⟩⟩ := HS.out
  have hat1 : (at' : Int) ≤ (c : Int) := by omega
  have n0 : W.heap.size ≠ w.heap.size := by omega
  have n1 : W.heap.size ≠ w.heap.size + 1 := by omega
  go_region_held3 (fun w' => w'.cell? ⟨w.heap.size, 0, none⟩ = some (.slice (some ⟨b, off, none⟩) p.n c) ∧ w'.cell? ⟨w.heap.size + 1, 0, none⟩ = some (.int .i64 s.birth) ∧ w'.cell? ⟨w.heap.size + 1, 1, none⟩ = some (.slice ka s.kn kc) ∧ w'.cell? ⟨w.heap.size + 1, 2, none⟩ = some (.string s.data)) (go_keep)
    (first
      | (refine step_append_grows rfl (.tmp 12) (.tmp 14) 23 rfl 29 i1 (.agg #[.int .i64 0, .slice none 0 0, .string ⟨#[]⟩]) 3 48 (by kernel_rfl) HI1.out.1 HI1.out.2.1 HI1.out.2.2.1 HI1.out.2.2.2 rfl (by decide) (some ⟨b, off, none⟩) at' at' (sc p.s cv at') (by simp [Act.eval]) (fun e => by cases e) (sc_len _ _ _) ?_ ⟨W.heap.size, 0, none⟩ 1 1 [.int .i64 s.birth, .slice ka s.kn kc, .string s.data] (by simp [Act.eval]) rfl ?_ (one3 _ _ _ _ _) (by omega) (by unfold maxLen; omega) (by omega) ?_
         exact fun b1 e j u hj => by
           simp only [Option.some.injEq] at e
           subst e
           rw [add_lit]
           exact ((below_next hba (below_alloc W _)).drew.cell (p := ⟨b, off + j, none⟩) hbw).trans (Hcell.out j u (sc_prefix (by omega) hj))
         exact news3 W _ _ _ _
         intro v4 w4 hown4 hgrow4
         obtain ⟨g4, c4, rfl, _⟩ := hown4.form (by omega)
         have hb4 : Below W.heap.size W w4 := below_next (below_alloc W _) (below_undrew (below_of_grown hgrow4))
         have Hrow4 := hide (own_base (B := W.heap.size) hown4 (by simp))
         obtain ⟨⟨p0, p1⟩, ⟨p2, p3⟩⟩ := HB.out.below hb4
         obtain ⟨⟨p4, p5⟩, ⟨p6, p7⟩, ⟨p8, p9⟩⟩ := HS.out.below hb4
         clear hown4 hgrow4))
  have hB4 := below_next hba hb4
  have hat2 : (at' : Int) + 1 ≤ (p.n : Int) := by omega
  have hz4 := hb4.size
  clear x0 x1 x2 x3 y0 y1 y2 y3 y4 y5 p4 p5 p6 p7 p8 p9 HS
  have HnB : Hid (∀ j u, (sc (fun i => p.s (at' + 1 + i)) (fun i => cv (at' + 1 + i)) (p.n - (at' + 1)))[j]? = some u → w4.cell? ((⟨b, off + (at' + 1) * 3, none⟩ : Addr).add j) = some u) := fun j u hj => by
    have e := sc_suffix (f := p.s) (kv := cv) hj
    rw [show at' + 1 + (p.n - (at' + 1)) = p.n by omega] at e
    rw [add_lit, show off + (at' + 1) * 3 + j = off + ((at' + 1) * 3 + j) by omega]
    exact (hB4.cell (p := ⟨b, off + ((at' + 1) * 3 + j), none⟩) hbw).trans (Hcell.out _ u e)
  have HnA : Hid (c = at' + 1 → ∀ j u, (sc (fun i => p.s (at' + 1 + i)) (fun i => cv (at' + 1 + i)) (p.n - (at' + 1)))[j]? = some u → w4.cell? ((⟨b, off, none⟩ : Addr).add j) = some u) := fun hce j u hj => by
    rw [show p.n - (at' + 1) = 0 by omega] at hj
    simp [sc] at hj
  have Hone : Hid (∀ u ∈ sc (fun i => p.s (at' + 1 + i)) (fun i => cv (at' + 1 + i)) (p.n - (at' + 1)), u.oneCell' = true) := sc_one _ _ _ (fun i hi => by obtain ⟨ka', kc', e⟩ := (Hcv.out (at' + 1 + i) (by omega)).form; rw [e]; rfl)
  go_wp2_with (first
    | (at_builtin; refine wpList_append_opt rfl _ _ 23 rfl W.heap.size 29 i1 (.agg #[.int .i64 0, .slice none 0 0, .string ⟨#[]⟩]) 3 48 (by kernel_rfl) HI1.out.1 HI1.out.2.1 HI1.out.2.2.1 HI1.out.2.2.2 rfl (by decide) (.slice (some ⟨g4, 0, none⟩) (at' + 1) c4) (at' + 1) _ rfl Hrow4.out _ (p.n - (at' + 1)) _ (sc (fun i => p.s (at' + 1 + i)) (fun i => cv (at' + 1 + i)) (p.n - (at' + 1))) rfl (sc_len _ _ _) Hone.out (by intro hm; exact ⟨b, off + (at' + 1) * 3, (by first | rw [if_neg (by omega)] | rfl | simp), fun j u hj => by have hq := HnB.out j u hj; rw [add_lit] at hq; exact hq⟩) ?c3 ?c4 ?c5 ?_))
  case c3 => unfold maxLen; omega
  case c4 => omega
  case c5 => omega
  all_goals
    intro v5 w5 hown5 hgrow5 _
    have hl := sc_set (s := s) (cv := cv) (kv := .slice ka s.kn kc) hat
    simp only [List.append_assoc, List.cons_append, List.nil_append] at hl hown5
    rw [show at' + 1 + (p.n - (at' + 1)) = p.n by omega, hl] at hown5
    clear hl
    obtain ⟨g5, c5, rfl, _⟩ := hown5.form (by omega)
    have hb5 : Below W.heap.size W w5 := hb4.grown hgrow5 hz4 (fun k hk => (Hrow4.out.lt k hk).1)
    have hB5 := below_next hba hb5
    have Hpa : Hid (PoolAt w5 0 w5.heap.size (.slice (some ⟨g5, 0, none⟩) p.n c5) (.slice a' p.hn c') (setS p at' s)) := by
      refine ⟨row_at (by show p.n ≤ maxLen; unfold maxLen; omega) hown5 (fun i hi => ?_), (Hp.out.2.below hB5).all⟩
      by_cases e : i = at'
      · subst e
        rw [show (setS p i s).s i = s from if_pos rfl]
        simp only [if_true]
        exact (Hs.out.below hB5).all
      · rw [show (setS p at' s).s i = p.s i from if_neg e]
        simp only [if_neg e]
        exact ((Hcv.out i hi).below hB5).all
    have HR5 := hide (HR.out.below hb5)
    have hz5 : w.heap.size + 3 ≤ w5.heap.size := by have := hb5.size; omega
    clear hown5 hgrow5 p0 p1 p2 p3
    obtain ⟨⟨p0, p1⟩, ⟨p2, p3⟩⟩ := HB.out.below hb5
    go_wp2_with fail
    refine (clonePool_any _ _ 0 w5.heap.size (setS p at' s) _ Hpa.out (by have := set_small p at' s; have := Hn.out; omega)).mono ?_
    rintro e w6 ⟨s0, s1, rfl, ho6, hb6⟩
    obtain ⟨a6, c6, a7, c7, rfl, rfl⟩ := ho6.form
    have HR6 := hide (HR5.out.below hb6)
    have Ho6 := hide ho6
    have hB6 := below_next hB5 hb6
    clear ho6 hb6 p0 p1 p2 p3
    obtain ⟨⟨u0, u1⟩, ⟨u2, u3⟩⟩ := HR6.out
    go_wp2
    have HR7 := HR6.out.put (.slice a6 (setS p at' s).n c6) (.slice a7 (setS p at' s).hn c7)
    have hpr := pool_ret (R := w.heap.size + 1 + 1) Ho6.out (by omega) (by omega) (Nat.le_refl _) hB6
    exact bodyPost_ret (v := .agg #[.slice a6 (setS p at' s).n c6, .slice a7 (setS p at' s).hn c7]) (by simp [results, Try.results37, go_sem, HR7.1.1, HR7.2.1]) rfl ⟨_, _, rfl, hpr.1, hpr.2⟩

end Go.Proofs.Ytjbcjlednedboaa
