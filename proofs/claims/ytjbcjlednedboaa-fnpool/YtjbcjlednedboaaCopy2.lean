/- New pools that hold the same: what impl.cloneSlots and impl.clonePool leave. -/
import Derived.Test.YtjbcjlednedboaaCopy
namespace Go.Proofs.Ytjbcjlednedboaa
open Go.RowKit
set_option linter.unusedVariables false

theorem sc_cells {w : World} {b off n : Nat} {f : Nat → SlotD} {cv : Nat → Value} (h : ∀ i, i < n → w.cell? ⟨b, off + i * 3, none⟩ = some (.int .i64 (f i).birth) ∧ w.cell? ⟨b, off + i * 3 + 1, none⟩ = some (cv i) ∧ w.cell? ⟨b, off + i * 3 + 2, none⟩ = some (.string (f i).data)) :
    ∀ j u, (sc f cv n)[j]? = some u → w.cell? ⟨b, off + j, none⟩ = some u := by
  intro j u hj
  have hlt : j < n * 3 := by
    have := (List.getElem?_eq_some_iff.1 hj).1
    rwa [sc_len] at this
  obtain ⟨c0, c1, c2⟩ := h (j / 3) (by omega)
  have e := sc_at f cv n (j / 3) (j % 3) (by omega) (by omega)
  rw [show j / 3 * 3 + j % 3 = j by omega, hj] at e
  rcases (by omega : j % 3 = 0 ∨ j % 3 = 1 ∨ j % 3 = 2) with hm | hm | hm
  · rw [hm] at e
    simp at e
    subst e
    rw [show off + j = off + j / 3 * 3 by omega]
    exact c0
  · rw [hm] at e
    simp at e
    subst e
    rw [show off + j = off + j / 3 * 3 + 1 by omega]
    exact c1
  · rw [hm] at e
    simp at e
    subst e
    rw [show off + j = off + j / 3 * 3 + 2 by omega]
    exact c2

theorem SlotsAt.values {w : World} {lo hi : Nat} {a : Option Addr} {n c : Nat} {f : Nat → SlotD} (h : SlotsAt w lo hi (.slice a n c) n f) :
    ∃ cv : Nat → Value, (∀ i, i < n → SlotAt w lo hi (.int .i64 (f i).birth) (cv i) (.string (f i).data) (f i)) ∧
      (0 < n → ∃ b off, a = some ⟨b, off, none⟩ ∧ lo ≤ b ∧ b < hi ∧ ∀ j u, (sc f cv n)[j]? = some u → w.cell? ⟨b, off + j, none⟩ = some u) := by
  obtain ⟨_, a0, c0, h0, _, g⟩ := h
  simp only [Value.slice.injEq, true_and] at h0
  obtain ⟨rfl, rfl⟩ := h0
  by_cases hn : 0 < n
  · obtain ⟨b, off, ha, hb1, hb2, hc⟩ := g hn
    have hex : ∀ i, ∃ x, i < n → (w.cell? ⟨b, off + i * 3, none⟩ = some (.int .i64 (f i).birth) ∧ w.cell? ⟨b, off + i * 3 + 1, none⟩ = some x ∧ w.cell? ⟨b, off + i * 3 + 2, none⟩ = some (.string (f i).data)) ∧ SlotAt w lo hi (.int .i64 (f i).birth) x (.string (f i).data) (f i) := fun i => by
      by_cases hi : i < n
      · obtain ⟨v0, v1, v2, q0, q1, q2, hs⟩ := hc i hi
        have hs' := hs
        obtain ⟨rfl, _, rfl, _⟩ := hs'
        exact ⟨v1, fun _ => ⟨⟨q0, q1, q2⟩, hs⟩⟩
      · exact ⟨.slice none 0 0, fun h => absurd h hi⟩
    obtain ⟨cv, hcv⟩ := Classical.axiomOfChoice hex
    exact ⟨cv, fun i hi => (hcv i hi).2, fun _ => ⟨b, off, ha, hb1, hb2, sc_cells fun i hi => (hcv i hi).1⟩⟩
  · exact ⟨fun _ => .slice none 0 0, fun i hi => absurd hi (by omega), fun h => absurd h hn⟩

theorem SlotAt.form {w : World} {lo hi : Nat} {v0 v1 v2 : Value} {s : SlotD} (h : SlotAt w lo hi v0 v1 v2 s) : ∃ ka kc, v1 = .slice ka s.kn kc := by
  obtain ⟨_, ⟨_, ka, kc, h, _⟩, _⟩ := h
  exact ⟨ka, kc, h⟩

/-- A row of n slots that was copied: the first k have Kids of their own, the others those of the row that was copied. -/
structure Half (wr : World) (bs n k : Nat) (f : Nat → SlotD) (kb : Nat → Nat) (kv cv : Nat → Value) : Prop where
  cells : ∀ j, j < n → Cell wr bs (j * 3) (.int .i64 (f j).birth) ∧ Cell wr bs (j * 3 + 1) (if j < k then kv j else cv j) ∧ Cell wr bs (j * 3 + 2) (.string (f j).data)
  kids : ∀ j, j < k → PtrsOwn wr (kb j) (kv j) (f j).kn (f j).ks (f j).kb
  place : ∀ j, j < k → 0 < (f j).kn → bs < kb j ∧ kb j < wr.heap.size
  apart : KidsApart kb k f

theorem Half.below {wr w' : World} {bs n k : Nat} {f : Nat → SlotD} {kb : Nat → Nat} {kv cv : Nat → Value} (h : Half wr bs n k f kb kv cv) (t : Below wr.heap.size wr w') : Half w' bs n k f kb kv cv :=
  ⟨fun j hj => ⟨(h.cells j hj).1.below t, (h.cells j hj).2.1.below t, (h.cells j hj).2.2.below t⟩, fun j hj => (h.kids j hj).below t, fun j hj h0 => by have := h.place j hj h0; have := t.size; omega, h.apart⟩

theorem Half.next {wr w1 : World} {bs n k b : Nat} {f : Nat → SlotD} {kb : Nat → Nat} {kv cv : Nat → Value} {v : Value} (h : Half wr bs n k f kb kv cv) (hk : k < n) (hbs : bs < wr.heap.size) (t : Below wr.heap.size wr w1)
    (hp : PtrsOwn w1 b v (f k).kn (f k).ks (f k).kb) (hb : 0 < (f k).kn → wr.heap.size ≤ b ∧ b < w1.heap.size) :
    Half (((w1.setCell ⟨bs, k * 3, none⟩ (.int .i64 (f k).birth)).setCell ⟨bs, k * 3 + 1, none⟩ v).setCell ⟨bs, k * 3 + 2, none⟩ (.string (f k).data)) bs n (k + 1) f (fun j => if j = k then b else kb j) (fun j => if j = k then v else kv j) cv := by
  have h' := h.below t
  refine ⟨fun j hj => ?_, fun j hj => ?_, fun j hj h0 => ?_, fun i j hi hj hij h1 h2 => ?_⟩
  · obtain ⟨c0, c1, c2⟩ := h'.cells j hj
    by_cases e : j = k
    · subst e
      rw [if_pos (by omega), if_pos rfl]
      exact ⟨((c0.set _).other _ (Or.inr (by omega))).other _ (Or.inr (by omega)), ((c1.other _ (Or.inr (by omega))).set _).other _ (Or.inr (by omega)), ((c2.other _ (Or.inr (by omega))).other _ (Or.inr (by omega))).set _⟩
    · rw [if_neg e]
      have es : (if j < k + 1 then kv j else cv j) = if j < k then kv j else cv j := by
        by_cases e2 : j < k
        · rw [if_pos e2, if_pos (by omega)]
        · rw [if_neg e2, if_neg (by omega)]
      rw [es]
      exact ⟨((c0.other _ (Or.inr (by omega))).other _ (Or.inr (by omega))).other _ (Or.inr (by omega)), ((c1.other _ (Or.inr (by omega))).other _ (Or.inr (by omega))).other _ (Or.inr (by omega)), ((c2.other _ (Or.inr (by omega))).other _ (Or.inr (by omega))).other _ (Or.inr (by omega))⟩
  · by_cases e : j = k
    · subst e
      simp only [if_true]
      refine ((hp.turned (Turned.put _ _ _ _) ?_).turned (Turned.put _ _ _ _) ?_).turned (Turned.put _ _ _ _) ?_
      all_goals exact fun h0 hx => by have := hb h0; omega
    · simp only [if_neg e]
      refine (((h'.kids j (by omega)).turned (Turned.put _ _ _ _) ?_).turned (Turned.put _ _ _ _) ?_).turned (Turned.put _ _ _ _) ?_
      all_goals exact fun h0 hx => by have := h'.place j (by omega) h0; omega
  · simp only [World.size_setCell]
    by_cases e : j = k
    · subst e
      rw [if_pos rfl]
      have := hb h0
      omega
    · rw [if_neg e]
      have := h'.place j (by omega) h0
      omega
  · show (if i = k then b else kb i) ≠ (if j = k then b else kb j)
    by_cases e1 : i = k
    · by_cases e2 : j = k
      · omega
      · rw [if_pos e1, if_neg e2]
        subst e1
        have := hb h1
        have := h.place j (by omega) h2
        omega
    · by_cases e2 : j = k
      · rw [if_neg e1, if_pos e2]
        subst e2
        have := hb h2
        have := h.place i (by omega) h1
        omega
      · rw [if_neg e1, if_neg e2]
        exact h.apart i j (by omega) (by omega) hij h1 h2

theorem Half.own {wr : World} {bs n : Nat} {f : Nat → SlotD} {kb : Nat → Nat} {kv cv : Nat → Value} {a : Option Addr} {c : Nat} (h : Half wr bs n n f kb kv cv) (hm : n ≤ maxLen) (ha : 0 < n → a = some ⟨bs, 0, none⟩) (hc : n ≤ c) (hs : ∀ j, j < n → (f j).data.size ≤ maxLen) : SlotsOwn wr bs kb kv (.slice a n c) n f :=
  ⟨hm, a, c, rfl, hc, fun h0 => ⟨0, ha h0, fun i hi => by
    obtain ⟨c0, c1, c2⟩ := h.cells i hi
    rw [if_pos hi] at c1
    rw [Nat.zero_add]
    exact ⟨c0, c1, c2, h.kids i hi, hs i hi, fun hk e => by have := h.place i hi hk; omega⟩⟩⟩

set_option maxRecDepth 20000 in
set_option maxHeartbeats 1000000 in
theorem cloneSlots_any (v : Value) (n lo hi : Nat) (f : Nat → SlotD) (w : World) (h1 : SlotsAt w lo hi v n f) (hn : n ≤ 1048576) (hk : ∀ j, j < n → (f j).kn ≤ 1048576) :
    Calls Try.prog 49 #[v] w fun e w' => ∃ v' bs kb kv, e = .returned v' ∧ SlotsOwn w' bs kb kv v' n f ∧ KidsApart kb n f ∧ (∀ k, SlotsB bs kb n f k → w.heap.size ≤ k ∧ k < w'.heap.size) ∧ Below w.heap.size w w' := by
  have Hm := hide h1.1
  have q1 := h1
  obtain ⟨_, a, c, rfl, _, _⟩ := h1
  obtain ⟨cv, hcv, hsrc⟩ := q1.values
  have Hcv := hide hcv
  have Hk := hide hk
  have hsrc' : 0 < n → ∃ b off, a = some ⟨b, off, none⟩ ∧ ∀ j u, (sc f cv n)[j]? = some u → w.cell? ⟨b, off + j, none⟩ = some u := fun h0 => by
    obtain ⟨b, off, h2, _, _, h3⟩ := hsrc h0
    exact ⟨b, off, h2, h3⟩
  have hone := sc_one f cv n (fun i hi => by obtain ⟨ka, kc, e⟩ := (hcv i hi).form; rw [e]; rfl)
  clear hcv hk q1 hsrc
  go_enter Try.func49, Try.ntmps49
  go_wp2_with fail
  refine (cloneSlots_row a n c (sc f cv n) w (sc_len _ _ _) hone hn hsrc').mono ?_
  rintro e w1 ⟨v', rfl, hown, hb1, _⟩
  obtain ⟨a1, c1, rfl, hnc⟩ := owns_form hown
  clear hone hsrc'
  have hbs : ∃ bs, (0 < n → a1 = some ⟨bs, 0, none⟩ ∧ w.heap.size ≤ bs ∧ bs < w1.heap.size) ∧ Half w1 bs n 0 f (fun _ => 0) cv cv := by
    by_cases h0 : 0 < n
    · obtain ⟨g, cap, hv, _, hg1, hg2, hcell⟩ := owns_cell hown h0
      simp only [Value.slice.injEq, true_and] at hv
      obtain ⟨rfl, rfl⟩ := hv
      refine ⟨g, fun _ => ⟨rfl, hg1, hg2⟩, fun j hj => ⟨?_, ?_, ?_⟩, fun j hj => absurd hj (Nat.not_lt_zero _), fun j hj => absurd hj (Nat.not_lt_zero _), fun i j hi => absurd hi (Nat.not_lt_zero _)⟩
      · have := hcell (j * 3 + 0) _ (sc_at f cv n j 0 hj (by omega)); simpa using this
      · have := hcell (j * 3 + 1) _ (sc_at f cv n j 1 hj (by omega)); simpa using this
      · have := hcell (j * 3 + 2) _ (sc_at f cv n j 2 hj (by omega)); simpa using this
    · exact ⟨0, fun h => absurd h h0, fun j hj => absurd hj (by omega), fun j hj => absurd hj (Nat.not_lt_zero _), fun j hj => absurd hj (Nat.not_lt_zero _), fun i j hi => absurd hi (Nat.not_lt_zero _)⟩
  obtain ⟨bs, hbs, hhalf⟩ := hbs
  have Hbs := hide hbs
  have Hhalf := hide hhalf
  clear hown hbs hhalf
  go_wp2
  go_loopw [4, 5, 10] (fun _ _ i wr => ∃ (k : Nat) (kb : Nat → Nat) (kv : Nat → Value), k ≤ n ∧ i = .int .i64 k ∧ Half wr bs n k f kb kv cv ∧ Below w.heap.size w wr ∧ w1.heap.size ≤ wr.heap.size) (fun _ _ i _ => n - (intOf i).toNat)
  case atStart => exact ⟨0, _, _, Nat.zero_le _, rfl, Hhalf.out, hb1, Nat.le_refl _⟩
  case round =>
    obtain ⟨k, kb, kv, hk, rfl, hh, hb, hz⟩ := hrel
    have Hh := hide hh
    clear hh
    by_cases hlt : k < n
    · have hlt' : (k : Int) < (n : Int) := by omega
      obtain ⟨rfl, hg1, hg2⟩ := Hbs.out (by omega)
      obtain ⟨ka, kc, hcv⟩ := (Hcv.out k hlt).form
      have Hsl : Hid (SlotAt wr lo hi (.int .i64 (f k).birth) (.slice ka (f k).kn kc) (.string (f k).data) (f k)) := by
        have := (Hcv.out k hlt).below hb
        rw [hcv] at this
        exact this
      obtain ⟨⟨q0, r0⟩, q1, ⟨q2, r2⟩⟩ := Hh.out.cells k hlt
      rw [if_neg (by omega), hcv] at q1
      obtain ⟨q1, r1⟩ := q1
      go_wp2_with fail
      have ha := below_alloc wr (.cells #[.int .i64 (f k).birth, .slice ka (f k).kn kc, .string (f k).data] 29)
      refine (cloneSlot_any _ _ _ lo hi (f k) _ (Hsl.out.below ha) (Hk.out k hlt)).mono ?_
      rintro e w2 ⟨nv, nb, rfl, hp2, hpl2, hb2⟩
      obtain ⟨_, na, nc, rfl, _⟩ := id hp2
      have hbx := below_next ha hb2
      have Hn2 := hide (Hh.out.next hlt (by omega) hbx hp2 (fun h0 => by have := hpl2 h0; rw [World.size_alloc] at this; omega))
      have hbn := below_next hb hbx
      have hzn := hbx.size
      clear q0 q1 q2 r0 r1 r2
      obtain ⟨⟨q0, r0⟩, q1, ⟨q2, r2⟩⟩ := (Hh.out.below hbx).cells k hlt
      rw [if_neg (by omega), hcv] at q1
      obtain ⟨q1, r1⟩ := q1
      clear hp2 hpl2 hb2 ha hbx hcv
      go_wp2
      go_roundw
      case rel => exact ⟨k + 1, _, _, by omega, by go_num, Hn2.out, ((hbn.setCell hg1 _).setCell hg1 _).setCell hg1 _, by simp only [World.size_setCell]; omega⟩
      case measure => simp [intOf]; omega
    · obtain rfl : k = n := by omega
      go_wp2
      go_ret
      refine ⟨_, bs, kb, kv, rfl, Hh.out.own Hm.out (fun h0 => (Hbs.out h0).1) hnc (fun j hj => (Hcv.out j hj).2.2.2), Hh.out.apart, fun j hj => ?_, hb⟩
      rcases hj with ⟨h0, rfl⟩ | ⟨i, hi, h0, rfl⟩
      · have := Hbs.out h0; omega
      · have := Hbs.out (by omega); have := Hh.out.place i hi h0; omega

set_option maxRecDepth 20000 in
set_option maxHeartbeats 1000000 in
theorem clonePool_any (v0 v1 : Value) (lo hi : Nat) (p : PoolD) (w : World) (h1 : PoolAt w lo hi v0 v1 p) (hn : poolN p ≤ 1048576) : Calls Try.prog 51 #[.agg #[v0, v1]] w (NewPool p w) := by
  have Hp := hide h1
  obtain ⟨⟨m1, a, c, rfl, mc, g1⟩, ⟨m2, a', c', rfl, mc', g2⟩⟩ := h1
  have Hm := hide (And.intro m1 m2)
  clear g1 g2 m1 m2
  unfold poolN at hn
  have Hn : Hid (∀ j, j < p.n → (p.s j).kn ≤ 1048576) := fun j hj => by have h2 := slotN_le p.s hj; unfold slotN at h2; omega
  have hn1 : p.n ≤ 1048576 := by omega
  have hn2 : p.hn ≤ 1048576 := by omega
  clear hn
  have ha1 := below_alloc w (.cells #[.slice a p.n c, .slice a' p.hn c'] 26)
  have hba := below_next ha1 (below_alloc _ (.cells #[.slice none 0 0, .slice none 0 0] 26))
  have HB := hide ((Box2.new w (.slice a p.n c) (.slice a' p.hn c') 26).below (below_alloc _ (.cells #[.slice none 0 0, .slice none 0 0] 26)))
  have hr3 := Box2.new (w.alloc (.cells #[.slice a p.n c, .slice a' p.hn c'] 26)) (.slice none 0 0) (.slice none 0 0) 26
  rw [World.size_alloc] at hr3
  have HR := hide hr3
  clear ha1 hr3
  go_enter Try.func51, Try.ntmps51
  go_wp2_with fail
  generalize hW : (w.alloc (.cells #[.slice a p.n c, .slice a' p.hn c'] 26)).alloc (.cells #[.slice none 0 0, .slice none 0 0] 26) = W at HB HR hba ⊢
  have hz : W.heap.size = w.heap.size + 2 := by rw [← hW, World.size_alloc, World.size_alloc]
  clear hW
  obtain ⟨⟨x0, x1⟩, ⟨x2, x3⟩⟩ := HB.out
  obtain ⟨⟨y0, y1⟩, ⟨y2, y3⟩⟩ := HR.out
  go_region_held3 (fun w' => w'.cell? ⟨w.heap.size, 0, none⟩ = some (.slice a p.n c) ∧ w'.cell? ⟨w.heap.size, 1, none⟩ = some (.slice a' p.hn c')) (go_keep)
    (first
      | (go_at_call 49; refine (cloneSlots_any _ p.n lo hi p.s _ ?_ hn1 Hn.out).mono ?_; (exact Hp.out.1.below hba.drew); rintro e w1 ⟨v', bs, kb, kv, rfl, ho, hap, hpl, hb1⟩; obtain ⟨_, sa, sc', rfl, _⟩ := id ho; have hb1' := below_undrew hb1; obtain ⟨⟨z0, z1⟩, ⟨z2, z3⟩⟩ := HB.out.below hb1')
      | (go_at_call 89; refine (cloneInts_row _ _ _ (ic p.h p.hn) _ (ic_len _ _) (ic_one _ _) hn2 ?_).mono ?_; (exact news_at Hp.out.2 rfl (below_next hba hb1')); rintro e w2 ⟨v', rfl, hown, hb2, hz0⟩; obtain ⟨ia, ic', rfl, _⟩ := owns_form hown; have hb2' := below_next hb1' hb2; obtain ⟨⟨z4, z5⟩, ⟨z6, z7⟩⟩ := HB.out.below hb2'; have HR2 := hide (HR.out.below hb2'); obtain ⟨⟨z8, z9⟩, ⟨z10, z11⟩⟩ := HR.out.below hb2'))
  obtain ⟨hb, hint, hipl⟩ := ints_of_owns Hm.out.2 hown hz0
  have hz1 : W.heap.size ≤ w1.heap.size := hb1'.size
  have hz2 : w1.heap.size ≤ w2.heap.size := hb2.size
  have hpl' : ∀ k, SlotsB bs kb p.n p.s k → W.heap.size ≤ k ∧ k < w1.heap.size := hpl
  have Hpo : Hid (PoolOwn w2 (w.heap.size + 2) w2.heap.size (.slice sa p.n sc') (.slice ia p.hn ic') p) := by
    refine ⟨bs, hb, kb, kv, ho.below hb2, hap, hint, fun h0 hx => ?_, fun k hk => ?_⟩
    · have := hpl' _ hx; have := hipl h0; omega
    · rcases hk with hk | ⟨h0, rfl⟩
      · have := hpl' _ hk; omega
      · have := hipl h0; omega
  have hbw := below_next hba hb2'
  clear hint hipl hpl hpl' ho hap hown hb1 hb1' hb2 hb2'
  go_wp2
  have HR6 := HR2.out.put (.slice sa p.n sc') (.slice ia p.hn ic')
  refine bodyPost_ret (v := .agg #[.slice sa p.n sc', .slice ia p.hn ic']) (by simp [results, Try.results51, go_sem, HR6.1.1, HR6.2.1]) rfl ⟨_, _, rfl, ?_, ?_⟩
  · have t := (Turned.put w2 (w.heap.size + 1) 0 (.slice sa p.n sc')).trans (Turned.put _ (w.heap.size + 1) 1 (.slice ia p.hn ic'))
    have hz := t.size
    exact (Hpo.out.turned t (fun k hk => by omega)).wide (by omega) hz
  · exact (hbw.setCell (by show _ ≤ w.heap.size + 1; omega) _).setCell (by show _ ≤ w.heap.size + 1; omega) _

end Go.Proofs.Ytjbcjlednedboaa
